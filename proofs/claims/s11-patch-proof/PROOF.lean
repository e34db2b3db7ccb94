import PyProof.Rows.All
import Wide.All
import OpenK.AllK
import Wide.FinOn
import PyProof.EqAt
import PyProof.EqKinds
import PyProof.TupleCall
import Open.SpecLaws
import KE.OsHead
import KE.OsGo
import PyProof.ExcInit
import PyProof.InstStoreFacts
import PyProof.StationsW
import PyProof.ExcBaseAll.Exception
import PyProof.ExcAttrAll.Exception
import PyProof.RulesAs
import KE.KTryMore
import PyProof.JoinWalk
import PyProof.CollectIter
import KE.KRevIter
import PyProof.ConsumeWalk
import PySem.Challenge.RW_onevalues_s11_patch
set_option linter.all false
set_option Elab.async false
set_option maxRecDepth 100000
set_option maxHeartbeats 4000000
set_option genSizeOf false
local macro_rules | `(def $i:declId $s:optDeclSig $v:declVal)=>`(noncomputable def $i:declId $s:optDeclSig $v:declVal)
local macro_rules | `(abbrev $i:declId $s:optDeclSig $v:declVal)=>`(noncomputable abbrev $i:declId $s:optDeclSig $v:declVal)
abbrev Fg_:=PySem.W.Frag
abbrev ae:=@List.length_append
abbrev ah:=@decide_eq_true
abbrev ai:=@decide_eq_false
abbrev ao:=@List.length_cons
abbrev aq:=@List.mem_append_right
abbrev au:=@List.length_map
abbrev ax:=@if_pos
abbrev ay:=@if_neg
abbrev aA:=@List.mem_cons_of_mem
abbrev aB:=@List.mem_append_left
abbrev aD:=@List.length_drop
abbrev aE:=@Bool.and_eq_true
abbrev aF:=@Nat.le_refl
abbrev aH:=@PySem.wpAny_bind
abbrev aI:=@List.mem_cons
abbrev aK:=@List.getElem?_eq_some_iff
abbrev aL:=@PySem.Heap.get?_push_of_some
abbrev aM:=@List.mem_append
abbrev aN:=@List.mem_singleton
abbrev aO:=@List.getElem?_eq_getElem
abbrev aP:=@List.length_take
abbrev aQ:=@List.map_append
abbrev aR:=@Nat.lt_of_lt_of_le
abbrev aT:=@Bool.false_ne_true
abbrev aU:=@List.size_toArray
abbrev aV:=@Option.some.inj
abbrev aW:=@absurd
abbrev aX:=@Nat.zero_le
abbrev aY:=@List.append_assoc
abbrev aZ:=@PySem.Heap.lt_size
abbrev a7:=@List.mem_cons_self
abbrev a8:=@Nat.le_add_left
abbrev a9:=@List.length_singleton
abbrev ba:=@Ne.symm
abbrev bc:=@List.nodup_cons
abbrev bg:=@Nat.le_of_not_lt
abbrev bh:=@Nat.add_assoc
abbrev bj:=@List.map_cons
abbrev bo:=@PySem.boot_len
abbrev bp:=@PySem.F.plainAttrs_list
abbrev br:=@List.getElem?_take_of_lt
abbrev bt:=@List.getElem?_map
abbrev bu:=@beq_eq_false_iff_ne
abbrev bw:=@decide_eq_true_eq
abbrev bx:=@PySem.Heap.get?_push_size
abbrev bz:=@List.getLast?_eq_none_iff
abbrev bA:=@Nat.le_of_succ_le_succ
abbrev bF:=@List.nodup_append
abbrev bG:=@Nat.ne_of_lt
abbrev bH:=@Nat.le_trans
abbrev bJ:=@List.append_nil
abbrev bM:=@PySem.wpAny_pure
abbrev bO:=@Nat.succ_le_succ
abbrev bT:=@PySem.mem_of_lookup
abbrev bW:=@List.drop_eq_getElem_cons
abbrev b8:=@Nat.le_add_right
abbrev cg:=@List.getElem?_append_left
abbrev cq:=@Nat.le_of_lt
abbrev cu:=@Nat.le_antisymm
abbrev cv:=@List.getElem?_eq_none_iff
abbrev cw:=@Nat.lt_irrefl
abbrev cy:=@List.drop_drop
abbrev cA:=@Array.getElem?_eq_some_iff
abbrev cC:=@List.take_of_length_le
abbrev cG:=@List.eq_nil_or_concat
abbrev cH:=@List.concat_eq_append
abbrev cI:=@Nat.min_eq_left
abbrev cO:=@List.getLast?_eq_getElem?
abbrev cQ:=@Nat.div_div_eq_div_mul
abbrev cV:=@Int.natCast_nonneg
abbrev cX:=@List.cons_append
abbrev cZ:=@List.getElem?_concat_length
abbrev de:=@List.length_eq_zero_iff
abbrev df:=@Nat.sub_succ_lt_self
abbrev di:=@List.mem_of_getElem?
abbrev dj:=@Nat.add_comm
abbrev du:=@List.take_append_drop
abbrev dA:=@Nat.not_lt_zero
abbrev dB:=@List.length_nil
abbrev dH:=@List.perm_iff_count
abbrev dN:=@Bool.or_eq_true
abbrev dP:=@Array.getElem?_toList
abbrev dQ:=@Nat.lt_of_not_le
abbrev dR:=@Nat.lt_of_le_of_lt
abbrev dS:=@Nat.add_right_comm
abbrev dU:=@List.all_eq_true
abbrev dX:=@List.mem_map
abbrev dZ:=@List.getElem?_of_mem
abbrev d6:=@Nat.add_sub_cancel_left
abbrev d7:=@List.count_append
abbrev d8:=@List.mem_map_of_mem
abbrev d9:=@Array.length_toList
abbrev eB:=@Nat.not_lt_of_le
abbrev eC:=@List.lookup_cons
abbrev eD:=@List.take_zero
abbrev eE:=@List.drop_left
abbrev eH:=@Array.getElem?_eq_getElem
abbrev eP:=@Nat.zero_add
abbrev eQ:=@List.take_add_one
abbrev eS:=@List.reverse_cons
abbrev eT:=@List.map_map
abbrev eU:=@List.dropLast_concat
abbrev eV:=@Int.toNat_natCast
abbrev eW:=@List.take_add
abbrev eX:=@Array.getElem?_setIfInBounds_ne
abbrev eZ:=@List.length_reverse
abbrev ff:=@List.drop_zero
abbrev fh:=@PySem.Str.ofString_eq_toList
abbrev fi:=@PySem.W.ns_none_of
abbrev fj:=@Nat.ne_of_gt
abbrev fk:=@List.contains_cons
abbrev fq:=@Nat.div_add_mod
abbrev ft:=@List.nil_append
abbrev fA:=@Nat.le_succ_of_le
abbrev fE:=@Nat.add_le_of_le_sub
abbrev fF:=@Nat.add_le_add
abbrev fG:=@List.getElem?_append_right
abbrev fH:=@List.getElem?_append
abbrev fJ:=@Bool.false_and
abbrev fL:=@Nat.succ_pos
abbrev fM:=@Nat.le_of_eq
abbrev fN:=@List.take_length
abbrev fO:=@List.drop_length
abbrev fP:=@Int.lt_of_not_ge
abbrev fT:=@Nat.add_le_add_left
abbrev fU:=@List.take_succ_cons
abbrev fV:=@List.takeWhile_cons
abbrev fZ:=@List.count_cons
abbrev f9:=@Nat.lt_of_le_of_ne
abbrev gb:=@List.getElem?_drop
abbrev gf:=@List.getLast?_cons_cons
abbrev gi:=@List.getElem?_replicate
abbrev gq:=@Option.map_eq_some_iff
abbrev gu:=@Nat.pow_succ
abbrev gv:=@Nat.le_of_succ_le
abbrev gw:=@Nat.add_zero
abbrev gy:=@List.getElem?_set_self
abbrev gz:=@List.filter_eq_nil_iff
abbrev gA:=@List.drop_of_length_le
abbrev gC:=@Bool.and_false
abbrev gD:=@List.eraseIdxIfInBounds_toArray
abbrev gE:=@Nat.sub_eq_zero_of_le
abbrev gF:=@List.length_replicate
abbrev gG:=@List.getElem?_eq_none
abbrev gR:=@Nat.not_le_of_lt
abbrev gS:=@List.filter_cons
abbrev gU:=@List.map_take
abbrev gW:=@List.all_cons
abbrev gX:=@Bool.true_and
abbrev g9:=@Nat.div_lt_of_lt_mul
abbrev hJ:=@List.getElem?_set_ne
abbrev ia:=@List.of_mem_zip
abbrev ib:=@Bool.eq_iff_iff
abbrev ic:=@List.filterMap_cons
abbrev ip:=@Nat.sub_self
abbrev iG:=@Nat.add_sub_cancel
abbrev iH:=@List.take_left
abbrev iI:=@List.mapM_cons
abbrev iO:=@Nat.lt_succ_of_lt
abbrev iR:=@List.sum_cons
abbrev iS:=@List.map_drop
abbrev je:=@Nat.lt_succ_self
abbrev jf:=@List.take_append
abbrev jg:=@Int.not_lt_of_ge
abbrev jt:=@Nat.lt_trans
theorem leL{a b c:Nat}(h:a=b)(k:a<=c):b<=c:=h▸k
theorem leR{a b c:Nat}(h:a=b)(k:c<=a):c<=b:=h▸k
theorem ciL{a b:Nat}(h:a<b):(a:Int)<b:=Int.ofNat_lt.mpr h
theorem ciE{a b:Nat}(h:a<=b):(a:Int)<=b:=Int.ofNat_le.mpr h
theorem icL{a b:Nat}(h:(a:Int)<b):a<b:=Int.ofNat_lt.mp h
theorem icE{a b:Nat}(h:(a:Int)<=b):a<=b:=Int.ofNat_le.mp h
theorem icQ{a b:Nat}(h:(a:Int)=b):a=b:=Int.ofNat.inj h
namespace L2
theorem ex2{A : Sort _}{B : A -> Sort _}{p : (a : A) -> B a -> Prop}(a : A)(b : B a)(h : p a b) : ∃ a b, p a b := ⟨a, b, h⟩
theorem ex3{A B C : Sort _}{p : A -> B -> C -> Prop}(a : A)(b : B)(c : C)(h : p a b c) : ∃ a b c, p a b c := ⟨a, b, c, h⟩
theorem ex4{A B C D : Sort _}{p : A -> B -> C -> D -> Prop}(a : A)(b : B)(c : C)(d : D)(h : p a b c d) : ∃ a b c d, p a b c d := ⟨a, b, c, d, h⟩
theorem ex5{A B C D E : Sort _}{p : A -> B -> C -> D -> E -> Prop}(a : A)(b : B)(c : C)(d : D)(e : E)(h : p a b c d e) : ∃ a b c d e, p a b c d e := ⟨a, b, c, d, e, h⟩
theorem ex6{A B C D E F : Sort _}{p : A -> B -> C -> D -> E -> F -> Prop}(a : A)(b : B)(c : C)(d : D)(e : E)(f : F)(h : p a b c d e f) : ∃ a b c d e f, p a b c d e f := ⟨a, b, c, d, e, f, h⟩
theorem ex7{A B C D E F G : Sort _}{p : A -> B -> C -> D -> E -> F -> G -> Prop}(a : A)(b : B)(c : C)(d : D)(e : E)(f : F)(g : G)(h : p a b c d e f g) : ∃ a b c d e f g, p a b c d e f g := ⟨a, b, c, d, e, f, g, h⟩
theorem ex8{A B C D E F G H : Sort _}{p : A -> B -> C -> D -> E -> F -> G -> H -> Prop}(a : A)(b : B)(c : C)(d : D)(e : E)(f : F)(g : G)(h : H)(z : p a b c d e f g h) : ∃ a b c d e f g h, p a b c d e f g h := ⟨a, b, c, d, e, f, g, h, z⟩
theorem e3_{A0 A1 A2 : Sort _}{p : A0 -> A1 -> A2 -> Prop}{G : Prop}(h : ∃ a b c, p a b c)(k : ∀ a b c, p a b c -> G) : G := by obtain ⟨a, b, c, z⟩ := h; exact k a b c z
theorem e4_{A0 A1 A2 A3 : Sort _}{p : A0 -> A1 -> A2 -> A3 -> Prop}{G : Prop}(h : ∃ a b c d, p a b c d)(k : ∀ a b c d, p a b c d -> G) : G := by obtain ⟨a, b, c, d, z⟩ := h; exact k a b c d z
theorem e6_{A0 A1 A2 A3 A4 A5 : Sort _}{p : A0 -> A1 -> A2 -> A3 -> A4 -> A5 -> Prop}{G : Prop}(h : ∃ a b c d e f, p a b c d e f)(k : ∀ a b c d e f, p a b c d e f -> G) : G := by obtain ⟨a, b, c, d, e, f, z⟩ := h; exact k a b c d e f z
theorem e8_{A0 A1 A2 A3 A4 A5 A6 A7 : Sort _}{p : A0 -> A1 -> A2 -> A3 -> A4 -> A5 -> A6 -> A7 -> Prop}{G : Prop}(h : ∃ a b c d e f g i, p a b c d e f g i)(k : ∀ a b c d e f g i, p a b c d e f g i -> G) : G := by obtain ⟨a, b, c, d, e, f, g, i, z⟩ := h; exact k a b c d e f g i z
theorem e9_{A0 A1 A2 A3 A4 A5 A6 A7 A8 : Sort _}{p : A0 -> A1 -> A2 -> A3 -> A4 -> A5 -> A6 -> A7 -> A8 -> Prop}{G : Prop}(h : ∃ a b c d e f g i j, p a b c d e f g i j)(k : ∀ a b c d e f g i j, p a b c d e f g i j -> G) : G := by obtain ⟨a, b, c, d, e, f, g, i, j, z⟩ := h; exact k a b c d e f g i j z
theorem c3_{P0 P1 P2 G : Prop}(k : P0 -> P1 -> P2 -> G)(h : P0 /\ P1 /\ P2) : G := by obtain ⟨a, b, c⟩ := h; exact k a b c
theorem c5_{P0 P1 P2 P3 P4 G : Prop}(k : P0 -> P1 -> P2 -> P3 -> P4 -> G)(h : P0 /\ P1 /\ P2 /\ P3 /\ P4) : G := by obtain ⟨a, b, c, d, e⟩ := h; exact k a b c d e
theorem c6_{P0 P1 P2 P3 P4 P5 G : Prop}(k : P0 -> P1 -> P2 -> P3 -> P4 -> P5 -> G)(h : P0 /\ P1 /\ P2 /\ P3 /\ P4 /\ P5) : G := by obtain ⟨a, b, c, d, e, f⟩ := h; exact k a b c d e f
theorem c8_{P0 P1 P2 P3 P4 P5 P6 P7 G : Prop}(k : P0 -> P1 -> P2 -> P3 -> P4 -> P5 -> P6 -> P7 -> G)(h : P0 /\ P1 /\ P2 /\ P3 /\ P4 /\ P5 /\ P6 /\ P7) : G := by obtain ⟨a, b, c, d, e, f, g, i⟩ := h; exact k a b c d e f g i
open PySem PySem.Spec PyProof.Rows
abbrev Key:=Sum Int Str
def zf:Key->Value->Bool
 | .inl k,v=>Value.isInt k v
 | .inr x,v=>Value.isStrOf x v
def keyH(w:World):Key->Int
 | .inl k=>hashInt k
 | .inr x=>hashStr w x
theorem eO:∀{k:Key}{v:Value},zf k v=true->(∃i t,k=Sum.inl i/\v=Value.int i t)\/(∃x t,k=Sum.inr x/\v=Value.str x t)
 | .inl i,v,h=>by
  obtain⟨t,e⟩:=Value.isInt_shape (k:=i) (v:=v) h
  exact .inl ⟨i,t,rfl,e⟩
 | .inr x,v,h=>by
  obtain⟨t,e⟩:=Value.isStrOf_shape (x:=x) (v:=v) h
  exact .inr ⟨x,t,rfl,e⟩
theorem AL(a b:Int):decide ((Sum.inl a:Key)=Sum.inl b)=(a==b):=by
 by_cases e:a=b
 .subst e;simp
 .have h:¬(Sum.inl a:Key)=Sum.inl b:=λq=>e (Sum.inl.inj q)
  rw[ai h];exact(bu.mpr e).symm
theorem AI(a b:Str):decide ((Sum.inr a:Key)=Sum.inr b)=decide (a=b):=by
 by_cases e:a=b
 .subst e;simp
 .have h:¬(Sum.inr a:Key)=Sum.inr b:=λq=>e (Sum.inr.inj q)
  rw[ai h,ai e]
theorem AK(a:Int)(b:Str):decide ((Sum.inl a:Key)=Sum.inr b)=false:=ai (λq=>nomatch q)
theorem AJ(a:Str)(b:Int):decide ((Sum.inr a:Key)=Sum.inl b)=false:=ai (λq=>nomatch q)
def qp(prog:Program)(w:World):PySem.KeyKind prog w Key where
 is:=zf
 hash:=keyH w
 inj:=λv a b ha hb=>by
  rcases eO ha with⟨i,t,rfl,rfl⟩ | ⟨x,t,rfl,rfl⟩
  .rcases eO hb with⟨j,u,rfl,e⟩ | ⟨y,u,rfl,e⟩
   .injection e with e1 _;rw[e1]
   .exact nomatch e
  .rcases eO hb with⟨j,u,rfl,e⟩ | ⟨y,u,rfl,e⟩
   .exact nomatch e
   .injection e with e1 _;rw[e1]
 byValue:=λk v h=>by
  rcases eO h with⟨i,t,rfl,rfl⟩ | ⟨x,t,rfl,rfl⟩<;>rfl
 pyHash:=λhv h=>by
  rcases eO hv with⟨i,t,rfl,rfl⟩ | ⟨x,t,rfl,rfl⟩
  .exact wpAny_pyHash_int h
  .exact wpAny_pyHash_str h
 eqBool:=λhu hv h=>by
  rcases eO hu with⟨i,t,rfl,rfl⟩ | ⟨x,t,rfl,rfl⟩
  .rcases eO hv with⟨j,u,rfl,rfl⟩ | ⟨y,u,rfl,rfl⟩
   .rw[AL]at h;exact wpAny_eqBool_int h
   .rw[AK]at h;exact SeqAt.EqAt.int_str i t y u _ _ _ _ h
  .rcases eO hv with⟨j,u,rfl,rfl⟩ | ⟨y,u,rfl,rfl⟩
   .rw[AJ]at h;exact SeqAt.EqAt.str_int x t j u _ _ _ _ h
   .rw[AI]at h;exact wpAny_eqBool_str h
 «strs»:=λk x t v h=>by
  rcases eO h with⟨i,u,rfl,e⟩ | ⟨y,u,rfl,e⟩
  .exact nomatch e
  .injection e with e1 _;subst e1;cases v<;>rfl
inductive V where
 | non | bl (b:Bool) | int (i:Int) | str (x:Str) | byt (b:Array UInt8) | flt (b:UInt64) | ref (a:Addr) | ty (n:String)
 deriving DecidableEq
def dw:V->Value->Prop
 | .non,u=>u=Value.none
 | .bl b,u=>u=Value.bool b
 | .int i,u=>∃t,u=Value.int i t
 | .str x,u=>∃t,u=Value.str x t
 | .byt b,u=>∃t,u=Value.bytes b t
 | .flt b,u=>∃t,u=Value.float b t
 | .ref a,u=>u=Value.ref a
 | .ty n,u=>u=Value.type n
abbrev cJ:List V->List Value->Prop:=Paired dw
theorem cJ.length{xs:List V}{us:List Value}(r:cJ xs us):xs.length=us.length:=Paired.length r
theorem cJ.get:∀{xs:List V}{us:List Value}{i:Nat}{x:V},cJ xs us->xs[i]? =some x->∃u,us[i]? =some u/\dw x u
 | _,_,_,_,.nil,e=>by simp at e
 | _,_,0,_,.cons r _,e=>by simp at e;subst e;exact⟨_,rfl,r⟩
 | _,_,i+1,x,.cons _ t,e=>by
  obtain⟨u,h1,h2⟩:=cJ.get (i:=i) (x:=x) t (by simpa using e)
  exact⟨u,by simpa using h1,h2⟩
theorem cJ.set{x:V}{u:Value}(r:dw x u):∀{xs:List V}{us:List Value}(i:Nat),cJ xs us->cJ (xs.set i x) (us.set i u)
 | _,_,_,.nil=>.nil
 | _,_,0,.cons _ t=>.cons r t
 | _,_,i+1,.cons q t=>.cons q (cJ.set r i t)
theorem cJ.append{xs ys:List V}{us ws:List Value}(h:cJ xs us)(k:cJ ys ws):cJ (xs++ys) (us++ws):=by
 induction h with
 | nil=>exact k
 | cons r t ih=>exact .cons r ih
theorem cJ.take:∀{xs:List V}{us:List Value}(n:Nat),cJ xs us->cJ (xs.take n) (us.take n)
 | _,_,0,_=>.nil
 | _,_,_+1,.nil=>.nil
 | _,_,n+1,.cons r t=>.cons r (cJ.take n t)
theorem cJ.drop:∀{xs:List V}{us:List Value}(n:Nat),cJ xs us->cJ (xs.drop n) (us.drop n)
 | _,_,0,r=>r
 | _,_,_+1,.nil=>.nil
 | _,_,n+1,.cons _ t=>cJ.drop n t
def jN:Option V->Option Value->Prop
 | some v,some u=>dw v u
 | none,none=>True
 | _,_=>False
def KV{κ:Type}:List (κ×V)->List (κ×Value)->Prop:=Paired λ(p:κ×V) (q:κ×Value)=>p.1=q.1/\dw p.2 q.2
def kV:Key->V
 | .inl i=>.int i
 | .inr x=>.str x
inductive HO where
 | lst (xs:List V)
 | tup (xs:List V)
 | dK (Br:List (Key×V)) | dT (Br:List (List Key×V))
 | set (S:Int->Bool) (n:Nat)
 | ins (C dx:Addr) (fs:List (Str×V))
 | own (x:Addr)
 | xd (fs:List (Str×V))
 | met (f x:Addr)
 | rng (lo hi:Int)
 | frz (o:Obj) (u:HO)
 | tbl (ps:Array Value)
 | ext (φ:Heap->Prop)
abbrev Hp:=Addr->Option HO
def upd(H:Hp)(a:Addr)(o:HO):Hp:=λb=>if b=a then some o else H b
theorem aC{H:Hp}{a:Addr}{o:HO}:upd H a o a=some o:=by unfold upd;rw[ax rfl]
theorem aj{H:Hp}{a b:Addr}{o:HO}(h:b≠a):upd H a o b=H b:=by unfold upd;rw[ay h]
theorem dC{H:Hp}{a b:Addr}{o u:HO}(h:H a=some o)(h':H b=some u)(d:o≠u):a≠b:=by
 intro e;subst e;rw[h]at h';exact d (aV h')
theorem ag{H:Hp}{a b:Addr}{o:HO}(h:H a=some o)(h':H b=none):a≠b:=by
 intro e;subst e;rw[h]at h';cases h'
section
variable (P:Program)(w:World)
def fe(H:Hp)(h:Heap)(a:Addr):HO->Prop
 | .lst xs=>xs.length<=sizeLine/\∃(AX:List Value)(n:Nat),cJ xs AX/\h.get? a=some { cls:=.type "list",data:=.seq AX.toArray n }
 | .tup xs=>xs.length<=sizeLine/\∃AX:List Value,cJ xs AX/\IsTup h a AX.toArray
 | .dK Br=>Br.length<=sizeLine/\(a==sysModules)=false/\∃vs,KV Br vs/\h.DictOf (qp P w) a vs
 | .dT Br=>Br.length<=sizeLine/\(a==sysModules)=false/\∃xs:List (List Key×Addr×Value),
   Paired (λ(p:List Key×V) (q:List Key×Addr×Value)=>p.1=q.1/\H q.2.1=some (.tup (p.1.map kV))/\dw p.2 q.2.2) Br xs /\
   ∃o es ep,h.get? a=some o/\o.ExactDict/\o.data =.dict es ep/\es.toList=xs.map (entryOfKey (tupleKind (qp P w)))/\(xs.map (·.1)).Nodup
 | .set S n=>h.SetOf (intKind P w) a S n
 | .ins C dx fs=>H dx=some (.own a)/\fs.length<=1000/\dx≠a/\h.get? a=some (PySem.W.instObj C dx) /\
   ∃mA,h.Ns1 dx mA/\(∀f,jN (fs.lookup f) (mA f))/\PySem.Within mA (fs.map (·.1))
 | .own _=>∃o,h.get? a=some o
 | .xd fs=>∃mA,h.Ns1 a mA/\∀f,jN (fs.lookup f) (mA f)
 | .rng lo hi=>∃t u v,h.get? a=some { cls:=.type "range",data:=.fields #[.int lo t,.int hi u,.int 1 v] }
 | .frz o u=>h.get? a=some o/\fe H h a u
 | .tbl ps=>h.get? a=some { cls:=.none,data:=.fields ps }
 | .met f x=>h.get? a=some (PySem.W.methodObj (.ref f) (.ref x))
 | .ext φ=>φ h/\(∃o,h.get? a=some o)/\∀h1 h2:Heap,φ h1->(∀o,h1.get? a=some o->h2.get? a=some o)->φ h2
def HOk(H:Hp)(h:Heap):Prop:=∀a o,H a=some o->fe P w H h a o
end
section
variable {P:Program}{w:World}{H H':Hp}{h h':Heap}{a:Addr}{o:HO}
theorem fe.lt(x:fe P w H h a o):a<h.objs.size:=by
 cases o with
 | lst xs=>obtain⟨_,_,_,_,e⟩:=x;exact aZ e
 | tup xs=>obtain⟨_,_,_,p⟩:=x;exact p.lt
 | dK Br=>obtain⟨_,_,_,_,o,_,_,e,_⟩:=x;exact aZ e
 | dT Br=>obtain⟨_,_,_,_,o,_,_,e,_⟩:=x;exact aZ e
 | set S n=>obtain⟨o,_,_,_,e,_⟩:=x;exact aZ e
 | ins C dx fs=>obtain⟨_,_,_,e,_⟩:=x;exact aZ e
 | own y=>obtain⟨_,e⟩:=x;exact aZ e
 | xd fs=>obtain⟨_,⟨_,_,_,e,_⟩,_⟩:=x;exact aZ e
 | rng lo hi=>obtain⟨_,_,_,e⟩:=x;exact aZ e
 | frz ob u=>obtain⟨e,_⟩:=x;exact aZ e
 | tbl ps=>exact aZ (show h.get? a=some _ from x)
 | met f y=>exact aZ (show h.get? a=some _ from x)
 | ext φ=>obtain⟨_,⟨_,e⟩,_⟩:=x;exact aZ e
theorem Paired.mapP{α β:Type}{F G:α->β->Prop}{l₁:List α}{l₂:List β}(h:Paired F l₁ l₂)(f:∀a b,F a b->G a b):Paired G l₁ l₂:=by
 induction h with
 | nil=>exact .nil
 | cons r t ih=>exact .cons (f _ _ r) ih
theorem fe.stay(x:fe P w H h a o)(k:∀b u,(b=a\/H b=some (.own a))->h.get? b=some u->h'.get? b=some u)
  (ho:∀b,H b=some (.own a)->H' b=some (.own a))(ht:∀b xs,H b=some (.tup xs)->H' b=some (.tup xs)):fe P w H' h' a o:=by
 induction o with
 | lst xs=>obtain⟨z,AX,n,r,e⟩:=x;exact⟨z,AX,n,r,k _ _ (.inl rfl) e⟩
 | tup xs=>obtain⟨z,AX,r,ob,e,c⟩:=x;exact⟨z,AX,r,ob,k _ _ (.inl rfl) e,c⟩
 | dK Br=>obtain⟨z,y,vs,r,ob,es,ep,e,c⟩:=x;exact⟨z,y,vs,r,ob,es,ep,k _ _ (.inl rfl) e,c⟩
 | dT Br =>
  obtain⟨z,y,xs,r,ob,es,ep,e,c⟩:=x
  exact⟨z,y,xs,Paired.mapP r λp q z=>⟨z.1,ht _ _ z.2.1,z.2.2⟩,ob,es,ep,k _ _ (.inl rfl) e,c⟩
 | set S n=>obtain⟨ob,es,ep,t,e,c⟩:=x;exact⟨ob,es,ep,t,k _ _ (.inl rfl) e,c⟩
 | ins C dx fs =>
  obtain⟨d,z,ne,e,mA,⟨od,es,ep,e2,c⟩,r⟩:=x
  exact⟨ho _ d,z,ne,k _ _ (.inl rfl) e,mA,⟨od,es,ep,k _ _ (.inr d) e2,c⟩,r⟩
 | own y=>obtain⟨ob,e⟩:=x;exact⟨ob,k _ _ (.inl rfl) e⟩
 | xd fs=>obtain⟨mA,⟨od,es,ep,e,c⟩,r⟩:=x;exact⟨mA,⟨od,es,ep,k _ _ (.inl rfl) e,c⟩,r⟩
 | rng lo hi=>obtain⟨t,u,v,e⟩:=x;exact⟨t,u,v,k _ _ (.inl rfl) e⟩
 | frz ob u ih=>obtain⟨e,q⟩:=x;exact⟨k _ _ (.inl rfl) e,ih q⟩
 | tbl ps =>
  have e:h.get? a=some { cls:=.none,data:=.fields ps }:=x
  show h'.get? a=some { cls:=.none,data:=.fields ps }
  exact k a _ (.inl rfl) e
 | met f y =>
  have e:h.get? a=some (PySem.W.methodObj (.ref f) (.ref y)):=x
  show h'.get? a=some (PySem.W.methodObj (.ref f) (.ref y))
  exact k a _ (.inl rfl) e
 | ext φ=>obtain⟨p,⟨o,e⟩,st⟩:=x;exact⟨st _ _ p λo q=>k _ _ (.inl rfl) q,⟨o,k _ _ (.inl rfl) e⟩,st⟩
theorem HOk.lt(x:HOk P w H h)(e:H a=some o):a<h.objs.size:=(x a o e).lt
theorem HOk.fresh(x:HOk P w H h)(e:h.objs.size<=a):H a=none:=by
 cases q:H a with
 | none=>rfl
 | some u=>exact aW (aR (x.lt q) e) (cw _)
theorem HOk.kept(x:HOk P w H h)(k:∀b u,h.get? b=some u->h'.get? b=some u):HOk P w H h':=λa o e =>
 (x a o e).stay (λb u ξ q=>k b u q) (λξ q=>q) λξ ξ q=>q
theorem HOk.laid(x:HOk P w H h)(k:∀b u,h.get? b=some u->h'.get? b=some u)(hp:h.objs.size<=a)(new:fe P w (upd H a o) h' a o):HOk P w (upd H a o) h':=λb u e=>by
 have hn:=x.fresh hp
 by_cases hb:b=a
 .subst hb;rw[aC]at e;cases e;exact new
 .rw[aj hb]at e;exact(x b u e).stay (λc v ξ q=>k c v q) (λc q=>by rw[aj (ag q hn)];exact q) λc xs q=>by rw[aj (ag q hn)];exact q
end
def Rd(H:Hp)(a:Addr)(u:HO):Prop:=H a=some u\/∃o,H a=some (.frz o u)
theorem Rd.ok{P:Program}{w:World}{H:Hp}{h:Heap}{a:Addr}{u:HO}(r:Rd H a u)(x:HOk P w H h):fe P w H h a u:=by
 rcases r with r | ⟨o,r⟩
 .exact x a u r
 .obtain⟨_,q⟩:=x a _ r
  exact q
def Mut:Option HO->Prop
 | some (.lst _)=>True
 | some (.dK _)=>True
 | some (.dT _)=>True
 | some (.set _ _)=>True
 | some (.ins _ _ _)=>True
 | some (.ext _)=>True
 | _=>False
section
variable {P:Program}{w:World}{H:Hp}{h h':Heap}{x e:Addr}{o':HO}
theorem HOk.write(ok:HOk P w H h)(mu:Mut (H x))(he:e=x\/H e=some (.own x))(k:∀b u,b≠e->h.get? b=some u->h'.get? b=some u)(IJ:∃u,h'.get? e=some u)
  (new:fe P w (upd H x o') h' x o'):HOk P w (upd H x o') h':=λb u q=>by
 have Jh:∀c y,H c=some (.own y)->c≠x:=λc y r z=>by subst z;rw[r]at mu;exact mu
 have Mn:∀c xs,H c=some (.tup xs)->c≠x:=λc xs r z=>by subst z;rw[r]at mu;exact mu
 by_cases hb:b=x
 .subst hb;rw[aC]at q;cases q;exact new
 .rw[aj hb]at q;by_cases FG:b=e
  .have q':H b=some (.own x):=by
    rcases he with z | z
    .exact aW (FG.trans z) hb
    .rw[FG];exact z
   rw[q]at q';cases q'
   obtain⟨v,hv⟩:=IJ
   exact⟨v,by rw[FG];exact hv⟩
  .refine(ok b u q).stay (λc v hc r=>k c v ?_ r) (λc r=>by rw[aj (Jh c b r)];exact r) λc xs r=>by rw[aj (Mn c xs r)];exact r
   rcases hc with rfl | hc
   .exact FG
   .rintro rfl
    rcases he with z | z
    .exact Jh c b hc z
    .rw[hc]at z;cases z;exact hb rfl
end
set_option genInjectivity false
structure Un(fs ex:List Addr)(H H':Hp)(h h':Heap):Prop where
 keep:∀b o,h.get? b=some o->H b=none->b∉fs->b∉ex->h'.get? b=some o
 slot:∀b o,h.get? b=some o->H b=none->b∈fs->b∉ex->∃sl,h'.get? b=some { o with slots:=sl }
 free:∀b o,h.get? b=some o->H b=none->b∉ex->H' b=none
 there:∀b o,h.get? b=some o->b∉ex->∃o',h'.get? b=some o'
 tups:∀b xs,H b=some (.tup xs)->H' b=some (.tup xs)
 frzs:∀b o u,H b=some (.frz o u)->H' b=some (.frz o u)
 tbls:∀b ps,H b=some (.tbl ps)->∃more,H' b=some (.tbl (ps++more))
section
variable {fs Di ex Zm:List Addr}{H H1 H2:Hp}{h h1 h2 h':Heap}{a x e:Addr}{o:HO}
theorem Un.any(u:Un fs ex H H1 h h1){b:Addr}{ob:Obj}(q:h.get? b=some ob)(n:H b=none)(hx:b∉ex):∃sl,h1.get? b=some { ob with slots:=sl }:=by
 by_cases hb:b∈fs
 .exact u.slot b ob q n hb hx
 .exact⟨ob.slots,u.keep b ob q n hb hx⟩
theorem Un.kept(k:∀b u,h.get? b=some u->h'.get? b=some u):Un fs ex H H h h' :=
 ⟨λb ob q ξ ξ ξ=>k b ob q,λb ob q ξ ξ ξ=>⟨ob.slots,k b ob q⟩,λξ ξ ξ n ξ=>n,λb ob q ξ=>⟨ob,k b ob q⟩,λξ ξ q=>q,λξ ξ ξ q=>q,λξ ps q=>⟨#[],by rw[q];simp⟩⟩
theorem Un.refl:Un fs ex H H h h:=Un.kept λξ ξ q=>q
theorem Un.laid(k:∀b u,h.get? b=some u->h'.get? b=some u)(hp:h.objs.size<=a)(hn:H a=none):Un fs ex H (upd H a o) h h' where
 keep:=λb u q ξ ξ ξ=>k b u q
 slot:=λb u q ξ ξ ξ=>⟨u.slots,k b u q⟩
 free:=λb u q n ξ=>by rw[aj (bG (aR (aZ q) hp))];exact n
 there:=λb u q ξ=>⟨u,k b u q⟩
 tups:=λb xs q=>by rw[aj (ag q hn)];exact q
 frzs:=λb u xs q=>by rw[aj (ag q hn)];exact q
 tbls:=λb ps q=>⟨#[],by rw[aj (ag q hn),q];simp⟩
theorem Un.write(mu:Mut (H x))(he:e=x\/H e=some (.own x))(k:∀b u,b≠e->h.get? b=some u->h'.get? b=some u)(IJ:∃u,h'.get? e=some u):Un fs ex H (upd H x o) h h':=by
 have hx:∀b,H b=none->b≠x:=λb n z=>by subst z;rw[n]at mu;exact mu
 have hb:∀b,H b=none->b≠e:=λb n z=>by
  subst z;rcases he with r | r
  .exact hx b n r
  .rw[n]at r;cases r
 have hm:∀b u,H b=some u->¬Mut (some u)->b≠x:=λb u q nm z=>by subst z;rw[q]at mu;exact nm mu
 refine⟨λb u q n ξ ξ=>k b u (hb b n) q,λb u q n ξ ξ=>⟨u.slots,k b u (hb b n) q⟩,λb u q n ξ=>by rw[aj (hx b n)];exact n,λb u q ξ=>?_,
  λb xs q=>by rw[aj (hm b _ q λz=>z)];exact q,λb u xs q=>by rw[aj (hm b _ q λz=>z)];exact q,λb ps q=>⟨#[],by rw[aj (hm b _ q λz=>z),q];simp⟩⟩
 by_cases FG:b=e
 .subst FG;exact IJ
 .exact⟨u,k b u FG q⟩
end
def trk(h:Heap)(H:Hp):List Addr:=(List.range h.objs.size).filter λa=>(H a).isSome
def qB(h:Heap)(H:Hp):Heap:=PySem.W.hideAll h (trk h H)
theorem ve(h:Heap)(H:Hp):(qB h H).objs.size=h.objs.size:=PySem.W.hideAll_size _ _
theorem wG{h:Heap}{H:Hp}{b:Addr}{o:Obj}(e:h.get? b=some o)(n:H b=none):(qB h H).get? b=some o :=
 PySem.W.hideAll_get _ e λhm=>by
  have q:(H b).isSome=true:=(List.mem_filter.mp hm).2
  rw[n]at q;simp at q
theorem yt{h:Heap}{H:Hp}{b:Addr}{o:Obj}(e:(qB h H).get? b=some o):h.get? b=some o/\H b=none:=by
 have e':h.get? b=some o:=PySem.W.of_hideAll (trk h H) e
 refine⟨e',?_⟩
 cases q:H b with
 | none=>rfl
 | some x =>
  have hm:b∈trk h H:=List.mem_filter.mpr ⟨List.mem_range.mpr (aZ e'),by simp[q]⟩
  have z:(qB h H).get? b=none:=PySem.W.hideAll_none (trk h H) hm
  rw[z]at e;cases e
structure Mod(K:Fg_)(mg:Str->Option Value)(base:Heap):Prop where
 kin:K.In base
 glob:base.Ns mainGlobals mg
 blt:∃mb,base.Ns builtinsNs mb/\∀x:Str,x≠"__name__"->mb x=bootBuiltins x
 nolimit:base.NoLimit
structure Cx where
 prog:Program
 w:World
 K:Fg_
 mg:Str->Option Value
 base:Heap
 A:Around
 N:List Str
 s_0:Shared
 H_0:Hp
 env:Env
 outer:List Env
 stack:List Env
 ex:List Addr
 fn:Str->Bool
 calm:Bool
 pn:List (Addr×Obj)
 xe:Value->Shared->Prop
def frs(l:List Env):List Addr:=l.filterMap (·.frame)
abbrev Cx.fs(X:Cx):List Addr:=frs X.outer
def Vis(sc:Scope)(x:Str):Prop:=sc.names.lookup x=some .local\/sc.names.lookup x=some .cell\/sc.names.lookup x=some .free
def Loc(sc:Scope)(x:Str):Prop:=sc.names.lookup x=some .local\/sc.names.lookup x=some .cell
def Look(env:Env)(h:Heap)(m:Str->Option Value)(x:Str)(u:Value):Prop :=
 (env.kindOf x=some .local/\m x=some u)\/((env.kindOf x=some .cell\/env.kindOf x=some .free)/\∃c,env.cells.lookup x=some c/\h.IsCell c (some u))
structure Cx.Ok(X:Cx):Prop where
 mod:Mod X.K X.mg X.base
 kind:X.env.scope.kind =.function
 glob:X.env.globals=mainGlobals
 blt:X.env.builtins=builtinsNs
 above:X.s_0.heap.objs.size<=X.env.locals
 inj:∀x y c,X.env.cells.lookup x=some c->X.env.cells.lookup y=some c->x=y
 has:∀x,(X.env.kindOf x=some .cell\/X.env.kindOf x=some .free)->∃c,X.env.cells.lookup x=some c
 cab:∀x c,X.fn x=true->X.env.cells.lookup x=some c->X.s_0.heap.objs.size<=c
 hd:X.calm=true->X.A.handled=none
 frames:X.A.frames=some X.stack
 stk:X.stack=X.outer\/(X.stack=X.env::X.outer/\X.env.frame=some X.env.locals)
 exf:∀b∈X.ex,b≠X.env.locals/\∀x c,X.env.cells.lookup x=some c->c≠b
 bs:∀b o,X.base.get? b=some o->X.s_0.heap.get? b=some o/\X.H_0 b=none
 bsz:X.base.objs.size<=X.s_0.heap.objs.size
 noex:∀b o,X.base.get? b=some o->b∉X.ex
 exfs:∀b∈X.ex,b∉X.fs
 funs:X.s_0.heap.FunFrames X.base X.outer
 frf:∀b∈X.fs,X.H_0 b=none
structure Inv(X:Cx)(pins:List (Addr×Obj))(σ:List (Option V))(H:Hp)(s:Shared):Prop where
 ok:X.Ok
 os:s.os=X.s_0.os
 bare:AllBare s.gens
 base:Un X.fs X.ex X.H_0 H X.s_0.heap s.heap
 loc:∃m,s.heap.Ns X.env.locals m/\∀(i:Nat)(x:Str)(v:V),X.N[i]? =some x->σ[i]? =some (some v)->Vis X.env.scope x->∃u,dw v u/\Look X.env s.heap m x u
 cell:∀x c,X.env.cells.lookup x=some c->∃v,s.heap.IsCell c v
 free:H X.env.locals=none
 freeC:∀x c,X.env.cells.lookup x=some c->H c=none
 pin:∀p∈X.pn++pins,s.heap.get? p.1=some p.2/\H p.1=none/\p.1≠X.env.locals/\p.1∉X.fs/\∀v,p.2.data≠.cell v
 hok:HOk X.prog X.w H s.heap
 len:σ.length=X.N.length
section
variable {X:Cx}{pins:List (Addr×Obj)}{σ:List (Option V)}{H H':Hp}{s:Shared}{h':Heap}
theorem Cx.Ok.nofr(ok:X.Ok){b:Addr}{o:Obj}(e:X.base.get? b=some o):b∉X.fs:=λhb=>by
 have:=(ok.funs.mem hb).1
 rw[e]at this;cases this
theorem Inv.bs(I:Inv X pins σ H s):∀b o,X.base.get? b=some o->s.heap.get? b=some o/\H b=none:=λb o e =>
 ⟨I.base.keep b o (I.ok.bs b o e).1 (I.ok.bs b o e).2 (I.ok.nofr e) (I.ok.noex b o e),I.base.free b o (I.ok.bs b o e).1 (I.ok.bs b o e).2 (I.ok.noex b o e)⟩
theorem Inv.bk(I:Inv X pins σ H s):∀b o,X.base.get? b=some o->s.heap.get? b=some o:=λb o e=>(I.bs b o e).1
theorem Inv.mod(I:Inv X pins σ H s):Mod X.K X.mg X.base:=I.ok.mod
theorem Inv.kIn(I:Inv X pins σ H s):X.K.In s.heap:=I.ok.mod.kin.keeps I.bk
theorem Inv.lt(I:Inv X pins σ H s):X.env.locals<s.heap.objs.size:=let ⟨_,hn,_⟩:=I.loc;hn.lt
theorem Inv.sz(I:Inv X pins σ H s):X.s_0.heap.objs.size<=s.heap.objs.size:=bH I.ok.above (cq I.lt)
theorem Inv.nofs(I:Inv X pins σ H s){a:Addr}(h:s.heap.objs.size<=a):a∉X.fs:=λhb=>by
 obtain⟨_,o,ho,_⟩:=I.ok.funs.mem hb
 exact aW (aR (aZ ho) (bH I.sz h)) (cw _)
theorem Inv.cne(I:Inv X pins σ H s):∀x c,X.env.cells.lookup x=some c->c≠X.env.locals:=λx c e z=>by
 obtain⟨v,o,ho,hd⟩:=I.cell x c e
 obtain⟨m,⟨o',es,ep,Ce,HH,_⟩,_⟩:=I.loc
 rw[z,Ce]at ho;cases ho;rw[HH]at hd;cases hd
theorem Inv.funs(I:Inv X pins σ H s):s.heap.FunFrames X.base X.outer:=by
 have all:∀(l:List Env),(∀b∈frs l,b∈X.fs)->X.s_0.heap.FunFrames X.base l->s.heap.FunFrames X.base l:=by
  intro l;induction l with
  | nil=>intro _ _;trivial
  | cons env r ih =>
   intro hs hl;obtain⟨hk,⟨L,o,hf,hn,ho,hd⟩,hr⟩:=hl
   have hL:L∈X.fs:=hs L (by unfold frs;rw[ic,hf];exact a7)
   obtain⟨sl,e⟩:=I.base.slot L o ho (I.ok.frf L hL) hL λz=>I.ok.exfs L z hL
   exact⟨hk,⟨L,_,hf,hn,e,hd⟩,ih (λb hb=>hs b (by unfold frs;rw[ic,hf];exact aA _ hb)) hr⟩
 exact all X.outer (λξ hb=>hb) I.ok.funs
theorem Inv.stack(I:Inv X pins σ H s):s.heap.FunFrames X.base X.stack:=by
 rcases I.ok.stk with e | ⟨e,hf⟩
 .rw[e];exact I.funs
 .rw[e];obtain⟨m,hn,_⟩:=I.loc
  refine .cons (by rw[I.ok.kind];decide) hf hn ?_ I.funs
  exact Heap.get?_none_of_le (bH I.ok.bsz I.ok.above)
theorem Inv.stkSub(I:Inv X pins σ H s):∀b∈frs X.stack,b∈X.env.locals::X.fs:=λb hb=>by
 rcases I.ok.stk with e | ⟨e,hf⟩
 .rw[e]at hb;exact aA _ hb
 .rw[e]at hb;unfold frs at hb;rw[ic,hf]at hb;exact hb
theorem Inv.stkFree(I:Inv X pins σ H s):∀b∈frs X.stack,H b=none:=λb hb=>by
 rcases aI.mp (I.stkSub b hb)with e | hb
 .rw[e];exact I.free
 .obtain⟨_,o,ho,_⟩:=I.ok.funs.mem hb
  exact I.base.free b o ho (I.ok.frf b hb) λz=>I.ok.exfs b z hb
theorem Inv.step{g':Array GenState}{t':Nat}{d':Drawn}{ch:List Addr}(I:Inv X pins σ H s)
  (Ff:∀b∈ch,(b∈X.ex\/X.s_0.heap.objs.size<=b)/\b≠X.env.locals/\(∀x c,X.env.cells.lookup x=some c->c≠b)/\∀p∈X.pn++pins,p.1≠b)
  (keep:∀b o,b≠X.env.locals->b∉X.fs->b∉ch->s.heap.get? b=some o->H b=none->h'.get? b=some o)
  (slot:∀b o,b≠X.env.locals->b∈X.fs->b∉ch->s.heap.get? b=some o->H b=none->∃sl,h'.get? b=some { o with slots:=sl })(free:∀b o,b∉ch->s.heap.get? b=some o->H b=none->H' b=none)
  (there:∀b o,b∉ch->s.heap.get? b=some o->∃o',h'.get? b=some o')
  (tups:∀b xs,H b=some (.tup xs)->H' b=some (.tup xs))(frzs:∀b o u,H b=some (.frz o u)->H' b=some (.frz o u))(tbls:∀b ps,H b=some (.tbl ps)->∃more,H' b=some (.tbl (ps++more)))
  (ns:∀m,s.heap.Ns X.env.locals m->h'.Ns X.env.locals m)(hok:HOk X.prog X.w H' h')(hg:AllBare g') :
  Inv X pins σ H' { s with heap:=h',gens:=g',drawn:=d',toks:=t' }:=by
 have PU:∀b o,X.s_0.heap.get? b=some o->b≠X.env.locals:=λb o e=>bG (aR (aZ e) I.ok.above)
 have F5:∀b o,X.s_0.heap.get? b=some o->b∉X.ex->b∉ch:=λb o e hx hb=>by
  rcases(Ff b hb).1 with z | z
  .exact hx z
  .exact aW (aR (aZ e) z) (cw _)
 have cellK:∀x c,X.env.cells.lookup x=some c->∀v,s.heap.IsCell c v->h'.IsCell c v:=λx c e v ⟨o,ho,hd⟩=>by
  have Ju:c∉ch:=λz=>(Ff c z).2.2.1 x c e rfl
  by_cases hc:c∈X.fs
  .obtain⟨sl,q⟩:=slot c o (I.cne x c e) hc Ju ho (I.freeC x c e)
   exact⟨_,q,hd⟩
  .exact⟨o,keep c o (I.cne x c e) hc Ju ho (I.freeC x c e),hd⟩
 refine⟨I.ok,I.os,hg,⟨λb o e n hb hx=>?_,λb o e n hb hx=>?_,λb o e n hx=>?_,λb o e hx=>?_,λb xs e=>tups b xs (I.base.tups b xs e),λb o xs e=>frzs b o xs (I.base.frzs b o xs e),λb ps e=>?_⟩,?_,λx c e=>?_,?_,λx c e=>?_,λp hp=>?_,hok,I.len⟩
 .exact keep b o (PU b o e) hb (F5 b o e hx) (I.base.keep b o e n hb hx) (I.base.free b o e n hx)
 .obtain⟨sl,e1⟩:=I.base.slot b o e n hb hx
  obtain⟨L',e2⟩:=slot b _ (PU b o e) hb (F5 b o e hx) e1 (I.base.free b o e n hx)
  exact⟨L',e2⟩
 .obtain⟨o',e1⟩:=I.base.there b o e hx
  exact free b o' (F5 b o e hx) e1 (I.base.free b o e n hx)
 .obtain⟨o',e1⟩:=I.base.there b o e hx
  exact there b o' (F5 b o e hx) e1
 .obtain⟨m1,e1⟩:=I.base.tbls b ps e
  obtain⟨m2,e2⟩:=tbls b _ e1
  exact⟨m1++m2,by rw[e2,Array.append_assoc]⟩
 .obtain⟨m,hn,hl⟩:=I.loc
  refine⟨m,ns m hn,λi x v e1 e2 e3=>?_⟩
  obtain⟨u,r,l⟩:=hl i x v e1 e2 e3
  refine⟨u,r,?_⟩
  rcases l with l | ⟨k,c,e,z⟩
  .exact .inl l
  .exact .inr ⟨k,c,e,cellK x c e _ z⟩
 .obtain⟨v,z⟩:=I.cell x c e
  exact⟨v,cellK x c e v z⟩
 .obtain⟨m,⟨o,_,_,ho,_⟩,_⟩:=I.loc
  exact free _ o (λz=>(Ff _ z).2.1 rfl) ho I.free
 .obtain⟨v,o,ho,hd⟩:=I.cell x c e
  exact free c o (λz=>(Ff c z).2.2.1 x c e rfl) ho (I.freeC x c e)
 .obtain⟨e,n,ne,nf,d⟩:=I.pin p hp
  have Ju:p.1∉ch:=λz=>(Ff p.1 z).2.2.2 p hp rfl
  exact⟨keep p.1 p.2 ne nf Ju e n,free p.1 p.2 Ju e n,ne,nf,d⟩
theorem Inv.un{t':Nat}(I:Inv X pins σ H s)(u:Un X.fs [] H H' s.heap h')(hok:HOk X.prog X.w H' h'):Inv X pins σ H' { s with heap:=h',toks:=t' }:=by
 obtain⟨m,⟨o,es,ep,ho,r⟩,_⟩:=id I.loc
 obtain⟨sl,hL⟩:=u.any ho I.free (by simp)
 exact I.step (g':=s.gens) (d':=s.drawn) (ch:=[]) (λξ z=>nomatch z) (λb o ξ hb ξ e n=>u.keep b o e n hb (by simp)) (λb o ξ hb ξ e n=>u.slot b o e n hb (by simp)) (λb o ξ e n=>u.free b o e n (by simp)) (λb o ξ e=>u.there b o e (by simp)) u.tups u.frzs u.tbls (λm' hm=>by
  obtain⟨o',IW,KW,Ce,r'⟩:=hm
  rw[ho]at Ce;cases Ce
  exact⟨_,IW,KW,hL,r'⟩) hok I.bare
theorem Inv.call{g':Array GenState}{t':Nat}{d':Drawn}{ch:List Addr}(I:Inv X pins σ H s)(u:Un (frs X.stack) ch H H' s.heap h')(hok:HOk X.prog X.w H' h')(hg:AllBare g')
  (Ff:∀b∈ch,(b∈X.ex\/X.s_0.heap.objs.size<=b)/\b≠X.env.locals/\(∀x c,X.env.cells.lookup x=some c->c≠b)/\∀p∈X.pn++pins,p.1≠b) :
  Inv X pins σ H' { s with heap:=h',gens:=g',drawn:=d',toks:=t' }:=by
 obtain⟨m,⟨o,es,ep,ho,r⟩,_⟩:=id I.loc
 obtain⟨sl,hL⟩:=u.any ho I.free λz=>(Ff _ z).2.1 rfl
 exact I.step (ch:=ch) Ff (λb o hL hb hc e n=>u.keep b o e n (λz=>(aI.mp (I.stkSub b z)).elim hL hb) hc) (λb o ξ ξ hc e n=>u.any e n hc) (λb o hc e n=>u.free b o e n hc) (λb o hc e=>u.there b o e hc) u.tups u.frzs u.tbls (λm' hm=>by
  obtain⟨o',IW,KW,Ce,r'⟩:=hm
  rw[ho]at Ce;cases Ce
  exact⟨_,IW,KW,hL,r'⟩) hok hg
theorem Inv.turned{t':Nat}{it:Addr}(I:Inv X pins σ H s)(k:∀b o,b≠it->s.heap.get? b=some o->h'.get? b=some o)(hn:H it=none)(hL:it≠X.env.locals)
  (h1:it∈X.ex\/X.s_0.heap.objs.size<=it)(h2:∀x c,X.env.cells.lookup x=some c->c≠it)(h3:∀p∈X.pn++pins,p.1≠it):Inv X pins σ H { s with heap:=h',toks:=t' }:=by
 have Jo:∀b u,H b=some u->b≠it:=λb u e z=>by rw[z,hn]at e;cases e
 refine I.step (g':=s.gens) (d':=s.drawn) (ch:=[it]) (λb hb=>?_) (λb o ξ ξ hc e ξ=>k b o (λz=>hc (by simp[z])) e) (λb o ξ ξ hc e ξ=>⟨o.slots,k b o (λz=>hc (by simp[z])) e⟩) (λξ ξ ξ ξ n=>n)
  (λb o hc e=>⟨o,k b o (λz=>hc (by simp[z])) e⟩) (λξ ξ e=>e) (λξ ξ ξ e=>e) (λb ps e=>⟨#[],by rw[e];simp⟩) (λm hm=>?_) (λb u e=>?_) I.bare
 .have e:b=it:=by simpa using hb
  subst e;exact⟨h1,hL,h2,h3⟩
 .obtain⟨o,es,ep,ho,r⟩:=hm
  exact⟨o,es,ep,k _ o (ba hL) ho,r⟩
 .refine(I.hok b u e).stay (λc v hc q=>k c v ?_ q) (λξ q=>q) λξ ξ q=>q
  rcases hc with z | z
  .rw[z];exact Jo b u e
  .exact Jo c _ z
theorem Inv.tok(I:Inv X pins σ H s)(t:Nat):Inv X pins σ H { s with toks:=t }:=I.un (h':=s.heap) (t':=t) Un.refl I.hok
theorem Inv.kept{t':Nat}(I:Inv X pins σ H s)(k:∀b u,s.heap.get? b=some u->h'.get? b=some u):Inv X pins σ H { s with heap:=h',toks:=t' }:=I.un (Un.kept k) (I.hok.kept k)
theorem Inv.laid{a:Addr}{o:HO}{t':Nat}(I:Inv X pins σ H s)(k:∀b u,s.heap.get? b=some u->h'.get? b=some u)(hp:s.heap.objs.size<=a)(new:fe X.prog X.w (upd H a o) h' a o) :
  Inv X pins σ (upd H a o) { s with heap:=h',toks:=t' }:=I.un (Un.laid k hp (I.hok.fresh hp)) (I.hok.laid k hp new)
theorem Inv.write{x e:Addr}{o:HO}{t':Nat}(I:Inv X pins σ H s)(mu:Mut (H x))(he:e=x\/H e=some (.own x))(k:∀b u,b≠e->s.heap.get? b=some u->h'.get? b=some u)(IJ:∃u,h'.get? e=some u)
  (new:fe X.prog X.w (upd H x o) h' x o):Inv X pins σ (upd H x o) { s with heap:=h',toks:=t' }:=I.un (Un.write mu he k IJ) (I.hok.write mu he k IJ new)
theorem Inv.weak{σ':List (Option V)}(I:Inv X pins σ H s)(hl:σ'.length=σ.length)(w:∀(i:Nat) v,σ'[i]? =some (some v)->σ[i]? =some (some v)):Inv X pins σ' H s :=
 ⟨I.ok,I.os,I.bare,I.base,let ⟨m,hn,Lx⟩:=I.loc;⟨m,hn,λi x v e1 e2 e3=>Lx i x v e1 (w i v e2) e3⟩,I.cell,I.free,I.freeC,I.pin,I.hok,hl.trans I.len⟩
theorem Inv.pins_of{BC:List (Addr×Obj)}(I:Inv X pins σ H s)(h:∀p∈BC,s.heap.get? p.1=some p.2/\H p.1=none/\p.1≠X.env.locals/\p.1∉X.fs/\∀v,p.2.data≠.cell v):Inv X BC σ H s :=
 ⟨I.ok,I.os,I.bare,I.base,I.loc,I.cell,I.free,I.freeC,λp hp=>(aM.mp hp).elim (λz=>I.pin p (aB _ z)) (h p),I.hok,I.len⟩
theorem oe{N:List Str}(hN:N.Nodup){i j:Nat}{x:Str}(a:N[i]? =some x)(b:N[j]? =some x):i=j:=by
 obtain⟨h1,e1⟩:=aK.mp a
 obtain⟨h2,e2⟩:=aK.mp b
 exact(List.getElem_inj hN).mp (e1.trans e2.symm)
theorem uM{M:Model}{A:Around}{E:Value->Shared->Prop}{i:Nat}{x:Str}{v:V}{u:Value}{Q:Unit->Shared->Prop}(I:Inv X pins σ H s)(hN:X.N.Nodup)(hi:X.N[i]? =some x)(hx:Loc X.env.scope x)(r:dw v u)
  (h:∀s',Inv X pins (σ.set i (some v)) H s'->(∃a,Heap.SameBut a s.heap s'.heap/\(a=X.env.locals\/X.env.cells.lookup x=some a))->Q () s')(hf:X.fn x=true\/X.env.scope.names.lookup x=some .local:=by first | exact .inl rfl | exact .inr rfl | assumption):wpAny M A (storeName X.env x u) Q E s:=by
 obtain⟨m,hn,hl⟩:=id I.loc
 have HJ:(X.env.scope.kind==.class||(X.env.scope.kind==.module&&X.env.locals !=X.env.globals))=false:=by rw[I.ok.kind];rfl
 have QK:i<σ.length:=by rw[I.len];exact(aK.mp hi).1
 have cne:=I.cne
 have tracked:∀{a:Addr}{h':Heap},(∃o,s.heap.get? a=some o/\H a=none)->Heap.SameBut a s.heap h'->HOk X.prog X.w H h':=λ{a h'} ha hs b ob e=>by
  obtain⟨_,_,Cs⟩:=ha
  refine(I.hok b ob e).stay (λc w' hc q=>(hs.2 c ?_).trans q) (λξ q=>q) λξ ξ q=>q
  rintro rfl
  rcases hc with rfl | hc
  .rw[Cs]at e;cases e
  .rw[Cs]at hc;cases hc
 rcases hx with hk | hk
 .refine wpAny_storeName_local hk hn (λh' Eh hs=>?_) HJ
  obtain⟨oL,_,_,U5,_⟩:=id hn
  refine h _ ⟨I.ok,I.os,I.bare,⟨λb o e n hb hx=>?_,λb o e n hb hx=>?_,I.base.free,λb o e hx=>?_,I.base.tups,I.base.frzs,I.base.tbls⟩,⟨_,Eh,λj y v' e1 e2 e3=>?_⟩,λy c e=>?_,I.free,I.freeC,λp hp=>?_,tracked ⟨oL,U5,I.free⟩ hs,by simpa using I.len⟩ ⟨_,hs,.inl rfl⟩
  .exact(hs.2 b (bG (aR (aZ e) I.ok.above))).trans (I.base.keep b o e n hb hx)
  .obtain⟨sl,e1⟩:=I.base.slot b o e n hb hx
   exact⟨sl,(hs.2 b (bG (aR (aZ e) I.ok.above))).trans e1⟩
  .obtain⟨o',e1⟩:=I.base.there b o e hx
   exact⟨o',(hs.2 b (bG (aR (aZ e) I.ok.above))).trans e1⟩
  .by_cases hj:j=i
   .subst hj;rw[hi]at e1;cases e1;rw[gy QK]at e2;cases e2;exact⟨u,r,.inl ⟨hk,by simp⟩⟩
   .rw[hJ (ba hj)]at e2;obtain⟨u',r',q⟩:=hl j y v' e1 e2 e3
    refine⟨u',r',?_⟩
    rcases q with⟨k,e⟩ | ⟨k,c,e,z⟩
    .refine .inl ⟨k,?_⟩
     have:y≠x:=λe=>hj (oe hN e1 (e▸hi))
     simp[this,e]
    .exact .inr ⟨k,c,e,z.sameBut hs (cne y c e)⟩
  .obtain⟨w',z⟩:=I.cell y c e
   exact⟨w',z.sameBut hs (cne y c e)⟩
  .obtain⟨e,n,ne,nf,d⟩:=I.pin p hp
   exact⟨(hs.2 p.1 ne).trans e,n,ne,nf,d⟩
 .have Nr:X.fn x=true:=by
   rcases hf with z | z
   .exact z
   .rw[z]at hk;cases hk
  obtain⟨c,hc⟩:=I.ok.has x (.inl hk)
  obtain⟨w',z⟩:=I.cell x c hc
  refine wpAny_storeName_cell I.ok.kind hk hc z (λh' hc' hs=>?_)
  obtain⟨oc,Qt,M7⟩:=id z
  refine h { s with heap:=h' } ⟨I.ok,I.os,I.bare,⟨λb o e n hb hx=>?_,λb o e n hb hx=>?_,I.base.free,λb o e hx=>?_,I.base.tups,I.base.frzs,I.base.tbls⟩,⟨m,hn.sameBut hs (ba (cne x c hc)),λj y v' e1 e2 e3=>?_⟩,λy c' e=>?_,I.free,I.freeC,λp hp=>?_,tracked ⟨oc,Qt,I.freeC x c hc⟩ hs,by simpa using I.len⟩ ⟨c,hs,.inr hc⟩
  .exact(hs.2 b (bG (aR (aZ e) (I.ok.cab x c Nr hc)))).trans (I.base.keep b o e n hb hx)
  .obtain⟨sl,e1⟩:=I.base.slot b o e n hb hx
   exact⟨sl,(hs.2 b (bG (aR (aZ e) (I.ok.cab x c Nr hc)))).trans e1⟩
  .obtain⟨o',e1⟩:=I.base.there b o e hx
   exact⟨o',(hs.2 b (bG (aR (aZ e) (I.ok.cab x c Nr hc)))).trans e1⟩
  .by_cases hj:j=i
   .subst hj;rw[hi]at e1;cases e1;rw[gy QK]at e2;cases e2;exact⟨u,r,.inr ⟨.inl hk,c,hc,hc'⟩⟩
   .rw[hJ (ba hj)]at e2;obtain⟨u',r',q⟩:=hl j y v' e1 e2 e3
    refine⟨u',r',?_⟩
    rcases q with q | ⟨k,c',e,z'⟩
    .exact .inl q
    .refine .inr ⟨k,c',e,z'.sameBut hs ?_⟩
     rintro rfl
     exact hj (oe hN e1 (I.ok.inj _ _ _ e hc▸hi))
  .by_cases QP:c'=c
   .subst QP;exact⟨_,hc'⟩
   .obtain⟨w2,z2⟩:=I.cell y c' e
    exact⟨w2,z2.sameBut hs QP⟩
  .obtain⟨e,n,ne,nf,d⟩:=I.pin p hp
   refine⟨(hs.2 p.1 ?_).trans e,n,ne,nf,d⟩
   intro q;rw[q,Qt]at e;have q':oc=p.2:=aV e
   exact d w' (by rw[<-q'];exact M7)
theorem kI{M:Model}{A:Around}{E:Value->Shared->Prop}{i:Nat}{x:Str}{v:V}{u:Value}{Q:Unit->Shared->Prop}(I:Inv X pins σ H s)(hN:X.N.Nodup)(hi:X.N[i]? =some x)(hx:Loc X.env.scope x)(r:dw v u)
  (h:∀s',Inv X pins (σ.set i (some v)) H s'->Q () s')(hf:X.fn x=true\/X.env.scope.names.lookup x=some .local:=by first | exact .inl rfl | exact .inr rfl | assumption):wpAny M A (storeName X.env x u) Q E s :=
 uM I hN hi hx r (λs' I' ξ=>h s' I') hf
theorem Inv.call'{s':Shared}{ch:List Addr}(I:Inv X pins σ H s)(ho:s'.os=s.os)(u:Un (frs X.stack) ch H H' s.heap s'.heap)(hok:HOk X.prog X.w H' s'.heap)(hg:AllBare s'.gens)
  (Ff:∀b∈ch,(b∈X.ex\/X.s_0.heap.objs.size<=b)/\b≠X.env.locals/\(∀x c,X.env.cells.lookup x=some c->c≠b)/\∀p∈X.pn++pins,p.1≠b):Inv X pins σ H' s':=by
 obtain⟨h',g',d',t',o'⟩:=s'
 have e:o'=s.os:=ho
 subst e;exact I.call (g':=g') (t':=t') (d':=d') u hok hg Ff
end
abbrev XK:=Value->Option Addr->Hp->Prop
abbrev St:=List (Option V)
abbrev VK:=V->Hp->Prop
abbrev TE:=St->Hp->VK->Prop
abbrev TT:=St->Hp->(Bool->Hp->Prop)->Prop
abbrev TA:=St->Hp->(List V->Hp->Prop)->Prop
structure js where
 nx:St->Hp->Prop
 rt:VK
 bk:St->Hp->Prop:=λξ ξ=>False
 ct:St->Hp->Prop:=λξ ξ=>False
abbrev TS:=js->St->Hp->Prop
def EP(X:Cx)(pins:List (Addr×Obj))(σ:St)(Q:VK)(u:Value)(s':Shared):Prop:=∃v H',Inv X pins σ H' s'/\dw v u/\Q v H'
def TP(X:Cx)(pins:List (Addr×Obj))(σ:St)(Q:Bool->Hp->Prop)(b:Bool)(s':Shared):Prop:=∃H',Inv X pins σ H' s'/\Q b H'
def AP(X:Cx)(pins:List (Addr×Obj))(σ:St)(Q:List V->Hp->Prop)(us:List Value)(s':Shared):Prop:=∃vs H',Inv X pins σ H' s'/\cJ vs us/\Q vs H'
def SP(X:Cx)(pins:List (Addr×Obj))(D:js)(f:Flow)(s':Shared):Prop :=
 match f with
 | .next=>∃σ' H',Inv X pins σ' H' s'/\D.nx σ' H'
 | .brk=>∃σ' H',Inv X pins σ' H' s'/\D.bk σ' H'
 | .cont=>∃σ' H',Inv X pins σ' H' s'/\D.ct σ' H'
 | .ret u=>∃v σ' H',Inv X pins σ' H' s'/\dw v u/\D.rt v H'
def PE(X:Cx)(e:Expr)(t:TE):Prop :=
 ∀(pins:List (Addr×Obj))(s:Shared)(σ:St)(H:Hp)(Q:VK),Inv X pins σ H s->t σ H Q->wpAny (model X.prog X.w) X.A (eval e X.env) (EP X pins σ Q) X.xe s
def PT(X:Cx)(e:Expr)(t:TT):Prop :=
 ∀(pins:List (Addr×Obj))(s:Shared)(σ:St)(H:Hp)(Q:Bool->Hp->Prop),Inv X pins σ H s->t σ H Q->wpAny (model X.prog X.w) X.A (isTrue e X.env (eval e X.env)) (TP X pins σ Q) X.xe s
def PW(X:Cx)(e:Expr)(t:TT):Prop :=
 ∀(whole:Sem Value)(pins:List (Addr×Obj))(s:Shared)(σ:St)(H:Hp)(Q:Bool->Hp->Prop),Inv X pins σ H s->t σ H Q->wpAny (model X.prog X.w) X.A (isTrue e X.env whole) (TP X pins σ Q) X.xe s
theorem PW.pt{X:Cx}{e:Expr}{t:TT}(h:PW X e t):PT X e t:=h _
def PA(X:Cx)(es:List Expr)(t:TA):Prop :=
 ∀(pos:Pos)(pins:List (Addr×Obj))(s:Shared)(σ:St)(H:Hp)(Q:List V->Hp->Prop),Inv X pins σ H s->t σ H Q->wpAny (model X.prog X.w) X.A (spliced (backTo pos (starEach es X.env))) (AP X pins σ Q) X.xe s
def PS(X:Cx)(st:Stmt)(t:TS):Prop :=
 ∀(pins:List (Addr×Obj))(s:Shared)(σ:St)(H:Hp)(D:js),Inv X pins σ H s->t D σ H->wpAny (model X.prog X.w) X.A (exec st X.env) (SP X pins D) X.xe s
def PSs(X:Cx)(st:List Stmt)(t:TS):Prop :=
 ∀(pins:List (Addr×Obj))(s:Shared)(σ:St)(H:Hp)(D:js),Inv X pins σ H s->t D σ H->wpAny (model X.prog X.w) X.A (execs st X.env) (SP X pins D) X.xe s
theorem thn{α:Type}{t:Sem α}{Q Q':α->Shared->Prop}{M:Model}{A:Around}{E:Value->Shared->Prop}{s:Shared}(h:wpAny M A t Q E s)(hQ:∀a s,Q a s->Q' a s):wpAny M A t Q' E s:=wpAny_mono h hQ λξ ξ x=>x
section
variable {X:Cx}
def sH(i:Nat):TE:=λσ H Q=>∃v,σ[i]? =some (some v)/\Q v H
def tC(v:V):TE:=λξ H Q=>Q v H
theorem AA{i:Nat}{x:Str}{pos:Pos}(hN:X.N[i]? =some x)(hv:Vis X.env.scope x)(hd:(x==("__debug__" :Str))=false:=by decide)(Ea:(x==("__classdict__" :Str))=false:=by decide):PE X (.Name x pos) (sH i):=by
 intro pins s σ H Q I h;obtain⟨v,e,h⟩:=h
 obtain⟨m,hn,hl⟩:=I.loc
 obtain⟨u,r,l⟩:=hl i x v hN e hv
 have fin:EP X pins σ Q u s:=⟨v,H,I,r,h⟩
 rcases l with⟨hk,hm⟩ | ⟨hk,c,hc,DT⟩
 .exact wpAny_Name (wpAny_loadName_local I.ok.kind hk hn hm fin) hd
 .rcases hk with hk | hk
  .exact wpAny_Name (wpAny_loadName_cell I.ok.kind hk hc DT fin) hd
  .exact wpAny_Name (wpAny_loadName_free I.ok.kind hk hc DT fin Ea) hd
theorem bb{i j pos}:PE X (.Constant (.int i) j pos) (tC (.int i)):=λξ ξ ξ H ξ I h=>wpAny_Constant_int ⟨.int i,H,I.tok _,⟨_,rfl⟩,h⟩
theorem pe_bl{b j pos}:PE X (.Constant (.bool b) j pos) (tC (.bl b)):=λξ ξ ξ H ξ I h=>Constant_bool ⟨.bl b,H,I,rfl,h⟩
theorem lW{x j pos}:PE X (.Constant (.str x) j pos) (tC (.str x)):=λξ ξ ξ H ξ I h=>Calls.Constant_str ⟨.str x,H,I.tok _,⟨_,rfl⟩,h⟩
def Gl(X:Cx)(x:Str):Prop:=X.env.kindOf x=some .globalImplicit
theorem fX{E:Value->Shared->Prop}{pins:List (Addr×Obj)}{s:Shared}{σ:St}{H:Hp}{x:Str}{u:Value}{pos:Pos}{Q:Value->Shared->Prop}(I:Inv X pins σ H s)(hg:Gl X x)(hm:X.mg x=some u)(h:Q u s)
  (hd:(x==("__debug__" :Str))=false:=by decide):wpAny (model X.prog X.w) X.A (eval (.Name x pos) X.env) Q E s :=
 Calls.Name_function_global I.ok.kind hg (Calls.loadGlobal_global (by rw[I.ok.glob];exact I.mod.glob.keeps I.bk) hm h) hd
theorem jH{E:Value->Shared->Prop}{pins:List (Addr×Obj)}{s:Shared}{σ:St}{H:Hp}{x:Str}{u:Value}{pos:Pos}{Q:Value->Shared->Prop}(I:Inv X pins σ H s)(hg:Gl X x)(hm:X.mg x=none)(hv:bootBuiltins x=some u)(h:Q u s)
  (hn:x≠"__name__":=by decide)(hd:(x==("__debug__" :Str))=false:=by decide):wpAny (model X.prog X.w) X.A (eval (.Name x pos) X.env) Q E s:=by
 obtain⟨mb,h1,h2⟩:=I.mod.blt
 exact Calls.Name_function_global I.ok.kind hg (Calls.loadGlobal_builtin (by rw[I.ok.glob];exact I.mod.glob.keeps I.bk) hm (by rw[I.ok.blt];exact h1.keeps I.bk) ((h2 x hn).trans hv) h) hd
theorem yi{x:Str}{v:V}{u:Value}{pos:Pos}(hg:Gl X x)(hm:X.mg x=some u)(r:dw v u)(hd:(x==("__debug__" :Str))=false:=by decide):PE X (.Name x pos) (tC v) :=
 λξ ξ ξ H ξ I h=>fX I hg hm ⟨v,H,I,r,h⟩ hd
theorem yk{x:Str}{v:V}{u:Value}{pos:Pos}(hg:Gl X x)(hm:X.mg x=none)(hv:bootBuiltins x=some u)(r:dw v u)(hn:x≠"__name__":=by decide)(hd:(x==("__debug__" :Str))=false:=by decide):PE X (.Name x pos) (tC v) :=
 λξ ξ ξ H ξ I h=>jH I hg hm hv ⟨v,H,I,r,h⟩ hn hd
variable {a b:Expr}{ta tb:TE}{pos:Pos}
def tB(t:TE):TT:=λσ H Q=>t σ H λx H1=>∃c,x =.bl c/\Q c H1
theorem nX{e:Expr}{t:TE}(h:PE X e t)(he:∀whole,isTrue e X.env whole=(do let v ←whole;standAt e.pos;holding [v] (truthy v)):=by intro _;rfl):PT X e (tB t):=by
 intro pins s σ H Q I hw;refine isTrue_plain (thn (h pins s σ H _ I hw) λv s1 A9=>?_) (he _)
 obtain⟨x,H1,I1,r1,q1⟩:=A9
 obtain⟨d,rfl,q⟩:=q1
 cases r1;exact wpAny_truthy_bool ⟨H1,I1,q⟩
variable {tA K':TT}{rest:List Expr}
def zz(t u:TT):TT:=λσ H Q=>t σ H λc H1=>if c=true then u σ H1 Q else Q false H1
def tOr(t u:TT):TT:=λσ H Q=>t σ H λc H1=>if c=true then Q true H1 else u σ H1 Q
def tNot(t:TT):TT:=λσ H Q=>t σ H λc H1=>Q (!c) H1
theorem jk(ha:PT X a tA):PW X (.BoolOp .And [a] pos) tA:=by
 intro wh pins s σ H Q I h;refine isTrue_and (thn (ha pins s σ H Q I h) λc s1 e=>?_)
 cases c with
 | true=>exact isTrue_and_nil e
 | false=>exact e
theorem jB(ha:PT X a tA):PW X (.BoolOp .Or [a] pos) tA:=by
 intro wh pins s σ H Q I h;refine isTrue_or (thn (ha pins s σ H Q I h) λc s1 e=>?_)
 cases c with
 | false=>exact isTrue_or_nil e
 | true=>exact e
theorem j7(ha:PT X a tA)(hb:PW X (.BoolOp .And (b::rest) pos) K'):PW X (.BoolOp .And (a::b::rest) pos) (zz tA K'):=by
 intro wh pins s σ H Q I h;refine isTrue_and (thn (ha pins s σ H _ I h) λc s1 A9=>?_)
 obtain⟨H1,I1,q1⟩:=A9
 cases c with
 | true=>exact hb wh pins s1 σ H1 Q I1 q1
 | false=>exact⟨H1,I1,q1⟩
theorem kJ(ha:PT X a tA)(hb:PW X (.BoolOp .Or (b::rest) pos) K'):PW X (.BoolOp .Or (a::b::rest) pos) (tOr tA K'):=by
 intro wh pins s σ H Q I h;refine isTrue_or (thn (ha pins s σ H _ I h) λc s1 A9=>?_)
 obtain⟨H1,I1,q1⟩:=A9
 cases c with
 | true=>exact⟨H1,I1,q1⟩
 | false=>exact hb wh pins s1 σ H1 Q I1 q1
theorem nY(ha:PT X a tA):PT X (.UnaryOp .Not a pos) (tNot tA):=by
 intro pins s σ H Q I h;exact isTrue_not (ha pins s σ H (λc H1=>Q (!c) H1) I h)
def tAndV(ta tb:TE):TE:=λσ H Q=>ta σ H λx H1=>∃c,x =.bl c/\if c=true then tb σ H1 Q else Q (.bl false) H1
theorem qg{op}{t:TE}(h:PE X a t):PE X (.BoolOp op [a] pos) t:=λpins s σ H Q I hw=>BoolOp_one (h pins s σ H Q I hw)
theorem n6(ha:PE X a ta)(hb:PE X (.BoolOp .And (b::rest) pos) tb):PE X (.BoolOp .And (a::b::rest) pos) (tAndV ta tb):=by
 intro pins s σ H Q I h;refine BoolOp_and (thn (ha pins s σ H _ I h) λv s1 A9=>?_)
 obtain⟨x,H1,I1,r1,q1⟩:=A9
 obtain⟨c,rfl,q1⟩:=q1
 cases r1;refine wpAny_truthy_bool ?_
 cases c with
 | true=>exact hb pins s1 σ H1 Q I1 q1
 | false=>exact⟨.bl false,H1,I1,rfl,q1⟩
def tIf(t:TT)(ta tb:TE):TE:=λσ H Q=>t σ H λc H1=>if c=true then ta σ H1 Q else tb σ H1 Q
theorem kP{c:Expr}(hc:PT X c tA)(ha:PE X a ta)(hb:PE X b tb):PE X (.IfExp c a b pos) (tIf tA ta tb):=by
 intro pins s σ H Q I h;refine wpAny_IfExp (thn (hc pins s σ H _ I h) λd s1 A9=>?_)
 obtain⟨H1,I1,q1⟩:=A9
 cases d with
 | true=>exact ha pins s1 σ H1 Q I1 q1
 | false=>exact hb pins s1 σ H1 Q I1 q1
end
def SqL(K:Fg_)(H:Hp)(a:Addr)(xs:List V):Prop :=
 Rd H a (.lst xs) \/
  ∃(o:Obj)(AX:Array Value)(n:Nat),K.lookup a=some o/\o.cls =.type "list"/\o.dict=none/\o.data =.seq AX n/\AX.size<=sizeLine/\cJ xs AX.toList
def SqT(K:Fg_)(H:Hp)(a:Addr)(xs:List V):Prop :=
 Rd H a (.tup xs) \/
  ∃(o:Obj)(AX:Array Value)(n:Nat),K.lookup a=some o/\o.cls =.type "tuple"/\o.data =.seq AX n/\AX.size<=sizeLine/\cJ xs AX.toList
def absV:Value->Option V
 | .none=>some .non
 | .bool b=>some (.bl b)
 | .int i _=>some (.int i)
 | .str x _=>some (.str x)
 | .bytes b _=>some (.byt b)
 | .float b _=>some (.flt b)
 | .ref a=>some (.ref a)
 | .type n=>some (.ty n)
 | _=>none
theorem dw.abs{x:V}{u:Value}(r:dw x u):absV u=some x:=by
 cases x with
 | non=>cases r;rfl
 | bl _=>cases r;rfl
 | int _=>obtain⟨t,rfl⟩:=r;rfl
 | str _=>obtain⟨t,rfl⟩:=r;rfl
 | byt _=>obtain⟨t,rfl⟩:=r;rfl
 | flt _=>obtain⟨t,rfl⟩:=r;rfl
 | ref _=>cases r;rfl
 | ty _=>cases r;rfl
theorem dw.inj{x y:V}{u:Value}(r:dw x u)(q:dw y u):x=y:=aV (r.abs.symm.trans q.abs)
theorem cJ.inj{xs ys:List V}{us:List Value}(h:cJ xs us)(k:cJ ys us):xs=ys:=by
 induction h generalizing ys with
 | nil =>
  cases k;rfl
 | cons r t ih =>
  cases k with
  | cons r' t'=>rw[r.inj r',ih t']
section
variable {X:Cx}{pins:List (Addr×Obj)}{σ:St}{H:Hp}{s:Shared}{a:Addr}{xs ys:List V}
theorem SqL.of{K:Fg_}(h:H a=some (.lst xs)):SqL K H a xs:=.inl (.inl h)
theorem SqT.of{K:Fg_}(h:H a=some (.tup xs)):SqT K H a xs:=.inl (.inl h)
theorem Inv.list(I:Inv X pins σ H s)(h:SqL X.K H a xs):∃AX:List Value,cJ xs AX/\PlainL s.heap a AX.toArray/\xs.length<=sizeLine:=by
 rcases h with h | ⟨o,AX,n,hk,hc,hd,hs,hz,r⟩
 .obtain⟨z,AX,n,r,e⟩:=h.ok I.hok
  exact⟨AX,r,⟨_,n,e,rfl,rfl,rfl⟩,z⟩
 .refine⟨AX.toList,r,⟨o,n,I.kIn a o hk,hc,hd,by simpa using hs⟩,?_⟩
  have e:=r.length
  simp only[d9]at e;lia
theorem Inv.tuple(I:Inv X pins σ H s)(h:SqT X.K H a xs):∃AX:List Value,cJ xs AX/\IsTup s.heap a AX.toArray/\xs.length<=sizeLine:=by
 rcases h with h | ⟨o,AX,n,hk,hc,hs,hz,r⟩
 .obtain⟨z,AX,r,p⟩:=h.ok I.hok
  exact⟨AX,r,p,z⟩
 .refine⟨AX.toList,r,⟨o,I.kIn a o hk,hc,n,by simpa using hs⟩,?_⟩
  have e:=r.length
  simp only[d9]at e;lia
theorem Inv.list_inj(I:Inv X pins σ H s)(h:SqL X.K H a xs)(h':SqL X.K H a ys):xs=ys:=by
 obtain⟨AX,r,⟨o,n,e,_,_,d⟩,_⟩:=I.list h
 obtain⟨its',r',⟨o',n',e',_,_,d'⟩,_⟩:=I.list h'
 rw[e]at e';cases e'
 rw[d]at d'
 injection d' with d1 _
 have:AX=its':=by simpa using congrArg Array.toList d1
 subst this;exact r.inj r'
theorem Inv.tuple_inj(I:Inv X pins σ H s)(h:SqT X.K H a xs)(h':SqT X.K H a ys):xs=ys:=by
 obtain⟨AX,r,⟨o,e,_,n,d⟩,_⟩:=I.tuple h
 obtain⟨its',r',⟨o',e',_,n',d'⟩,_⟩:=I.tuple h'
 rw[e]at e';cases e'
 rw[d]at d'
 injection d' with d1 _
 have:AX=its':=by simpa using congrArg Array.toList d1
 subst this;exact r.inj r'
end
abbrev Cx.wish(X:Cx)(E:Value->Shared->Prop):Cx:={ X with xe:=E }
abbrev Cx.nox(X:Cx):Cx:=X.wish λξ ξ=>False
theorem Cx.Ok.wish{X:Cx}(ok:X.Ok)(E:Value->Shared->Prop):(X.wish E).Ok :=
 ⟨ok.mod,ok.kind,ok.glob,ok.blt,ok.above,ok.inj,ok.has,ok.cab,ok.hd,ok.frames,ok.stk,ok.exf,ok.bs,ok.bsz,ok.noex,ok.exfs,ok.funs,ok.frf⟩
theorem Cx.Ok.unwish{X:Cx}{E:Value->Shared->Prop}(ok:(X.wish E).Ok):X.Ok :=
 ⟨ok.mod,ok.kind,ok.glob,ok.blt,ok.above,ok.inj,ok.has,ok.cab,ok.hd,ok.frames,ok.stk,ok.exf,ok.bs,ok.bsz,ok.noex,ok.exfs,ok.funs,ok.frf⟩
section
variable {X:Cx}{pins:List (Addr×Obj)}{σ:St}{H:Hp}{s:Shared}{E:Value->Shared->Prop}
theorem Inv.wish(I:Inv X pins σ H s)(E:Value->Shared->Prop):Inv (X.wish E) pins σ H s:=⟨I.ok.wish E,I.os,I.bare,I.base,I.loc,I.cell,I.free,I.freeC,I.pin,I.hok,I.len⟩
theorem Inv.unwish(I:Inv (X.wish E) pins σ H s):Inv X pins σ H s:=⟨I.ok.unwish,I.os,I.bare,I.base,I.loc,I.cell,I.free,I.freeC,I.pin,I.hok,I.len⟩
theorem SP.unwish{D:js}{f:Flow}{s':Shared}(h:SP (X.wish E) pins D f s'):SP X pins D f s':=by
 cases f with
 | next=>obtain⟨σ',H',I,q⟩:=h;exact⟨σ',H',I.unwish,q⟩
 | brk=>obtain⟨σ',H',I,q⟩:=h;exact⟨σ',H',I.unwish,q⟩
 | cont=>obtain⟨σ',H',I,q⟩:=h;exact⟨σ',H',I.unwish,q⟩
 | ret u=>obtain⟨v,σ',H',I,r,q⟩:=h;exact⟨v,σ',H',I.unwish,r,q⟩
theorem PSs.nox{st:List Stmt}{t:TS}(h:PSs X.nox st t):PSs X st t:=λpins s σ H D I hw =>
 wpAny_mono (h pins s σ H D (I.wish _) hw) (λξ ξ q=>q.unwish) λξ ξ z=>False.elim z
end
section
variable {X:Cx}{st:Stmt}{rest:List Stmt}{t u:TS}{e:Expr}{te:TE}{pos:Pos}
def tNext:TS:=λD σ H=>D.nx σ H
def tSeq(t u:TS):TS:=λD σ H=>t { D with nx:=u D } σ H
theorem b7:PSs X [] tNext:=λξ ξ σ H ξ I h=>wpAny_execs_nil ⟨σ,H,I,h⟩
theorem az(h1:PS X st t)(h2:PSs X rest u):PSs X (st::rest) (tSeq t u):=by
 intro pins s σ H D I h;refine wpAny_execs_cons (thn (h1 pins s σ H { D with nx:=u D } I h) λf s1 q=>?_)
 cases f with
 | next =>
  obtain⟨σ',H',I',q⟩:=q
  exact h2 pins s1 σ' H' D I' q
 | ret v=>exact q
 | brk=>exact q
 | cont=>exact q
theorem aJ(h1:PS X st t):PSs X [st] t:=by
 intro pins s σ H D I h;refine wpAny_execs_cons (thn (h1 pins s σ H D I h) λf s1 q=>?_)
 cases f with
 | next=>exact wpAny_execs_nil q
 | ret v=>exact q
 | brk=>exact q
 | cont=>exact q
theorem Inv.quiet{pins:List (Addr×Obj)}{σ:St}{H:Hp}{s:Shared}(I:Inv X pins σ H s):interactive X.env=false:=by simp[interactive,I.ok.kind]
def tDrop(te:TE):TS:=λD σ H=>te σ H λξ H1=>D.nx σ H1
theorem cY(he:PE X e te)(hs:swapsWith e none pos.line X.env=pure false:=by rfl):PS X (.Expr e pos) (tDrop te):=by
 intro pins s σ H D I h;exact wpAny_Expr_any (thn (he pins s σ H _ I h) λv s1 ⟨x,H1,I1,r1,q1⟩=>⟨σ,H1,I1,q1⟩) I.quiet hs
def tRet(te:TE):TS:=λD σ H=>te σ H D.rt
theorem bK(he:PE X e te):PS X (.Return (some e) pos) (tRet te):=by
 intro pins s σ H D I h;exact wpAny_Return_some (thn (he pins s σ H _ I h) λv s1 ⟨x,H1,I1,r1,q1⟩=>⟨x,σ,H1,I1,r1,q1⟩)
def zw(c:TT)(t u:TS):TS:=λD σ H=>c σ H λb H1=>if b=true then t D σ H1 else u D σ H1
theorem cE{c:Expr}{a b:List Stmt}{tc:TT}(hc:PT X c tc)(ha:PSs X a t)(hb:PSs X b u):PS X (.If c a b pos) (zw tc t u):=by
 intro pins s σ H D I h;refine wpAny_If (thn (hc pins s σ H _ I h) λd s1 A9=>?_)
 obtain⟨H1,I1,q1⟩:=A9
 cases d with
 | true=>exact ha pins s1 σ H1 D I1 q1
 | false=>exact hb pins s1 σ H1 D I1 q1
end
abbrev TG:=V->St->Hp->(St->Hp->Prop)->Prop
abbrev TGs:=List V->St->Hp->(St->Hp->Prop)->Prop
def PG(X:Cx)(target:Expr)(t:TG):Prop :=
 ∀(pins:List (Addr×Obj))(s:Shared)(σ:St)(H:Hp)(v:V)(u:Value)(Q:St->Hp->Prop),Inv X pins σ H s->dw v u->t v σ H Q ->
  wpAny (model X.prog X.w) X.A (assign target X.env u) (λξ s'=>∃σ' H',Inv X pins σ' H' s'/\Q σ' H') X.xe s
def PGs(X:Cx)(ts:List Expr)(t:TGs):Prop :=
 ∀(pins:List (Addr×Obj))(s:Shared)(σ:St)(H:Hp)(vs:List V)(us:List Value)(Q:St->Hp->Prop),Inv X pins σ H s->cJ vs us->t vs σ H Q ->
  wpAny (model X.prog X.w) X.A (assignInOrder ((assignEach ts X.env).map (·.2)) us) (λξ s'=>∃σ' H',Inv X pins σ' H' s'/\Q σ' H') X.xe s
abbrev AW:=V->V->V->Hp->(Hp->Prop)->Prop
def PSet(X:Cx)(t:AW):Prop :=
 ∀(pins:List (Addr×Obj))(s:Shared)(σ:St)(H:Hp)(o i v:V)(ov iv u:Value)(Q:Hp->Prop),Inv X pins σ H s->dw o ov->dw i iv->dw v u->t o i v H Q ->
  wpAny (model X.prog X.w) X.A (setItem ov iv u) (λξ s'=>∃H',Inv X pins σ H' s'/\Q H') X.xe s
abbrev TIp:=V->V->Hp->VK->Prop
def PIp(X:Cx)(op:Operator)(t:TIp):Prop :=
 ∀(pins:List (Addr×Obj))(s:Shared)(σ:St)(H:Hp)(x y:V)(v u:Value)(Q:VK),Inv X pins σ H s->dw x v->dw y u->t x y H Q ->
  wpAny (model X.prog X.w) X.A (inplaceOp op v u) (EP X pins σ Q) X.xe s
section
variable {X:Cx}{pos:Pos}
def uu(i:Nat):TG:=λv σ H Q=>Q (σ.set i (some v)) H
theorem fv{i:Nat}{x:Str}(hN:X.N.Nodup)(hi:X.N[i]? =some x)(hx:Loc X.env.scope x)(hf:X.fn x=true\/X.env.scope.names.lookup x=some .local:=by first | exact .inl rfl | exact .inr rfl | assumption):PG X (.Name x pos) (uu i):=by
 intro pins s σ H v u Q I r h;exact wpAny_assign_Name (kI I hN hi hx r (λs' I'=>⟨_,H,I',h⟩) hf)
def gNil:TGs:=λvs σ H Q=>vs=[]/\Q σ H
def gCons(t:TG)(u:TGs):TGs:=λvs σ H Q=>∃v r,vs=v::r/\t v σ H λσ' H'=>u r σ' H' Q
theorem ud:PGs X [] gNil:=by
 intro pins s σ H vs us Q I r h;obtain⟨e,h⟩:=h
 subst e;cases r;exact assignInOrder_nil ⟨σ,H,I,h⟩
theorem kN{e:Expr}{es:List Expr}{t:TG}{u:TGs}(h1:PG X e t)(h2:PGs X es u)
  (hs:(assignEach (e::es) X.env).map (·.2)=assign e X.env::(assignEach es X.env).map (·.2):=by rfl):PGs X (e::es) (gCons t u):=by
 intro pins s σ H vs us Q I r h;obtain⟨v,vr,e1,h⟩:=h
 subst e1;cases r with
 | cons r rr =>
  rw[hs];refine assignInOrder_cons (thn (h1 pins s σ H _ _ _ I r h) λξ s1 A9=>?_)
  obtain⟨σ1,H1,I1,q1⟩:=A9
  exact h2 pins s1 σ1 H1 _ _ Q I1 rr q1
def gTup(K:Fg_)(n:Nat)(t:TGs):TG:=λv σ H Q=>∃a xs,v =.ref a/\SqT K H a xs/\xs.length=n/\t xs σ H Q
theorem wc{es:List Expr}{k:Nat}{t:TGs}{n:Nat}(hc:X.calm=true)(h:PGs X es t)
  (hn:(assignEach es X.env).length=n:=by rfl)(A':(assignEach es X.env).findIdx? (·.1)=none:=by rfl):PG X (.Tuple es k pos) (gTup X.K n t):=by
 intro pins s σ H v u Q I r hw;obtain⟨a,xs,e1,hq,hl,hw⟩:=hw
 subst e1;cases r;obtain⟨AX,rv,ht,hz⟩:=I.tuple hq
 refine assign_Tuple_tuple (I.ok.hd hc) ht (by simp[hn,<-hl,rv.length]) A' λh' hx=>?_
 have I1:Inv X pins σ H { s with heap:=h' }:=I.kept (t':=s.toks) λb o e=>hx b o (bG (aZ e)) e
 exact h pins _ σ H xs _ Q I1 (by simpa using rv) hw
def gSub(to ti:TE)(t:AW):TG:=λv σ H Q=>to σ H λo H1=>ti σ H1 λi H2=>t o i v H2 λH3=>Q σ H3
theorem Az{o i:Expr}{to ti:TE}{t:AW}(ho:PE X o to)(hi:PE X i ti)(hs:PSet X t)
  (ha:∀v,assign (.Subscript o i pos) X.env v=(do
   let ov ←holding [v] (eval o X.env)
   let iv ←holding [v,ov] (eval i X.env)
   standAt pos
   holding [v,ov,iv] (setItem ov iv v)
   release [v,ov,iv] []):=by intro _;rfl):PG X (.Subscript o i pos) (gSub to ti t):=by
 intro pins s σ H v u Q I r h;rw[ha];refine aH (wpAny_holding (thn (ho pins s σ H _ I h) λov s1 A9=>?_))
 obtain⟨x,H1,I1,r1,q1⟩:=A9
 refine aH (wpAny_holding (thn (hi pins s1 σ H1 _ I1 q1) λiv s2 A9=>?_))
 obtain⟨y,H2,I2,r2,q2⟩:=A9
 refine aH (wpAny_standAt (aH (wpAny_holding (thn (hs pins s2 σ H2 x y v ov iv u _ I2 r1 r2 r q2) λξ s3 A9=>?_))))
 obtain⟨H3,I3,q3⟩:=A9
 exact wpAny_release ⟨σ,H3,I3,q3⟩
def tAsg(te:TE)(g:TG):TS:=λD σ H=>te σ H λx H1=>g x σ H1 D.nx
theorem Av{tg e:Expr}{te:TE}{g:TG}(he:PE X e te)(hg:PG X tg g)(hs:swapsWithSole [tg] e pos.line X.env=pure false:=by rfl)(hw:swappedStores [tg] e X.env=pure none:=by rfl)
  (h1:(assignEach [tg] X.env).map (·.2)=[assign tg X.env]:=by rfl):PS X (.Assign [tg] e pos) (tAsg te g):=by
 intro pins s σ H D I h;refine wpAny_Assign_stores (thn (he pins s σ H _ I h) λv s1 A9=>?_) hs hw
 obtain⟨x,H1,I1,r1,q1⟩:=A9
 rw[h1];exact thn (hg pins s1 σ H1 x v _ I1 r1 q1) λξ s2 q=>q
theorem bE{i:Nat}{x:Str}{e:Expr}{te:TE}{pos':Pos}(hN:X.N.Nodup)(hi:X.N[i]? =some x)(hx:Loc X.env.scope x)(he:PE X e te)(hs:swapsWith e (some (.Name x pos')) pos.line X.env=pure false:=by rfl)(hf:X.fn x=true\/X.env.scope.names.lookup x=some .local:=by first | exact .inl rfl | exact .inr rfl | assumption) :
  PS X (.Assign [.Name x pos'] e pos) (tAsg te (uu i)):=by
 intro pins s σ H D I h;refine wpAny_Assign_Name (thn (he pins s σ H _ I h) λv s1 A9=>?_) hs
 obtain⟨y,H1,I1,r1,q1⟩:=A9
 exact kI I1 hN hi hx r1 (λs2 I2=>⟨_,H1,I2,q1⟩) hf
def tAug(i:Nat)(te:TE)(ti:TIp):TS:=λD σ H=>∃x,σ[i]? =some (some x)/\te σ H λy H1=>ti x y H1 λz H2=>D.nx (σ.set i (some z)) H2
theorem sQ{i:Nat}{x:Str}{e:Expr}{te:TE}{op:Operator}{ti:TIp}{pos':Pos}(hN:X.N.Nodup)(hi:X.N[i]? =some x)(hx:Loc X.env.scope x)(he:PE X e te)(ho:PIp X op ti)(hf:X.fn x=true\/X.env.scope.names.lookup x=some .local:=by first | exact .inl rfl | exact .inr rfl | assumption) :
  PS X (.AugAssign (.Name x pos') op e pos) (tAug i te ti):=by
 intro pins s σ H D I h;obtain⟨v,e1,h⟩:=h
 obtain⟨m,hn,hl⟩:=I.loc
 have Sv:Vis X.env.scope x:=by rcases hx with k | k;exact .inl k;exact .inr (.inl k)
 obtain⟨u,r,l⟩:=hl i x v hi e1 Sv
 refine wpAny_AugAssign_Name ?_
 have go:wpAny (model X.prog X.w) X.A (eval e X.env) (λw s₂=>wpAny (model X.prog X.w) X.A (inplaceOp op u w) (λr s₃=>wpAny (model X.prog X.w) X.A (storeName X.env x r) (λξ=>SP X pins D .next) X.xe s₃) X.xe s₂) X.xe s:=by
  refine thn (he pins s σ H _ I h) λw s1 A9=>?_
  obtain⟨y,H1,I1,r1,q1⟩:=A9
  refine thn (ho pins s1 σ H1 v y u w _ I1 r r1 q1) λz s2 A9=>?_
  obtain⟨zv,H2,I2,r2,q2⟩:=A9
  exact kI I2 hN hi hx r2 (λs3 I3=>⟨_,H2,I3,q2⟩) hf
 rcases l with⟨hk,hm⟩ | ⟨hk,c,hc,DT⟩
 .exact wpAny_loadName_local I.ok.kind hk hn hm go
 .rcases hk with hk | hk
  .exact wpAny_loadName_cell I.ok.kind hk hc DT go
  .rcases hx with k | k
   .have:X.env.scope.names.lookup x=some .free:=hk
    rw[k]at this;cases this
   .have:X.env.scope.names.lookup x=some .free:=hk
    rw[k]at this;cases this
end
section
variable {X:Cx}{pos:Pos}
def zt(c:TT)(tb:TS):TS:=λD σ H=>∃W:Nat->St->Hp->Prop,(∃m,W m σ H)/\∀m σ H,W m σ H ->
 c σ H λb H1=>if b=true then ∃N:St->Hp->Prop,(∀σ' H',N σ' H'->∃m',m'<m/\W m' σ' H')/\tb { D with nx:=N,ct:=N,bk:=D.nx } σ H1 else D.nx σ H1
theorem iV{c:Expr}{body:List Stmt}{tc:TT}{tb:TS}(hp:PassesOwn (model X.prog X.w) X.A X.env X.xe)(hc:PT X c tc)(hb:PSs X body tb):PS X (.While c body [] pos) (zt tc tb):=by
 intro pins s σ H D I h;obtain⟨W,⟨m0,w0⟩,turn⟩:=h
 refine wpAny_While (codeAny_whileLoop (λn s'=>∃σ' H',Inv X pins σ' H' s'/\W n σ' H') ?_ m0 ⟨σ,H,I,w0⟩)
 rintro n s1 ⟨σ1,H1,I1,w1⟩
 refine wpAny_passesOwn hp (thn (hc pins s1 σ1 H1 _ I1 (turn n σ1 H1 w1)) λb s2 A9=>?_)
 obtain⟨H2,I2,q2⟩:=A9
 cases b with
 | true =>
  obtain⟨N,hN,q2⟩:=q2
  rw[ax rfl];refine wpAny_passesOwn hp (thn (hb pins s2 σ1 H2 _ I2 q2) λf s3 q3=>?_)
  cases f with
  | next =>
   obtain⟨σ3,H3,I3,n3⟩:=q3
   obtain⟨m',hm,w3⟩:=hN σ3 H3 n3
   exact⟨m',hm,σ3,H3,I3,w3⟩
  | cont =>
   obtain⟨σ3,H3,I3,n3⟩:=q3
   obtain⟨m',hm,w3⟩:=hN σ3 H3 n3
   exact⟨m',hm,σ3,H3,I3,w3⟩
  | brk=>exact q3
  | ret v=>exact q3
 | false =>
  rw[ay aT];exact wpAny_execs_nil ⟨σ1,H2,I2,q2⟩
end
structure It where
 go:Nat->Hp->Prop
 yld:Nat->Hp->V->Hp->Prop
 stop:Nat->Hp->Prop
def mW(X:Cx)(pins:List (Addr×Obj))(H:Hp)(b:Addr):Prop :=
 H b=none/\b≠X.env.locals/\b∉X.fs/\(b∈X.ex\/X.s_0.heap.objs.size<=b)/\(∀x c,X.env.cells.lookup x=some c->c≠b)/\∀p∈X.pn++pins,p.1≠b
theorem Inv.fpOk{X:Cx}{pins:List (Addr×Obj)}{σ:St}{H H':Hp}{s:Shared}{b:Addr}(I:Inv X pins σ H s)(hb:s.heap.objs.size<=b)(hn:H' b=none):mW X pins H' b:=by
 refine⟨hn,fj (aR I.lt hb),I.nofs hb,.inr (bH I.sz hb),λx c e z=>?_,λp hp z=>?_⟩
 .obtain⟨v,q⟩:=I.cell x c e
  exact aW (aR q.lt (by rw[z];exact hb)) (cw _)
 .exact aW (aR (aZ (I.pin p hp).1) (by rw[z];exact hb)) (cw _)
structure Turn(P:Program)(w:World)(K:Fg_)(tg:Expr)(J:It)(fp:List Addr)(it:Addr)(tn:Nat->Heap->Prop):Prop where
 mem:it∈fp
 obj:∀i h,tn i h->∀b∈fp,∃o,h.get? b=some o/\∀v,o.data≠.cell v
 keep:∀i h h',tn i h->(∀b∈fp,∀o,h.get? b=some o->h'.get? b=some o)->tn i h'
 item:∀(X:Cx),X.prog=P->X.w=w->X.K=K->X.calm=true->∀(i:Nat)(pins:List (Addr×Obj))(s:Shared)(σ:St)(H:Hp)(E:Value->Shared->Prop),Inv X pins σ H s->(∀b∈fp,mW X pins H b)->tn i s.heap->J.go i H ->
  wpAny (model P w) X.A (pyNext (.ref it)) (λr s1=>∃u,r=some u /\
   wpAny (model P w) X.A (letOwnedTupleGo tg (.ref it) u) (λξ s2=>∃x H',Inv X pins σ H' s2/\dw x u/\J.yld i H x H'/\tn (i+1) s2.heap/\∀b∈fp,H' b=none) E s1) E s
 done:∀(X:Cx),X.prog=P->X.w=w->X.K=K->X.calm=true->∀(i:Nat)(pins:List (Addr×Obj))(s:Shared)(σ:St)(H:Hp)(E:Value->Shared->Prop),Inv X pins σ H s->(∀b∈fp,mW X pins H b)->tn i s.heap->J.stop i H ->
  wpAny (model P w) X.A (pyNext (.ref it)) (λr s1=>r=none/\Inv X pins σ H s1) E s
 self:∀(A:Around)(i:Nat)(s:Shared)(Q:Value->Shared->Prop)(E:Value->Shared->Prop),tn i s.heap->Q (.ref it) s->wpAny (model P w) A (pyIter (.ref it)) Q E s
abbrev TI:=St->Hp->(It->Hp->Prop)->Prop
def PIE(X:Cx)(pins:List (Addr×Obj))(σ:St)(tg:Expr)(R:It->Hp->Prop)(MF:Value)(s2:Shared):Prop :=
 ∃(it:Addr)(fp:List Addr)(tn:Nat->Heap->Prop)(J:It)(H':Hp),MF =.ref it/\Inv X pins σ H' s2/\Turn X.prog X.w X.K tg J fp it tn/\tn 0 s2.heap/\(∀b∈fp,mW X pins H' b)/\R J H'
def PI(X:Cx)(tg iter:Expr)(wi:TI):Prop :=
 ∀(pins:List (Addr×Obj))(s:Shared)(σ:St)(H:Hp)(R:It->Hp->Prop),Inv X pins σ H s->wi σ H R ->
  wpAny (model X.prog X.w) X.A (eval iter X.env) (λv s1=>wpAny (model X.prog X.w) X.A (pyIter v) (PIE X pins σ tg R) X.xe s1) X.xe s
theorem go_of{M : Model}{A : Around}{E : Value -> Shared -> Prop}{s : Shared}{tg : Expr}{it : Addr}{u : Value}{o : Obj}{n : String}{vs : Array Value}{Q : Unit -> Shared -> Prop}(ho : s.heap.get? it = some o)(hc : o.cls = .type n)(hd : o.data = .fields vs)
    (hn : ["enumerate", "zip", "dict_itemiterator", "dict_reverseitemiterator", "odict_iterator", "itertools.zip_longest", "itertools.pairwise"].contains n = false)(hQ : Q () s) : wpAny M A (letOwnedTupleGo tg (.ref it) u) Q E s := by
  unfold letOwnedTupleGo
  cases tg <;> first
    | exact bM hQ
    | (cases u <;> first
        | exact bM hQ
        | (refine aH (wpAny_load ho ?_)
           rw [hc, hd]
           show wpAny M A (if (["enumerate", "zip", "dict_itemiterator", "dict_reverseitemiterator", "odict_iterator", "itertools.zip_longest", "itertools.pairwise"].contains n && vs[0]? == some (rawInt _)) = true then _ else _) Q E s
           rw [ay (by intro h; rw [hn, fJ] at h; cases h)]
           exact bM hQ))
def Itl(K:Fg_)(a:Addr):It :=
 ⟨λi H=>∃xs x,SqL K H a xs/\xs[i]? =some x,λi H x H'=>H'=H/\∀xs,SqL K H a xs->xs[i]? =some x,λi H=>∃xs,SqL K H a xs/\xs.length<=i⟩
def Itt(K:Fg_)(a:Addr):It :=
 ⟨λi H=>∃xs x,SqT K H a xs/\xs[i]? =some x,λi H x H'=>H'=H/\∀xs,SqT K H a xs->xs[i]? =some x,λi H=>∃xs,SqT K H a xs/\xs.length<=i⟩
def Itr(lo:Int)(n:Nat):It:=⟨λi ξ=>i<n,λi H x H'=>H'=H/\x =.int (lo+i),λi ξ=>n<=i⟩
theorem uH{P:Program}{w:World}{K:Fg_}{tg:Expr}(a it:Addr):Turn P w K tg (Itl K a) [it] it (λi h=>h.IsListIter it a i) where
 mem:=by simp
 obj:=λi h st b hb=>by
  have e:b=it:=by simpa using hb
  subst e;obtain⟨o,e,c,d⟩:=st
  exact⟨o,e,λv z=>by rw[d]at z;cases z⟩
 keep:=λi h h' st k=>st.at λo e=>k it (by simp) o e
 item:=by
  intro X hP hw hK hc i pins s σ H E I hf st hg;subst hP hw hK;obtain⟨xs,x,hq,hx⟩:=hg
  obtain⟨AX,rv,p,hz⟩:=I.list hq
  obtain⟨u,hu,ru⟩:=rv.get hx
  obtain⟨f0,f1,f2,f3,f4,f5⟩:=hf it (by simp)
  refine wpAny_pyNext_list_item st p.isList (x:=u) (by simpa using hu) λh' Ck sb=>?_
  have I1:Inv X pins σ H { s with heap:=h' }:=I.turned (t':=s.toks) (λb o hb e=>(sb.2 b hb).trans e) f0 f1 f3 f4 f5
  obtain⟨o,e,c,d⟩:=id Ck
  exact⟨u,rfl,go_of (s:={ s with heap:=h' }) e c d (by decide) ⟨x,H,I1,ru,⟨rfl,λys hy=>by rw[I.list_inj hy hq];exact hx⟩,Ck,λb hb=>(hf b hb).1⟩⟩
 done:=by
  intro X hP hw hK hc i pins s σ H E I hf st hg;subst hP hw hK;obtain⟨xs,hq,hx⟩:=hg
  obtain⟨AX,rv,p,hz⟩:=I.list hq
  obtain⟨f0,f1,f2,f3,f4,f5⟩:=hf it (by simp)
  have hl:=rv.length
  exact wpAny_pyNext_list_end (I.ok.hd hc) st p.isList (by simp;exact leL hl hx) λh' eb=>⟨rfl,I.turned (t':=s.toks) (λb o hb e=>eb b o hb e) f0 f1 f3 f4 f5⟩
 self:=λξ ξ ξ ξ ξ st h=>wpAny_pyIter_listiter st h
theorem sE{P:Program}{w:World}{K:Fg_}{tg:Expr}(a it:Addr):Turn P w K tg (Itt K a) [it] it (λi h=>h.IsTupleIter it a i) where
 mem:=by simp
 obj:=λi h st b hb=>by
  have e:b=it:=by simpa using hb
  subst e;obtain⟨o,e,c,d⟩:=st
  exact⟨o,e,λv z=>by rw[d]at z;cases z⟩
 keep:=λi h h' st k=>st.at λo e=>k it (by simp) o e
 item:=by
  intro X hP hw hK hc i pins s σ H E I hf st hg;subst hP hw hK;obtain⟨xs,x,hq,hx⟩:=hg
  obtain⟨AX,rv,p,hz⟩:=I.tuple hq
  obtain⟨u,hu,ru⟩:=rv.get hx
  obtain⟨f0,f1,f2,f3,f4,f5⟩:=hf it (by simp)
  refine wpAny_pyNext_tuple_item st (show s.heap.IsTuple a AX.toArray from p) (x:=u) (by simpa using hu) λh' Ck sb=>?_
  have I1:Inv X pins σ H { s with heap:=h' }:=I.turned (t':=s.toks) (λb o hb e=>(sb.2 b hb).trans e) f0 f1 f3 f4 f5
  obtain⟨o,e,c,d⟩:=id Ck
  exact⟨u,rfl,go_of (s:={ s with heap:=h' }) e c d (by decide) ⟨x,H,I1,ru,⟨rfl,λys hy=>by rw[I.tuple_inj hy hq];exact hx⟩,Ck,λb hb=>(hf b hb).1⟩⟩
 done:=by
  intro X hP hw hK hc i pins s σ H E I hf st hg;subst hP hw hK;obtain⟨xs,hq,hx⟩:=hg
  obtain⟨AX,rv,p,hz⟩:=I.tuple hq
  obtain⟨f0,f1,f2,f3,f4,f5⟩:=hf it (by simp)
  have hl:=rv.length
  exact wpAny_pyNext_tuple_end (I.ok.hd hc) st (show s.heap.IsTuple a AX.toArray from p) (by simp;exact leL hl hx) λh' eb=>⟨rfl,I.turned (t':=s.toks) (λb o hb e=>eb b o hb e) f0 f1 f3 f4 f5⟩
 self:=λξ ξ ξ ξ ξ st h=>wpAny_pyIter_tupleiter st h
theorem sF{P:Program}{w:World}{K:Fg_}{tg:Expr}(it:Addr)(lo:Int)(n:Nat):Turn P w K tg (Itr lo n) [it] it (λi h=>IsRangeIter h it (lo+(i:Nat)*1) ((n:Int)-(i:Nat)) 1) where
 mem:=by simp
 obj:=λi h st b hb=>by
  have e:b=it:=by simpa using hb
  subst e;exact⟨_,st,λv z=>by
   have z':Data.fields _=Data.cell v:=z
   cases z'⟩
 keep:=λi h h' st k=>k it (by simp) _ st
 item:=by
  intro X hP hw hK hc i pins s σ H E I hf st hg;subst hP hw hK;obtain⟨f0,f1,f2,f3,f4,f5⟩:=hf it (by simp)
  have W:=Walks.range (prog:=X.prog) (w:=X.w) (I.ok.hd hc) it lo 1 n
  refine W.item i s _ _ hg st λv h' tk hv Ck kk=>?_
  obtain⟨t,rfl⟩:=hv
  have I1:Inv X pins σ H { s with heap:=h',toks:=tk }:=I.turned (λb o hb e=>kk b o (by simpa using hb) e) f0 f1 f3 f4 f5
  refine⟨_,rfl,go_of (s:={ s with heap:=h',toks:=tk }) (n:="range_iterator") Ck rfl rfl (by decide) ⟨.int (lo+i),H,I1,⟨t,?_⟩,⟨rfl,rfl⟩,Ck,λb hb=>(hf b hb).1⟩⟩
  rw[Int.mul_one]
 done:=by
  intro X hP hw hK hc i pins s σ H E I hf st hg;subst hP hw hK;obtain⟨f0,f1,f2,f3,f4,f5⟩:=hf it (by simp)
  exact wpAny_pyNext_range_end (I.ok.hd hc) st (by have:n<=i:=hg;lia) λh' eb=>⟨rfl,I.turned (t':=s.toks) (λb o hb e=>eb b o hb e) f0 f1 f3 f4 f5⟩
 self:=λξ ξ ξ ξ ξ st h=>wpAny_pyIter_rangeiter st h
section
variable {X:Cx}{tg:Expr}
def iList(K:Fg_)(tl:TE):TI:=λσ H R=>tl σ H λx H1=>∃a,x =.ref a/\(∃xs,SqL K H1 a xs)/\R (Itl K a) H1
def iTup(K:Fg_)(tl:TE):TI:=λσ H R=>tl σ H λx H1=>∃a,x =.ref a/\(∃xs,SqT K H1 a xs)/\R (Itt K a) H1
theorem kM{l:Expr}{tl:TE}(hl:PE X l tl):PI X tg l (iList X.K tl):=by
 intro pins s σ H R I h;refine thn (hl pins s σ H _ I h) λv s1 A9=>?_
 obtain⟨x,H1,I1,r1,q1⟩:=A9
 obtain⟨a,e,⟨xs,hq⟩,q⟩:=q1
 subst e;cases r1;obtain⟨AX,rv,p,hz⟩:=I1.list hq
 refine wpAny_pyIter_list p.isList ?_
 refine⟨s1.heap.objs.size,[s1.heap.objs.size],_,_,H1,rfl,I1.kept (t':=s1.toks) λb o e=>aL _ e,uH a _,⟨_,bx _ rfl,rfl,rfl⟩,λb hb=>?_,q⟩
 have e:b=s1.heap.objs.size:=by simpa using hb
 subst e;exact I1.fpOk (aF _) (I1.hok.fresh (aF _))
theorem Ax{l:Expr}{tl:TE}(hl:PE X l tl):PI X tg l (iTup X.K tl):=by
 intro pins s σ H R I h;refine thn (hl pins s σ H _ I h) λv s1 A9=>?_
 obtain⟨x,H1,I1,r1,q1⟩:=A9
 obtain⟨a,e,⟨xs,hq⟩,q⟩:=q1
 subst e;cases r1;obtain⟨AX,rv,p,hz⟩:=I1.tuple hq
 refine wpAny_pyIter_tuple (show s1.heap.IsTuple a AX.toArray from p) ?_
 refine⟨s1.heap.objs.size,[s1.heap.objs.size],_,_,H1,rfl,I1.kept (t':=s1.toks) λb o e=>aL _ e,sE a _,⟨_,bx _ rfl,rfl,rfl⟩,λb hb=>?_,q⟩
 have e:b=s1.heap.objs.size:=by simpa using hb
 subst e;exact I1.fpOk (aF _) (I1.hok.fresh (aF _))
theorem rk{pins:List (Addr×Obj)}{σ:St}{H:Hp}{s:Shared}{R:It->Hp->Prop}{E:Value->Shared->Prop}{lo hi:Int}{t u v:Tok}{tk:Nat}(I:Inv X pins σ H s)(h1:-(2 ^ 62)<=lo)(h2:lo<2 ^ 62)(h3:-(2 ^ 62)<=hi)(h4:hi<2 ^ 62)
  (q:R (Itr lo (hi-lo).toNat) H):wpAny (model X.prog X.w) X.A (pyIter (.ref s.heap.objs.size)) (PIE X pins σ tg R) E { s with heap:=s.heap.push { cls:=.type "range",data:=.fields #[.int lo t,.int hi u,.int 1 v] },toks:=tk }:=by
 refine wpAny_pyIter_range (IsRange.new ..) (small_one h1 h2 h3 h4) ?_
 have I1:Inv X pins σ H { s with heap:=s.heap.push { cls:=.type "range",data:=.fields #[.int lo t,.int hi u,.int 1 v] },toks:=tk }:=I.kept λb o e=>aL _ e
 refine⟨(s.heap.push { cls:=.type "range",data:=.fields #[.int lo t,.int hi u,.int 1 v] }).objs.size,[(s.heap.push { cls:=.type "range",data:=.fields #[.int lo t,.int hi u,.int 1 v] }).objs.size],_,_,H,rfl,
  I1.kept (t':=tk) λb o e=>aL _ e,sF _ lo (hi-lo).toNat,?_,λb hb=>?_,q⟩
 .have e1:lo+((0:Nat):Int)*1=lo:=by simp
  have e2:(((hi-lo).toNat:Nat):Int)-((0:Nat):Int)=Builtin.Range.rangeSize lo hi 1:=by rw[rangeSize_one];split<;>lia
  show IsRangeIter _ _ (lo+((0:Nat):Int)*1) ((((hi-lo).toNat:Nat):Int)-((0:Nat):Int)) 1
  rw[e1,e2];exact bx _ rfl
 .have e:b=(s.heap.push { cls:=.type "range",data:=.fields #[.int lo t,.int hi u,.int 1 v] }).objs.size:=by simpa using hb
  subst e;exact I1.fpOk (aF _) (I1.hok.fresh (aF _))
def iRng1(ta:TA):TI:=λσ H R=>ta σ H λvs H1=>∃j:Int,vs=[.int j]/\-(2 ^ 62)<=j/\j<2 ^ 62/\R (Itr 0 j.toNat) H1
def iRng2(ta:TA):TI:=λσ H R=>ta σ H λvs H1=>∃i j:Int,vs=[.int i,.int j]/\(-(2 ^ 62)<=i/\i<2 ^ 62/\-(2 ^ 62)<=j/\j<2 ^ 62)/\R (Itr i (j-i).toNat) H1
theorem uV{a:Expr}{ta:TA}{p pos:Pos}(hg:Gl X "range")(hm:X.mg "range" =none)(ha:PA X [a] ta)(hs:starEach [a] X.env=[(false,eval a X.env)]:=by rfl):PI X tg (.Call (.Name "range" p) [a] [] pos) (iRng1 ta):=by
 intro pins s σ H R I h;refine Call_ (jH I hg hm boot_range (PyProof.Rows.callWith_type1 (thn (ha pos pins s σ H _ I h) λus s1 A9=>?_) hs rfl))
 obtain⟨vs,H1,I1,r1,q1⟩:=A9
 obtain⟨j,e,q1,q2,q⟩:=q1
 subst e;cases r1 with
 | cons r rr =>
  cases rr;obtain⟨t,rfl⟩:=r
  exact call_range_1 (rk I1 (cV _) (cV _) q1 q2 (by simpa using q))
theorem uU{a b:Expr}{ta:TA}{p pos:Pos}(hg:Gl X "range")(hm:X.mg "range" =none)(ha:PA X [a,b] ta)(hs:starEach [a,b] X.env=[(false,eval a X.env),(false,eval b X.env)]:=by rfl)(Dk:starEach [b] X.env=[(false,eval b X.env)]:=by rfl) :
  PI X tg (.Call (.Name "range" p) [a,b] [] pos) (iRng2 ta):=by
 intro pins s σ H R I h;refine Call_ (jH I hg hm boot_range (PyProof.Rows.callWith_type1 (thn (ha pos pins s σ H _ I h) λus s1 A9=>?_) (by rw[hs,Dk]) (by rw[Dk];rfl)))
 obtain⟨vs,H1,I1,r1,q1⟩:=A9
 obtain⟨i,j,e,⟨q1,q2,q3,q4⟩,q⟩:=q1
 subst e;cases r1 with
 | cons r rr =>
  cases rr with
  | cons r' rr =>
   cases rr;obtain⟨t,rfl⟩:=r
   obtain⟨t',rfl⟩:=r'
   exact call_range_2 (rk I1 q1 q2 q3 q4 q)
def tFor(wi:TI)(g:TG)(tb:TS):TS:=λD σ H=>wi σ H λJ H1=>∃W:Nat->Nat->St->Hp->Prop,(∃m,W 0 m σ H1)/\∀i m σ H,W i m σ H ->
 (J.stop i H/\D.nx σ H)\/(J.go i H/\∃N:St->Hp->Prop,(∀σ' H',N σ' H'->∃m',m'<m/\W (i+1) m' σ' H')/\∀x H',J.yld i H x H'->g x σ H' λσ2 H2=>tb { D with nx:=N,ct:=N,bk:=D.nx } σ2 H2)
def lV(fp:List Addr)(h:Heap):List (Addr×Obj):=fp.filterMap λb=>(h.get? b).map λo=>(b,o)
theorem jn{fp:List Addr}{h:Heap}{b:Addr}{o:Obj}(hb:b∈fp)(e:h.get? b=some o):(b,o)∈lV fp h:=List.mem_filterMap.mpr ⟨b,hb,by rw[e];rfl⟩
theorem uY{fp:List Addr}{h:Heap}{p:Addr×Obj}(hp:p∈lV fp h):p.1∈fp/\h.get? p.1=some p.2:=by
 obtain⟨b,hb,e⟩:=List.mem_filterMap.mp hp
 cases q:h.get? b with
 | none=>rw[q]at e;cases e
 | some o =>
  rw[q]at e;have e':(b,o)=p:=aV e
  subst e'
  exact⟨hb,q⟩
theorem Inv.pinned{pins:List (Addr×Obj)}{σ:St}{H:Hp}{s:Shared}{fp:List Addr}(I:Inv X pins σ H s)(hf:∀b∈fp,mW X pins H b)(ho:∀b∈fp,∃o,s.heap.get? b=some o/\∀v,o.data≠.cell v):Inv X (pins++lV fp s.heap) σ H s :=
 I.pins_of λp hp=>(aM.mp hp).elim (λz=>I.pin p (aq _ z)) λz=>by
  obtain⟨hb,e⟩:=uY z
  obtain⟨f0,f1,f2,_⟩:=hf p.1 hb
  obtain⟨o,e',d⟩:=ho p.1 hb
  rw[e]at e';cases e'
  exact⟨e,f0,f1,f2,d⟩
theorem Inv.unpinned{pins pl:List (Addr×Obj)}{σ:St}{H:Hp}{s:Shared}(I:Inv X (pins++pl) σ H s):Inv X pins σ H s:=I.pins_of λp hp=>I.pin p (aq _ (aB _ hp))
theorem lS{iter:Expr}{body:List Stmt}{wi:TI}{g:TG}{tb:TS}{pos:Pos}(hp:PassesOwn (model X.prog X.w) X.A X.env X.xe)(hc:X.calm=true)(hi:PI X tg iter wi)(hg:PG X tg g)(hb:PSs X body tb)
  (hs:∀x,foldedSetIterable iter X.env x=pure x:=by intro _;rfl):PS X (.For tg iter body [] pos) (tFor wi g tb):=by
 intro pins s σ H D I h;refine wpAny_For (thn (hi pins s σ H _ I h) λv s1 h1=>thn h1 λMF s2 h2=>?_) hs
 obtain⟨it,fp,tn,J,H2,e,I2,T,GE,f2,W,⟨m0,w0⟩,turn⟩:=h2
 subst e;have Dv:∀{H':Hp},(∀b∈fp,H' b=none)->∀b∈fp,mW X pins H' b:=λhn b hb=>⟨hn b hb,(f2 b hb).2⟩
 refine codeAny_forLoop_any (λn s'=>∃i σ' H',Inv X pins σ' H' s'/\tn i s'.heap/\(∀b∈fp,H' b=none)/\W i n σ' H') ?_ m0 ⟨0,σ,H2,I2,GE,λb hb=>(f2 b hb).1,w0⟩
 rintro n s3 ⟨i,σ3,H3,I3,En,Rg,w3⟩
 rcases turn i n σ3 H3 w3 with⟨stop,qn⟩ | ⟨go,N,hN,step⟩
 .refine wpAny_passesOwn hp (thn (T.done X rfl rfl rfl hc i pins s3 σ3 H3 X.xe I3 (Dv Rg) En stop) λr s4 A9=>?_)
  obtain⟨hr,I4⟩:=A9
  subst hr;exact wpAny_execs_nil ⟨σ3,H3,I4,qn⟩
 .refine wpAny_passesOwn hp (thn (T.item X rfl rfl rfl hc i pins s3 σ3 H3 X.xe I3 (Dv Rg) En go) λr s4 A9=>?_)
  obtain⟨u,hr,h4⟩:=A9
  subst hr;refine wpAny_passesOwn hp (thn h4 λξ s5 A9=>?_)
  obtain⟨x,H5,I5,r5,y5,Ii,V5⟩:=A9
  have Ya:=I5.pinned (Dv V5) (T.obj _ _ Ii)
  refine wpAny_passesOwn hp (thn (hg _ s5 σ3 H5 x u _ Ya r5 (step x H5 y5)) λξ s6 A9=>?_)
  obtain⟨σ6,H6,I6,q6⟩:=A9
  refine wpAny_passesOwn hp (thn (hb _ s6 σ6 H6 _ I6 q6) λf s7 q7=>?_)
  have again:∀{σ7:St}{H7:Hp},Inv X (pins++lV fp s5.heap) σ7 H7 s7->N σ7 H7->∃m,m<n/\∃i σ' H',Inv X pins σ' H' s7/\tn i s7.heap/\(∀b∈fp,H' b=none)/\W i m σ' H':=λ{σ7 H7} I7 n7=>by
   obtain⟨m',hm,w7⟩:=hN σ7 H7 n7
   refine⟨m',hm,i+1,σ7,H7,I7.unpinned,T.keep _ _ _ Ii λb hb o e=>(I7.pin (b,o) (aq _ (aq _ (jn hb e)))).1,λb hb=>?_,w7⟩
   obtain⟨o,e,d⟩:=T.obj _ _ Ii b hb
   exact(I7.pin (b,o) (aq _ (aq _ (jn hb e)))).2.1
  cases f with
  | next=>obtain⟨σ7,H7,I7,n7⟩:=q7;exact again I7 n7
  | cont=>obtain⟨σ7,H7,I7,n7⟩:=q7;exact again I7 n7
  | brk=>obtain⟨σ7,H7,I7,q7⟩:=q7;exact⟨σ7,H7,I7.unpinned,q7⟩
  | ret v=>obtain⟨x7,σ7,H7,I7,r7,q7⟩:=q7;exact⟨x7,σ7,H7,I7.unpinned,r7,q7⟩
end
theorem rS{K:Fg_}{a:Addr}{xs:List V}{g:TG}{tb:TS}{D:js}{σ:St}{H:Hp}(Pv:Nat->St->Hp->Prop)(h0:Pv 0 σ H)(hl:∀i σ H,i<=xs.length->Pv i σ H->SqL K H a xs)
  (hs:∀i x σ H,xs[i]? =some x->Pv i σ H->g x σ H λσ2 H2=>tb { D with nx:=Pv (i+1),ct:=Pv (i+1),bk:=D.nx } σ2 H2)(hd:∀σ H,Pv xs.length σ H->D.nx σ H) :
  ∃W:Nat->Nat->St->Hp->Prop,(∃m,W 0 m σ H)/\∀i m σ H,W i m σ H ->
   ((Itl K a).stop i H/\D.nx σ H)\/((Itl K a).go i H/\∃N:St->Hp->Prop,(∀σ' H',N σ' H'->∃m',m'<m/\W (i+1) m' σ' H')/\∀x H',(Itl K a).yld i H x H'->g x σ H' λσ2 H2=>tb { D with nx:=N,ct:=N,bk:=D.nx } σ2 H2):=by
 refine⟨λi m σ H=>m=xs.length-i/\i<=xs.length/\Pv i σ H,⟨xs.length,by simp,aX _,h0⟩,?_⟩
 rintro i m σ H ⟨rfl,hi,p⟩
 have q:=hl i σ H hi p
 by_cases Bh:i<xs.length
 .refine .inr ⟨⟨xs,xs[i],q,by simp[Bh]⟩,Pv (i+1),λσ' H' p'=>⟨xs.length-(i+1),(df _ _ Bh),rfl,Bh,p'⟩,λx H' y=>?_⟩
  obtain⟨e,y⟩:=y
  subst e;exact hs i x σ _ (y xs q) p
 .have e:i=xs.length:=(cu hi (bg Bh))
  subst e;exact .inl ⟨⟨xs,q,aF _⟩,hd σ H p⟩
theorem pV{lo:Int}{n:Nat}{g:TG}{tb:TS}{D:js}{σ:St}{H:Hp}(Pv:Nat->St->Hp->Prop)(h0:Pv 0 σ H)
  (hs:∀i σ H,i<n->Pv i σ H->g (.int (lo+i)) σ H λσ2 H2=>tb { D with nx:=Pv (i+1),ct:=Pv (i+1),bk:=D.nx } σ2 H2)(hd:∀σ H,Pv n σ H->D.nx σ H) :
  ∃W:Nat->Nat->St->Hp->Prop,(∃m,W 0 m σ H)/\∀i m σ H,W i m σ H ->
   ((Itr lo n).stop i H/\D.nx σ H)\/((Itr lo n).go i H/\∃N:St->Hp->Prop,(∀σ' H',N σ' H'->∃m',m'<m/\W (i+1) m' σ' H')/\∀x H',(Itr lo n).yld i H x H'->g x σ H' λσ2 H2=>tb { D with nx:=N,ct:=N,bk:=D.nx } σ2 H2):=by
 refine⟨λi m σ H=>m=n-i/\i<=n/\Pv i σ H,⟨n,by simp,aX _,h0⟩,?_⟩
 rintro i m σ H ⟨rfl,hi,p⟩
 by_cases Bh:i<n
 .refine .inr ⟨Bh,Pv (i+1),λσ' H' p'=>⟨n-(i+1),(df _ _ Bh),rfl,Bh,p'⟩,λx H' y=>?_⟩
  obtain⟨e,y⟩:=y
  subst e y;exact hs i σ _ Bh p
 .have e:i=n:=(cu hi (bg Bh))
  subst e;exact .inl ⟨aF _,hd σ H p⟩
abbrev R2:=V->V->Hp->VK->Prop
def OpR(X:Cx)(f:Value->Value->Sem Value)(r:R2):Prop :=
 ∀(pins:List (Addr×Obj))(s:Shared)(σ:St)(H:Hp)(x y:V)(v u:Value)(Q:VK),Inv X pins σ H s->dw x v->dw y u->r x y H Q ->
  wpAny (model X.prog X.w) X.A (f v u) (EP X pins σ Q) X.xe s
def UnR(X:Cx)(f:Value->Sem Value)(r:V->Hp->VK->Prop):Prop :=
 ∀(pins:List (Addr×Obj))(s:Shared)(σ:St)(H:Hp)(x:V)(v:Value)(Q:VK),Inv X pins σ H s->dw x v->r x H Q ->
  wpAny (model X.prog X.w) X.A (f v) (EP X pins σ Q) X.xe s
def oY(X:Cx)(f:Value)(r:List V->Hp->VK->Prop):Prop :=
 ∀(pins:List (Addr×Obj))(s:Shared)(σ:St)(H:Hp)(xs:List V)(us:List Value)(Q:VK),Inv X pins σ H s->cJ xs us->r xs H Q ->
  wpAny (model X.prog X.w) X.A (call f us) (EP X pins σ Q) X.xe s
def TruR(X:Cx)(r:V->Hp->(Bool->Hp->Prop)->Prop):Prop :=
 ∀(pins:List (Addr×Obj))(s:Shared)(σ:St)(H:Hp)(x:V)(v:Value)(Q:Bool->Hp->Prop),Inv X pins σ H s->dw x v->r x H Q ->
  wpAny (model X.prog X.w) X.A (truthy v) (TP X pins σ Q) X.xe s
def tOp(r:R2)(ta tb:TE):TE:=λσ H Q=>ta σ H λx H1=>tb σ H1 λy H2=>r x y H2 Q
def tUn(r:V->Hp->VK->Prop)(ta:TE):TE:=λσ H Q=>ta σ H λx H1=>r x H1 Q
def rI(C:Int->Int->Prop)(g:Int->Int->V):R2:=λx y H Q=>∃i j,x =.int i/\y =.int j/\C i j/\Q (g i j) H
def rI0(g:Int->Int->V):R2:=λx y H Q=>∃i j,x =.int i/\y =.int j/\Q (g i j) H
def rU(g:Int->V):V->Hp->VK->Prop:=λx H Q=>∃i,x =.int i/\Q (g i) H
section
variable {X:Cx}{a b c:Expr}{ta tb tc:TE}{pos:Pos}
theorem AS(ha:PE X a ta)(hb:PE X b tb){pins:List (Addr×Obj)}{s:Shared}{σ:St}{H:Hp}{R:V->V->Hp->Prop}(I:Inv X pins σ H s)
  (h:ta σ H λx H1=>tb σ H1 λy H2=>R x y H2){Q:Value->Shared->Prop}{f:Value->Value->Sem Value}
  (hf:∀v u s2 x y H2,Inv X pins σ H2 s2->dw x v->dw y u->R x y H2->wpAny (model X.prog X.w) X.A (f v u) Q X.xe s2) :
  wpAny (model X.prog X.w) X.A (eval a X.env) (λv s₁=>wpAny (model X.prog X.w) X.A (eval b X.env) (λu s₂=>wpAny (model X.prog X.w) X.A (f v u) Q X.xe s₂) X.xe s₁) X.xe s:=by
 refine thn (ha pins s σ H _ I h) λv s1 A9=>?_
 obtain⟨x,H1,I1,r1,q1⟩:=A9
 refine thn (hb pins s1 σ H1 _ I1 q1) λu s2 A9=>?_
 obtain⟨y,H2,I2,r2,q2⟩:=A9
 exact hf v u s2 x y H2 I2 r1 r2 q2
theorem dI{op:Operator}{r:R2}(ho:OpR X (binaryOp op) r)(ha:PE X a ta)(hb:PE X b tb):PE X (.BinOp a op b pos) (tOp r ta tb):=by
 intro pins s σ H Q I h;exact wpAny_BinOp (AS ha hb I h λv u s2 x y H2 I2 rx ry q=>ho pins s2 σ H2 x y v u Q I2 rx ry q)
theorem eK{op:UnaryOp}{r:V->Hp->VK->Prop}(ho:UnR X (unaryOp op) r)(ha:PE X a ta):PE X (.UnaryOp op a pos) (tUn r ta):=by
 intro pins s σ H Q I h;exact UnaryOp_ (thn (ha pins s σ H _ I h) λv s1 ⟨x,H1,I1,r1,q1⟩=>ho pins s1 σ H1 x v Q I1 r1 q1)
theorem opI{f:Value->Value->Sem Value}{C:Int->Int->Prop}{g:Int->Int->Int}
  (rule:∀(i j:Int)(t u:Tok)(s:Shared)(Q:Value->Shared->Prop)(E:Value->Shared->Prop),C i j->Q (.int (g i j) s.toks) { s with toks:=s.toks+1 }->wpAny (model X.prog X.w) X.A (f (.int i t) (.int j u)) Q E s) :
  OpR X f (rI C λi j=>.int (g i j)):=by
 intro pins s σ H x y v u Q I rx ry h;obtain⟨i,j,rfl,rfl,hc,q⟩:=h
 obtain⟨t,rfl⟩:=rx
 obtain⟨t',rfl⟩:=ry
 exact rule i j t t' s _ _ hc ⟨.int (g i j),H,I.tok _,⟨_,rfl⟩,q⟩
theorem AC{f:Value->Value->Sem Value}{g:Int->Int->Int}
  (rule:∀(i j:Int)(t u:Tok)(s:Shared)(Q:Value->Shared->Prop)(E:Value->Shared->Prop),Q (.int (g i j) s.toks) { s with toks:=s.toks+1 }->wpAny (model X.prog X.w) X.A (f (.int i t) (.int j u)) Q E s) :
  OpR X f (rI0 λi j=>.int (g i j)):=by
 intro pins s σ H x y v u Q I rx ry h;obtain⟨i,j,rfl,rfl,q⟩:=h
 obtain⟨t,rfl⟩:=rx
 obtain⟨t',rfl⟩:=ry
 exact rule i j t t' s _ _ ⟨.int (g i j),H,I.tok _,⟨_,rfl⟩,q⟩
theorem yo{f:Value->Value->Sem Value}{g:Int->Int->Bool}
  (rule:∀(i j:Int)(t u:Tok)(s:Shared)(Q:Value->Shared->Prop)(E:Value->Shared->Prop),Q (.bool (g i j)) s->wpAny (model X.prog X.w) X.A (f (.int i t) (.int j u)) Q E s) :
  OpR X f (rI0 λi j=>.bl (g i j)):=by
 intro pins s σ H x y v u Q I rx ry h;obtain⟨i,j,rfl,rfl,q⟩:=h
 obtain⟨t,rfl⟩:=rx
 obtain⟨t',rfl⟩:=ry
 exact rule i j t t' s _ _ ⟨.bl (g i j),H,I,rfl,q⟩
def CDiv(i j:Int):Prop:=0<j/\j<1073741824
def yZ(i j:Int):Prop:=(-(2 ^ 64)<i/\i<2 ^ 64)\/(-(2 ^ 64)<j/\j<2 ^ 64)
theorem yZ.ok{i j:Int}(h:yZ i j):IntMulOk i j:=by
 rcases h with⟨h1,h2⟩ | ⟨h1,h2⟩
 .exact .of_left (intBits_le_64 h1 h2)
 .exact .of_right (intBits_le_64 h1 h2)
theorem gk:OpR X (binaryOp .Add) (rI0 λi j=>.int (i+j)):=AC λξ ξ ξ ξ ξ ξ ξ q=>add_int q
theorem iA:OpR X (binaryOp .Sub) (rI0 λi j=>.int (i-j)):=AC λξ ξ ξ ξ ξ ξ ξ q=>sub_int q
theorem we:OpR X (binaryOp .Mult) (rI yZ λi j=>.int (i*j)):=opI λξ ξ ξ ξ ξ ξ ξ hc q=>mul_int q hc.ok
theorem qk:OpR X (binaryOp .FloorDiv) (rI CDiv λi j=>.int (i / j)):=opI λi j ξ ξ ξ ξ ξ hc q=>by
 have h1:(0:Int)<j:=hc.1
 have h2:j<1073741824:=hc.2
 exact floordiv_int (Int.ne_of_gt h1) (by rw[Int.fdiv_eq_ediv_of_nonneg i (Int.le_of_lt h1)];exact q) (.inl (PyProof.noPylong_small (by omega)))
theorem qj:OpR X (binaryOp .Mod) (rI (λξ j=>0<j) λi j=>.int (i % j)):=opI λi j ξ ξ ξ ξ ξ hc q=>by
 have h1:(0:Int)<j:=hc
 exact mod_int' (Int.ne_of_gt h1) (by rw[Int.fmod_eq_emod_of_nonneg i (Int.le_of_lt h1)];exact q)
theorem uo:OpR X (inplaceOp .Add) (rI0 λi j=>.int (i+j)):=AC λξ ξ ξ ξ ξ ξ ξ q=>iadd_int q
theorem yF:OpR X (inplaceOp .Mult) (rI yZ λi j=>.int (i*j)):=opI λξ ξ ξ ξ ξ ξ ξ hc q=>imul_int q hc.ok
theorem unI{f:Value->Sem Value}{g:Int->Int}
  (rule:∀(i:Int)(t:Tok)(s:Shared)(Q:Value->Shared->Prop)(E:Value->Shared->Prop),Q (.int (g i) s.toks) { s with toks:=s.toks+1 }->wpAny (model X.prog X.w) X.A (f (.int i t)) Q E s) :
  UnR X f (rU λi=>.int (g i)):=by
 intro pins s σ H x v Q I rx h;obtain⟨i,rfl,q⟩:=h
 obtain⟨t,rfl⟩:=rx
 exact rule i t s _ _ ⟨.int (g i),H,I.tok _,⟨_,rfl⟩,q⟩
theorem dF:UnR X (unaryOp .USub) (rU λi=>.int (-i)):=unI λξ ξ ξ ξ ξ q=>neg_int q
end
def scal:V->V->Bool
 | .non,.non=>true | .non,.int _=>true | .int _,.non=>true | .non,.bl _=>true | .bl _,.non=>true | .non,.str _=>true | .str _,.non=>true
 | .int _,.int _=>true | .bl _,.bl _=>true | .str _,.str _=>true | .byt _,.byt _=>true
 | .int _,.str _=>true | .str _,.int _=>true | .bl _,.str _=>true | .str _,.bl _=>true
 | _,_=>false
def rEq:R2:=λx y H Q=>scal x y=true/\Q (.bl (decide (x=y))) H
def rNe:R2:=λx y H Q=>scal x y=true/\Q (.bl (!decide (x=y))) H
theorem ux{i j:Int}:decide (V.int i=V.int j)=(i==j):=by
 rw[ib];simp
theorem wO{i j:Bool}:decide (V.bl i=V.bl j)=(i==j):=by
 rw[ib];simp
theorem uw{i j:Str}:decide (V.str i=V.str j)=(i==j):=by
 rw[ib];simp
theorem uy{i j:Array UInt8}:decide (V.byt i=V.byt j)=(i.toList==j.toList):=by
 rw[ib];cases i;cases j;simp
section
variable {X:Cx}{a b c:Expr}{ta tb tc:TE}{pos:Pos}
theorem dD{pins:List (Addr×Obj)}{σ:St}{H:Hp}{s:Shared}{Q:VK}{k k':Bool}(I:Inv X pins σ H s)(q:Q (.bl k) H)(e:k=k'):EP X pins σ Q (.bool k') s:=by
 subst e;exact⟨.bl k,H,I,rfl,q⟩
theorem eN:OpR X (compareOp .Eq) rEq:=by
 intro pins s σ H x y v u Q I rx ry h;obtain⟨hs,q⟩:=h
 cases x with
 | non =>
  cases rx;cases y with
  | non=>cases ry;exact PySem.EqNone.eq_none_none (dD I q (by simp))
  | bl j=>cases ry;exact PySem.EqNone.eq_none_bool (dD I q (by simp))
  | int j=>obtain⟨t',rfl⟩:=ry;exact PySem.EqNone.eq_none_int (dD I q (by simp))
  | str j=>obtain⟨t',rfl⟩:=ry;exact PySem.EqNone.eq_none_str (dD I q (by simp))
  | _=>exact aW (show false=true from hs) aT
 | bl i =>
  cases rx;cases y with
  | non=>cases ry;exact PySem.EqNone.eq_bool_none (dD I q (by simp))
  | bl j=>cases ry;exact eq_bool (dD I q wO)
  | str j=>obtain⟨t',rfl⟩:=ry;exact PySem.EqMixed.eq_bool_str (dD I q (by simp))
  | _=>exact aW (show false=true from hs) aT
 | int i =>
  obtain⟨t,rfl⟩:=rx
  cases y with
  | non=>cases ry;exact PySem.EqNone.eq_int_none (dD I q (by simp))
  | int j=>obtain⟨t',rfl⟩:=ry;exact eq_int (dD I q ux)
  | str j=>obtain⟨t',rfl⟩:=ry;exact PySem.EqMixed.eq_int_str (dD I q (by simp))
  | _=>exact aW (show false=true from hs) aT
 | str i =>
  obtain⟨t,rfl⟩:=rx
  cases y with
  | non=>cases ry;exact PySem.EqNone.eq_str_none (dD I q (by simp))
  | bl j=>cases ry;exact PySem.EqMixed.eq_str_bool (dD I q (by simp))
  | int j=>obtain⟨t',rfl⟩:=ry;exact PySem.EqMixed.eq_str_int (dD I q (by simp))
  | str j=>obtain⟨t',rfl⟩:=ry;exact eq_str (dD I q uw)
  | _=>exact aW (show false=true from hs) aT
 | byt i =>
  obtain⟨t,rfl⟩:=rx
  cases y with
  | byt j=>obtain⟨t',rfl⟩:=ry;exact PySem.W.eq_bytes (dD I q uy)
  | _=>exact aW (show false=true from hs) aT
 | _=>cases y<;>exact aW (show false=true from hs) aT
theorem uf:OpR X (compareOp .NotEq) rNe:=by
 intro pins s σ H x y v u Q I rx ry h;obtain⟨hs,q⟩:=h
 cases x with
 | non =>
  cases rx;cases y with
  | non=>cases ry;exact PySem.EqNone.ne_none_none (dD I q (by simp))
  | bl j=>cases ry;exact PySem.EqNone.ne_none_bool (dD I q (by simp))
  | int j=>obtain⟨t',rfl⟩:=ry;exact PySem.EqNone.ne_none_int (dD I q (by simp))
  | str j=>obtain⟨t',rfl⟩:=ry;exact PySem.EqNone.ne_none_str (dD I q (by simp))
  | _=>exact aW (show false=true from hs) aT
 | bl i =>
  cases rx;cases y with
  | non=>cases ry;exact PySem.EqNone.ne_bool_none (dD I q (by simp))
  | bl j=>cases ry;exact ne_bool (dD I q (congrArg not wO))
  | str j=>obtain⟨t',rfl⟩:=ry;exact PySem.EqMixed.ne_bool_str (dD I q (by simp))
  | _=>exact aW (show false=true from hs) aT
 | int i =>
  obtain⟨t,rfl⟩:=rx
  cases y with
  | non=>cases ry;exact PySem.EqNone.ne_int_none (dD I q (by simp))
  | int j=>obtain⟨t',rfl⟩:=ry;exact ne_int (dD I q (congrArg not ux))
  | str j=>obtain⟨t',rfl⟩:=ry;exact PySem.EqMixed.ne_int_str (dD I q (by simp))
  | _=>exact aW (show false=true from hs) aT
 | str i =>
  obtain⟨t,rfl⟩:=rx
  cases y with
  | non=>cases ry;exact PySem.EqNone.ne_str_none (dD I q (by simp))
  | bl j=>cases ry;exact PySem.EqMixed.ne_str_bool (dD I q (by simp))
  | int j=>obtain⟨t',rfl⟩:=ry;exact PySem.EqMixed.ne_str_int (dD I q (by simp))
  | str j=>obtain⟨t',rfl⟩:=ry;exact ne_str (dD I q (congrArg not uw))
  | _=>exact aW (show false=true from hs) aT
 | byt i =>
  obtain⟨t,rfl⟩:=rx
  cases y with
  | byt j=>obtain⟨t',rfl⟩:=ry;exact PySem.W.ne_bytes (dD I q (congrArg not uy))
  | _=>exact aW (show false=true from hs) aT
 | _=>cases y<;>exact aW (show false=true from hs) aT
theorem jw:OpR X (compareOp .Lt) (rI0 λi j=>.bl (decide (i<j))):=yo λξ ξ ξ ξ ξ ξ ξ q=>lt_int q
theorem jE:OpR X (compareOp .LtE) (rI0 λi j=>.bl (decide (i<=j))):=yo λξ ξ ξ ξ ξ ξ ξ q=>le_int q
theorem jx:OpR X (compareOp .Gt) (rI0 λi j=>.bl (decide (j<i))):=yo λξ ξ ξ ξ ξ ξ ξ q=>gt_int q
theorem ze:OpR X (compareOp .GtE) (rI0 λi j=>.bl (decide (j<=i))):=yo λξ ξ ξ ξ ξ ξ ξ q=>ge_int q
theorem bX(b:Expr){op:CmpOp}(h:op≠.In:=by decide)(h2:op≠.NotIn:=by decide):behindInMarks op b=false:=by
 have e1:(op==CmpOp.In)=false:=by cases op<;>first | rfl | exact aW rfl h
 have e2:(op==CmpOp.NotIn)=false:=by cases op<;>first | rfl | exact aW rfl h2
 cases b<;>simp[behindInMarks,e1,e2]
theorem iK{op:CmpOp}{r:R2}(ho:OpR X (compareOp op) r)(ha:PE X a ta)(hb:PE X b tb)(hm:behindInMarks op b=false):PE X (.Compare a [op] [b] pos) (tOp r ta tb):=by
 intro pins s σ H Q I h;exact wpAny_Compare1 (AS ha hb I h λv u s2 x y H2 I2 rx ry q=>ho pins s2 σ H2 x y v u Q I2 rx ry q) hm
def pE(t:TE):TT:=λσ H Q=>t σ H λx H'=>∃k,x =.bl k/\Q k H'
theorem bC{op:CmpOp}{r:R2}(ho:OpR X (compareOp op) r)(ha:PE X a ta)(hb:PE X b tb)(hm:behindInMarks op b=false):PT X (.Compare a [op] [b] pos) (pE (tOp r ta tb)):=by
 intro pins s σ H Q I h;refine wpAny_isTrue_Compare1 (thn (ha pins s σ H _ I h) λv s1 ⟨x,H1,I1,r1,q1⟩=>thn (hb pins s1 σ H1 _ I1 q1) λu s2 ⟨y,H2,I2,r2,q2⟩ =>
  thn (ho pins s2 σ H2 x y v u _ I2 r1 r2 q2) λc s3 ⟨z,H3,I3,r3,k,e,q3⟩=>?_) hm
 subst e;cases r3;exact wpAny_truthy_bool ⟨H3,I3,q3⟩
def sI(r r':R2)(ta tb tc:TE):TE:=λσ H Q=>ta σ H λx H1=>tb σ H1 λy H2=>r x y H2 λz H3=>∃k,z =.bl k /\
 (if k=true then tc σ H3 λw' H4=>r' y w' H4 Q else Q (.bl false) H3)
theorem rD{op GJ:CmpOp}{r r':R2}(ho:OpR X (compareOp op) r)(Ce:OpR X (compareOp GJ) r')(ha:PE X a ta)(hb:PE X b tb)(hc:PE X c tc)
  (hm:lastMarks [op,GJ] [b,c]=false:=by with_unfolding_all rfl):PE X (.Compare a [op,GJ] [b,c] pos) (sI r r' ta tb tc):=by
 intro pins s σ H Q I h;refine Compare_chain (thn (ha pins s σ H _ I h) λv s1 ⟨x,H1,I1,r1,q1⟩=>chain_link (thn (hb pins s1 σ H1 _ I1 q1) λu s2 ⟨y,H2,I2,r2,q2⟩ =>
  thn (ho pins s2 σ H2 x y v u _ I2 r1 r2 q2) λd s3 ⟨z,H3,I3,r3,k,e,q3⟩=>?_)) hm
 subst e;cases r3;refine wpAny_truthy_bool ?_
 cases k with
 | false=>exact ite_ff ⟨.bl false,H3,I3,rfl,q3⟩
 | true=>exact ite_tt (chain_last (thn (hc pins s3 σ H3 _ I3 q3) λw' s4 ⟨z',H4,I4,r4,q4⟩=>Ce pins s4 σ H4 y z' u w' Q I4 r2 r4 q4))
theorem kL{op GJ:CmpOp}{r r':R2}(ho:OpR X (compareOp op) r)(Ce:OpR X (compareOp GJ) r')(ha:PE X a ta)(hb:PE X b tb)(hc:PE X c tc)
  (hm:lastMarks [op,GJ] [b,c]=false:=by with_unfolding_all rfl):PT X (.Compare a [op,GJ] [b,c] pos) (pE (sI r r' ta tb tc)):=by
 intro pins s σ H Q I h;refine isTrue_chain (thn (ha pins s σ H _ I h) λv s1 ⟨x,H1,I1,r1,q1⟩=>test_link (thn (hb pins s1 σ H1 _ I1 q1) λu s2 ⟨y,H2,I2,r2,q2⟩ =>
  thn (ho pins s2 σ H2 x y v u _ I2 r1 r2 q2) λd s3 ⟨z,H3,I3,r3,k,e,q3⟩=>?_)) hm
 subst e;cases r3;refine wpAny_truthy_bool ?_
 cases k with
 | false =>
  obtain⟨k',e',q'⟩:=q3
  cases e'
  exact ite_ff ⟨H3,I3,q'⟩
 | true =>
  refine ite_tt (test_last (thn (hc pins s3 σ H3 _ I3 q3) λw' s4 ⟨z',H4,I4,r4,q4⟩=>thn (Ce pins s4 σ H4 y z' u w' _ I4 r2 r4 q4) λd' s5 A9=>?_))
  obtain⟨z2,H5,I5,r5,k2,e2,q5⟩:=A9
  subst e2;cases r5;exact wpAny_truthy_bool ⟨H5,I5,q5⟩
def AV(K:Fg_)(x:V)(H:Hp)(k:Bool):Prop :=
 match x with
 | .non=>k=false
 | .bl b=>k=b
 | .int i=>k=(i !=0)
 | .str y=>y.length<=sizeLine/\k=((y.length:Int) !=0)
 | .byt y=>y.size<=sizeLine/\k=((y.size:Int) !=0)
 | .ref p=>(∃xs,SqL K H p xs/\k =!xs.isEmpty)\/(∃xs,SqT K H p xs/\k =!xs.isEmpty)\/∃Br,H p=some (.dK Br)/\k =!Br.isEmpty
 | _=>False
theorem sZ{κ:Type}{Br:List (κ×V)}{vs:List (κ×Value)}(r:KV Br vs):(!vs.isEmpty) =!Br.isEmpty:=by
 cases r<;>rfl
theorem ou{xs:List V}{AX:List Value}(r:cJ xs AX):(!AX.toArray.isEmpty) =!xs.isEmpty:=by
 cases r<;>simp
theorem qs:(sizeLine:Nat)<2 ^ 63:=by rw[sizeLine_eq];decide
theorem zo:TruR X (λx H Q=>∃k,AV X.K x H k/\Q k H):=by
 intro pins s σ H x v Q I rx h;obtain⟨k,e,q⟩:=h
 have hl:=qs
 have hs:sizeLine=16777216:=sizeLine_eq
 cases x with
 | non =>
  cases rx;have e':k=false:=e
  subst e'
  exact truthy_none ⟨H,I,q⟩
 | bl b =>
  cases rx;have e':k=b:=e
  subst e'
  exact wpAny_truthy_bool ⟨H,I,q⟩
 | int i =>
  obtain⟨t,rfl⟩:=rx
  have e':k=(i !=0):=e
  subst e'
  exact PySem.P.truthy_int ⟨H,I,q⟩
 | str y =>
  obtain⟨t,rfl⟩:=rx
  obtain⟨hy,e'⟩:y.length<=sizeLine/\k=((y.length:Int) !=0):=e
  subst e'
  exact PySem.P.truthy_str (by lia) ⟨H,I.tok _,q⟩
 | byt y =>
  obtain⟨t,rfl⟩:=rx
  obtain⟨hy,e'⟩:y.size<=sizeLine/\k=((y.size:Int) !=0):=e
  subst e'
  exact PySem.W.truthy_bytes (by lia) ⟨H,I.tok _,q⟩
 | ref p =>
  cases rx;have e':(∃xs,SqL X.K H p xs/\k =!xs.isEmpty)\/(∃xs,SqT X.K H p xs/\k =!xs.isEmpty)\/∃Br,H p=some (.dK Br)/\k =!Br.isEmpty:=e
  rcases e' with⟨xs,hx,e'⟩ | ⟨xs,hx,e'⟩ | ⟨Br,hx,e'⟩
  .subst e'
   obtain⟨AX,r,pl,hz⟩:=I.list hx
   have hlen:=r.length
   exact wpAny_truthy_list pl.isList (by simp only[aU];lia) ⟨H,I.tok _,by rw[ou r];exact q⟩
  .subst e'
   obtain⟨AX,r,pl,hz⟩:=I.tuple hx
   have hlen:=r.length
   exact truthy_tuple pl (by simp only[aU];lia) ⟨H,I.tok _,by rw[ou r];exact q⟩
  .subst e'
   obtain⟨hz,hS,vs,r,m⟩:Br.length<=sizeLine/\(p==sysModules)=false/\∃vs,KV Br vs/\s.heap.DictOf (qp X.prog X.w) p vs:=I.hok p _ hx
   have hlen:Br.length=vs.length:=Paired.length r
   exact wpAny_truthy_dict hS m (by lia) ⟨H,I.tok _,by rw[sZ r];exact q⟩
 | _=>exact(show False from e).elim
theorem eI(ha:PE X a ta)(he:∀whole,isTrue a X.env whole=(do let v ←whole;standAt a.pos;holding [v] (truthy v))) :
  PT X a (λσ H Q=>ta σ H λx H'=>∃k,AV X.K x H' k/\Q k H'):=by
 intro pins s σ H Q I h;exact isTrue_plain (thn (ha pins s σ H _ I h) λv s1 ⟨x,H1,I1,r1,q1⟩=>zo pins s1 σ H1 x v Q I1 r1 q1) (he _)
theorem y8{x:V}{us:List Value}(r:cJ [x] us):∃u,us=[u]/\dw x u:=by
 cases r with
 | cons r1 r2=>cases r2;exact⟨_,rfl,r1⟩
theorem y6{x y:V}{us:List Value}(r:cJ [x,y] us):∃u w',us=[u,w']/\dw x u/\dw y w':=by
 cases r with
 | cons r1 r2 =>
  cases r2 with
  | cons r3 r4=>cases r4;exact⟨_,_,rfl,r1,r3⟩
theorem vm(hc:X.calm=true):oY X (.builtin "max") (λxs H Q=>∃i j,xs=[.int i,.int j]/\Q (.int (if j>i then j else i)) H):=by
 intro pins s σ H xs us Q I r h;obtain⟨i,j,rfl,q⟩:=h
 obtain⟨u,w',rfl,⟨t,rfl⟩,⟨t',rfl⟩⟩:=y6 r
 refine max_two_ints (I.ok.hd hc) λh' tk k=>⟨_,H,I.kept k,?_,q⟩
 by_cases hj:j>i
 .rw[ax hj,ax hj];exact⟨_,rfl⟩
 .rw[ay hj,ay hj];exact⟨_,rfl⟩
theorem vk(hc:X.calm=true):oY X (.builtin "min") (λxs H Q=>∃i j,xs=[.int i,.int j]/\Q (.int (if j<i then j else i)) H):=by
 intro pins s σ H xs us Q I r h;obtain⟨i,j,rfl,q⟩:=h
 obtain⟨u,w',rfl,⟨t,rfl⟩,⟨t',rfl⟩⟩:=y6 r
 refine min_two_ints (I.ok.hd hc) λh' tk k=>⟨_,H,I.kept k,?_,q⟩
 by_cases hj:j<i
 .rw[ax hj,ax hj];exact⟨_,rfl⟩
 .rw[ay hj,ay hj];exact⟨_,rfl⟩
theorem wR:oY X (.builtin "ord") (λxs H Q=>∃x,xs=[.str x]/\x.length=1/\Q (.int (x.cps.getD 0 0:Nat)) H):=by
 intro pins s σ H xs us Q I r h;obtain⟨x,rfl,hz,q⟩:=h
 obtain⟨u,rfl,t,rfl⟩:=y8 r
 exact ord_of_one hz ⟨.int _,H,I.tok _,⟨_,rfl⟩,q⟩
end
structure tL(h:Heap)(x dx C:Addr)(mA:Str->Option Value):Prop where
 obj:h.get? x=some (PySem.W.instObj C dx)
 ns:h.Ns1 dx mA
 ne:dx≠x
theorem vb{h:Heap}{dx:Addr}{mA:Str->Option Value}(n:h.Ns1 dx mA):∃od,h.get? dx=some od/\∀name,PySem.W.lookIn name od=some (mA name):=by
 obtain⟨o,es,ep,ho,hd,hk,_,hm⟩:=n
 refine⟨o,ho,λname=>?_⟩
 have e:=hm name
 unfold nsFind findBy at e;rw[<-Array.find?_toList]at e;unfold PySem.W.lookIn;rw[hd];dsimp only;split
 .rename_i y q
  rw[q]at e;exact congrArg some e
 .rename_i q
  rw[q]at e;have a:es.toList.any (·.refKey)=false:=by
   rw[List.any_eq_false];intro y hy;obtain⟨z,t,Nj⟩:=hk y (Array.mem_toList_iff.mp hy)
   simp[DictEntry.refKey,Nj]
  have a':¬es.toList.any (·.refKey)=true:=by rw[a];exact aT
  rw[ay a'];exact congrArg some e
theorem tL.look{h:Heap}{x dx C:Addr}{mA:Str->Option Value}(I:tL h x dx C mA):∃od,PySem.W.InstAt h x (PySem.W.instObj C dx) C (some od)/\∀name,PySem.W.lookIn name od=some (mA name) :=
 let ⟨od,ho,hl⟩:=vb I.ns
 ⟨od,⟨I.obj,rfl,rfl,ho⟩,hl⟩
section
variable {prog:Program}{w:World}{A:Around}{E:Value->Shared->Prop}{s:Shared}{K:Fg_}{x dx C f:Addr}{mA:Str->Option Value}{name:Str}{v:Value}
theorem yK{expr:Bool}{Q:Value->Shared->Prop}(X:K.In s.heap)(I:tL s.heap x dx C mA)(hg:PySem.W.plainGet K C name=true)(hh:PySem.W.hasDictIn K C=true)
  (ha:PySem.W.findIn K (.ref C) name=some none)(hv:mA name=some v)(hv':PySem.W.handedIn v=true)(h:Q v { s with toks:=s.toks+1 }) :
  wpAny (model prog w) A (getAttr (.ref x) name expr) Q E s:=by
 obtain⟨od,J,hl⟩:=I.look
 exact PySem.W.get_value X J (PySem.W.plainGet_of hg).1 (PySem.W.findObj_own hh ha rfl (by rw[hl,hv])) hv' h
theorem wH{pl:Sem Bool}{Q:Value×List Value->Shared->Prop}(X:K.In s.heap)(I:tL s.heap x dx C mA)(hg:PySem.W.plainGet K C name=true)
  (hf:PySem.W.findIn K (.ref C) name=some (some (.ref f)))(ht:PySem.W.isFn K (.ref f)=true)(hv:mA name=none)(h:Q (.ref f,[.ref x]) s) :
  wpAny (model prog w) A (getMethod (.ref x) name pl) Q E s:=by
 obtain⟨od,J,hl⟩:=I.look
 exact PySem.W.method_fn X J (PySem.W.plainGet_of hg).1 (PySem.W.plainGet_of hg).2 hf (beq_iff_eq.mp ht) (by show(PySem.W.lookIn name od).map (·.isSome)=some false;rw[hl,hv];rfl) h
theorem xO{ns:List Str}{Q:Unit->Shared->Prop}(X:K.In s.heap)(I:tL s.heap x dx C mA)
  (hs:PySem.W.findIn K (.ref C) "__setattr__" =some (some (.builtin "object.__setattr__")))(hp:PySem.W.plainOver K C=true)(ht:PySem.W.takerIn K C name=some none)(hh:PySem.W.hasDictIn K C=true)
  (hw:PySem.Within mA ns)(hsz:ns.length<=sizeLine)
  (h:∀h',tL h' x dx C (λy=>if y=name then some v else mA y)->Heap.SameBut dx s.heap h'->Q () { s with heap:=h',toks:=s.toks+2 }) :
  wpAny (model prog w) A (setAttr (.ref x) name v) Q E s:=by
 obtain⟨od,J,hl⟩:=I.look
 refine PySem.W.set_plain X J hs (PySem.W.osa_open (s:={ s with toks:=s.toks+1 }) (r:=none) X J hp ht λb=>?_)
 obtain⟨cd,hc,HH⟩:=PySem.W.any_some hh
 have hx:s.heap.get? x=some ⟨.ref C,some dx,.plain,#[]⟩:=I.obj
 refine aH (bM (aH (aH (wpAny_loadPart hx (aH (PySem.W.Looks.here (s:={ s with toks:=s.toks+1 }) (PySem.W.looks_clsIn X hc) ?_))))))
 rw[HH];refine bM (a:=some dx) (aH (bM (aH ?_)))
 refine wpAny_nsSet1 (s:={ s with toks:=s.toks+1 }) I.ns λh' JX Dk=>?_
 obtain⟨oD,N4,N7,Hv,HG,HK⟩:=JX.count (PySem.Within.cons name v hw)
 refine aH (wpAny_lookBehind Hv (by rw[HG];exact pastItsLine_dict (bH HK (by rw[ao];exact bO hsz))) ?_)
 exact bM (h _ ⟨(Dk.2 _ (ba I.ne)).trans I.obj,JX,I.ne⟩ Dk)
theorem wy{R:Result->Shared->Prop}{vs:List Value}{kw:List (Str×Value)}(X:K.In s.heap)(hm:PySem.W.makesIn K C=true)
  (hi:PySem.W.findIn K (.ref C) "__init__" =some (some (.ref f)))(hf:PySem.W.typeIn K (.ref f)=some (.type "function"))
  (h:codeAny (model prog w) (A.under (.builtin "type.__call__" ⟨.ref C::vs,kw⟩)) (.call (.ref f) ⟨.ref (s.heap.objs.size+1)::vs,kw⟩) (PySem.W.InitBack (s.heap.objs.size+1) R)
   { s with heap:=(s.heap.push PySem.W.emptyDict).push (PySem.W.instObj C s.heap.objs.size) }) :
  codeAny (model prog w) A (.call (.ref C) ⟨vs,kw⟩) R s:=by
 obtain⟨hh,g,d,t,os⟩:=s
 exact PySem.W.make_core (PySem.W.makes_of X hm) (PySem.W.looks_findIn X hi) (λself=>PySem.W.bind_fn X self hf) (.inl rfl) h
end
def fS(f:Str)(v:V):List (Str×V)->List (Str×V)
 | []=>[(f,v)]
 | (g,x)::r=>if g=f then(g,v)::r else(g,x)::fS f v r
theorem jG(f g:Str)(v:V):∀fs:List (Str×V),(fS f v fs).lookup g=if g=f then some v else fs.lookup g
 | []=>by
  show List.lookup g [(f,v)]=_
  by_cases h:g=f
  .have hb:(g==f)=true:=beq_iff_eq.mpr h
   simp only[List.lookup,hb,ax h]
  .have hb:(g==f)=false:=bu.mpr h
   simp only[List.lookup,hb,ay h]
 | (k,x)::r=>by
  have ih:=jG f g v r
  rw[show fS f v ((k,x)::r)=(if k=f then(k,v)::r else(k,x)::fS f v r)from rfl];by_cases hk:k=f
  .rw[ax hk];by_cases h:g=k
   .have hb:(g==k)=true:=beq_iff_eq.mpr h
    simp only[List.lookup,hb,ax (h.trans hk)]
   .have hb:(g==k)=false:=bu.mpr h
    simp only[List.lookup,hb,ay (λe:g=f=>h (e.trans hk.symm))]
  .rw[ay hk];by_cases h:g=k
   .have hb:(g==k)=true:=beq_iff_eq.mpr h
    simp only[List.lookup,hb,ay (λe:g=f=>hk (h.symm.trans e))]
   .have hb:(g==k)=false:=bu.mpr h
    simp only[List.lookup,hb];exact ih
theorem i9(f:Str)(v:V):∀fs:List (Str×V),f∈(fS f v fs).map (·.1)/\∀g,g∈fs.map (·.1)->g∈(fS f v fs).map (·.1)
 | []=>⟨by simp[fS],λg h=>by simp at h⟩
 | (k,x)::r=>by
  obtain⟨i1,i2⟩:=i9 f v r
  rw[show fS f v ((k,x)::r)=(if k=f then(k,v)::r else(k,x)::fS f v r)from rfl];by_cases hk:k=f
  .rw[ax hk];subst hk;exact⟨by simp,λg h=>by simpa using h⟩
  .rw[ay hk];refine⟨?_,λg h=>?_⟩
   .rw[bj];exact aA _ i1
   .rw[bj]at h |-;rcases aI.mp h with e | e
    .exact aI.mpr (.inl e)
    .exact aA _ (i2 g e)
theorem mI(f:Str)(v:V):∀fs:List (Str×V),(fS f v fs).length<=fs.length+1
 | []=>by simp[fS]
 | (k,x)::r=>by
  have ih:=mI f v r
  rw[show fS f v ((k,x)::r)=(if k=f then(k,v)::r else(k,x)::fS f v r)from rfl];by_cases hk:k=f
  .rw[ax hk,ao,ao];exact b8 _ _
  .rw[ay hk,ao,ao];exact bO ih
theorem jN.some_of{v:V}{o:Option Value}(r:jN (some v) o):∃u,o=some u/\dw v u:=by
 cases o with
 | none=>exact(show False from r).elim
 | some u=>exact⟨u,rfl,r⟩
theorem jN.none_of{o:Option Value}(r:jN none o):o=none:=by
 cases o with
 | none=>rfl
 | some u=>exact(show False from r).elim
theorem pU{v:V}{u:Value}(r:dw v u):PySem.W.handedIn u=true:=by
 cases v with
 | non=>cases (show u=Value.none from r);rfl
 | bl b=>cases (show u=Value.bool b from r);rfl
 | int i=>obtain⟨t,e⟩:=(show ∃t,u=Value.int i t from r);cases e;rfl
 | str x=>obtain⟨t,e⟩:=(show ∃t,u=Value.str x t from r);cases e;rfl
 | byt b=>obtain⟨t,e⟩:=(show ∃t,u=Value.bytes b t from r);cases e;rfl
 | flt b=>obtain⟨t,e⟩:=(show ∃t,u=Value.float b t from r);cases e;rfl
 | ref a=>cases (show u=Value.ref a from r);rfl
 | ty n=>cases (show u=Value.type n from r);rfl
section
variable {P:Program}{w:World}{H H':Hp}{h h':Heap}{a C dx:Addr}{fs Di:List (Str×V)}
theorem m8(hok:HOk P w H h)(e:H a=some (.ins C dx fs)):∃mA,tL h a dx C mA/\(∀f,jN (fs.lookup f) (mA f))/\PySem.Within mA (fs.map (·.1))/\fs.length<=1000/\H dx=some (.own a):=by
 obtain⟨d,z,ne,ob,mA,n,r,q⟩:=(show fe P w H h a (.ins C dx fs)from hok a _ e)
 exact⟨mA,⟨ob,n,ne⟩,r,q,z,d⟩
end
structure Cls(K:Fg_)(C:Addr):Prop where
 pg:PySem.W.plainGet K C Str.empty=true
 hd:PySem.W.hasDictIn K C=true
 po:PySem.W.plainOver K C=true
 sa:PySem.W.findIn K (.ref C) "__setattr__" =some (some (.builtin "object.__setattr__"))
theorem Cls.get{K:Fg_}{C:Addr}(c:Cls K C)(f:Str):PySem.W.plainGet K C f=true:=c.pg
def dk(K:Fg_)(C:Addr)(f:Str):Prop:=PySem.W.findIn K (.ref C) f=some none
theorem dk.taker{K:Fg_}{C:Addr}{f:Str}(n:dk K C f):PySem.W.takerIn K C f=some none:=by
 unfold PySem.W.takerIn;rw[show PySem.W.findIn K (.ref C) f=some none from n];rfl
structure mR(K:Fg_)(C:Addr)(m:Str)(f:Addr):Prop where
 at_:PySem.W.findIn K (.ref C) m=some (some (.ref f))
 fn:PySem.W.isFn K (.ref f)=true
 kp:PySem.W.keepIn K (.ref f)=true
section
variable {X:Cx}{pins:List (Addr×Obj)}{σ:St}{H:Hp}{s:Shared}{a C dx:Addr}{fs:List (Str×V)}{f:Str}{v:V}{A:Around}{E:Value->Shared->Prop}
theorem oA{b:Bool}{Q:Value->Shared->Prop}(I:Inv X pins σ H s)(e:H a=some (.ins C dx fs))(c:Cls X.K C)(n:dk X.K C f)(l:fs.lookup f=some v)
  (h:∀u s',Inv X pins σ H s'->dw v u->Q u s'):wpAny (model X.prog X.w) A (getAttr (.ref a) f b) Q E s:=by
 obtain⟨mA,O,r,_,_,_⟩:=m8 I.hok e
 obtain⟨u,hu,ru⟩:=jN.some_of (v:=v) (o:=mA f) (by rw[<-l];exact r f)
 exact yK I.kIn O (c.get f) c.hd n hu (pU ru) (h u _ (I.tok _) ru)
theorem oy{m:Str}{g:Addr}{pl:Sem Bool}{Q:Value×List Value->Shared->Prop}(I:Inv X pins σ H s)(e:H a=some (.ins C dx fs))(c:Cls X.K C)(k:mR X.K C m g)(l:fs.lookup m=none)
  (h:Q (.ref g,[.ref a]) s):wpAny (model X.prog X.w) A (getMethod (.ref a) m pl) Q E s:=by
 obtain⟨mA,O,r,_,_,_⟩:=m8 I.hok e
 have hn:mA m=none:=jN.none_of (by rw[<-l];exact r m)
 exact wH I.kIn O (c.get m) k.at_ k.fn hn h
theorem nM{y:V}{u:Value}{Q:Unit->Shared->Prop}(I:Inv X pins σ H s)(e:H a=some (.ins C dx fs))(c:Cls X.K C)(n:dk X.K C f)(hl:fs.length<1000)(ry:dw y u)
  (h:∀s',Inv X pins σ (upd H a (.ins C dx (fS f y fs))) s'->Q () s'):wpAny (model X.prog X.w) A (setAttr (.ref a) f u) Q E s:=by
 obtain⟨mA,O,r,wi,_,ho⟩:=m8 I.hok e
 have hz:(fs.map (·.1)).length<=sizeLine:=by rw[au,sizeLine_eq];lia
 refine xO I.kIn O c.sa c.po n.taker c.hd wi hz λh' O' sb=>h _ ?_
 have hd:∃o,h'.get? dx=some o:=let ⟨o,_,_,e',_⟩:=O'.ns;⟨o,e'⟩
 refine I.write (x:=a) (e:=dx) (by rw[e];exact True.intro) (.inr ho) (λb q hb z=>(sb.2 b hb).trans z) hd ?_
 refine⟨by rw[aj O.ne];exact ho,?_,O.ne,O'.obj,_,O'.ns,λg=>?_,λg hg=>?_⟩
 .have:=mI f y fs;exact bH this hl
 .show jN ((fS f y fs).lookup g) (if g=f then some u else mA g)
  rw[jG];by_cases q:g=f
  .rw[ax q,ax q];exact ry
  .rw[ay q,ay q];exact r g
 .by_cases q:g=f
  .rw[q];exact(i9 f y fs).1
  .refine(i9 f y fs).2 g (wi g λz=>hg ?_)
   show(if g=f then some u else mA g)=none
   rw[ay q];exact z
theorem Inv.made(I:Inv X pins σ H s):Inv X pins σ (upd (upd H s.heap.objs.size (.own (s.heap.objs.size+1))) (s.heap.objs.size+1) (.ins C s.heap.objs.size []))
  { s with heap:=(s.heap.push PySem.W.emptyDict).push (PySem.W.instObj C s.heap.objs.size) }:=by
 have e1:(s.heap.push PySem.W.emptyDict).get? s.heap.objs.size=some PySem.W.emptyDict:=bx s.heap rfl
 have e2:((s.heap.push PySem.W.emptyDict).push (PySem.W.instObj C s.heap.objs.size)).get? (s.heap.objs.size+1)=some (PySem.W.instObj C s.heap.objs.size):=by
  have:=bx (s.heap.push PySem.W.emptyDict) (o:=PySem.W.instObj C s.heap.objs.size) rfl
  rwa [Heap.size_push]at this
 have e3:(s.heap.push PySem.W.emptyDict).Ns s.heap.objs.size (λξ=>none):=⟨PySem.W.emptyDict,#[],_,e1,rfl,(λe he=>aW he (by simp)),λξ=>rfl⟩
 have I1:=I.laid (a:=s.heap.objs.size) (o:=.own (s.heap.objs.size+1)) (h':=s.heap.push PySem.W.emptyDict) (t':=s.toks) (λb u q=>aL _ q) (aF _) ⟨_,e1⟩
 refine I1.laid (a:=s.heap.objs.size+1) (o:=.ins C s.heap.objs.size []) (t':=s.toks) (λb u q=>aL _ q) (fM (Heap.size_push _ _)) ?_
 have ne:s.heap.objs.size≠s.heap.objs.size+1:=bG (je _)
 refine⟨by rw[aj ne,aC],aX _,ne,e2,λξ=>none,(Heap.Ns1.of_empty e3).at λo q=>aL _ q,λξ=>True.intro,λy hy=>aW rfl hy⟩
theorem uA{prog:Program}{w:World}{env:Env}{e:Expr}{f:Str}{pos:Pos}{s:Shared}{Q:Value->Shared->Prop}(hb:attributeBase e f env (eval e env)=eval e env)
  (h:wpAny (model prog w) A (eval e env) (λo s₁=>wpAny (model prog w) A (getAttr o f true) Q E s₁) E s):wpAny (model prog w) A (eval (.Attribute e f pos) env) Q E s :=
 Attribute_any_ h (by rw[arm_eval_Attribute,hb])
end
def tFld(K:Fg_)(ta:TE)(f:Str):TE:=λσ H Q=>ta σ H λx H1=>∃a C dx fs v,x =.ref a/\H1 a=some (.ins C dx fs)/\Cls K C/\dk K C f/\fs.lookup f=some v/\Q v H1
def sFld(K:Fg_)(ta tv:TE)(f:Str):TS:=λD σ H=>tv σ H λy H1=>ta σ H1 λx H2=>∃a C dx fs,x =.ref a/\H2 a=some (.ins C dx fs)/\Cls K C/\dk K C f/\fs.length<1000 /\
 D.nx σ (upd H2 a (.ins C dx (fS f y fs)))
def InOp(X:Cx)(op:Operator)(rd:V->V->Hp->VK->Prop):Prop :=
 ∀(pins:List (Addr×Obj))(s:Shared)(σ:St)(H:Hp)(x y:V)(u v:Value)(Q:VK),Inv X pins σ H s->dw x u->dw y v->rd x y H Q->wpAny (model X.prog X.w) X.A (inplaceOp op u v) (EP X pins σ Q) X.xe s
def xZ(K:Fg_)(ta tv:TE)(rd:V->V->Hp->VK->Prop)(f:Str):TS:=λD σ H=>ta σ H λx H1=>∃a C dx fs v,x =.ref a/\H1 a=some (.ins C dx fs)/\Cls K C/\dk K C f/\fs.lookup f=some v /\
 tv σ H1 λy H2=>rd v y H2 λz H3=>∃Cc Di,H3 a=some (.ins C Cc Di)/\Di.length<1000/\D.nx σ (upd H3 a (.ins C Cc (fS f z Di)))
section
variable {X:Cx}{o e value:Expr}{f:Str}{pos pos' Em:Pos}{ta tv:TE}
theorem a6(he:PE X e ta)(hb:attributeBase e f X.env (eval e X.env)=eval e X.env):PE X (.Attribute e f pos) (tFld X.K ta f):=by
 intro pins s σ H Q I h;refine uA hb (thn (he pins s σ H _ I h) λu s1 A9=>?_)
 obtain⟨x,H1,I1,rx,a,C,dx,fs,v,ex,ea,c,n,l,q⟩:=A9
 subst ex;obtain rfl:u=Value.ref a:=rx
 exact oA I1 ea c n l λu' s2 I2 ru=>⟨v,H1,I2,ru,q⟩
theorem dv(ha:PE X o ta)(hv:PE X value tv)(hs:swapsWith value (some (.Attribute o f pos')) pos.line X.env=pure false):PS X (.Assign [.Attribute o f pos'] value pos) (sFld X.K ta tv f):=by
 intro pins s σ H D I h;refine plainObj_wpAny_Assign_Attribute (thn (hv pins s σ H _ I h) λu s1 ⟨y,H1,I1,ry,q⟩=>thn (ha pins s1 σ H1 _ I1 q) λov s2 A9=>?_) hs
 obtain⟨x,H2,I2,rx,a,C,dx,fs,ex,ea,c,n,l,q2⟩:=A9
 subst ex;obtain rfl:ov=Value.ref a:=rx
 exact nM I2 ea c n l ry λs3 I3=>⟨σ,_,I3,q2⟩
theorem lT{op:Operator}{rd:V->V->Hp->VK->Prop}(ha:PE X o ta)(hv:PE X value tv)(U4:InOp X op rd):PS X (.AugAssign (.Attribute o f Em) op value pos) (xZ X.K ta tv rd f):=by
 intro pins s σ H D I h;refine wpAny_AugAssign_AttributeAny (thn (ha pins s σ H _ I h) λov s1 A9=>?_)
 obtain⟨x,H1,I1,rx,a,C,dx,fs,v,ex,ea,c,n,l,q⟩:=A9
 subst ex;obtain rfl:ov=Value.ref a:=rx
 refine oA I1 ea c n l λu s2 I2 ru=>thn (hv pins s2 σ H1 _ I2 q) λw3 s3 ⟨y,H2,I3,ry,q3⟩=>thn (U4 pins s3 σ H2 v y u w3 _ I3 ru ry q3) λw4 s4 A9=>?_
 obtain⟨z,H3,I4,rz,Cc,Di,Wk,l',q4⟩:=A9
 exact nM I4 Wk c n l' rz λs5 I5=>⟨σ,_,I5,q4⟩
def rAdd:V->V->Hp->VK->Prop:=λx y H Q=>∃i j,x =.int i/\y =.int j/\Q (.int (i+j)) H
theorem tw:InOp X .Add rAdd:=by
 rintro pins s σ H x y u v Q I rx ry ⟨i,j,rfl,rfl,q⟩
 obtain⟨t,rfl⟩:=(show ∃t,u=Value.int i t from rx)
 obtain⟨t',rfl⟩:=(show ∃t',v=Value.int j t' from ry)
 exact PyProof.Rows.iadd_int ⟨.int (i+j),H,I.tok _,⟨_,rfl⟩,q⟩
end
section
variable {X:Cx}{pins:List (Addr×Obj)}{σ:St}{H:Hp}{s:Shared}{A:Around}{E:Value->Shared->Prop}{Q:Value->Shared->Prop}{c:Value}{b:Bool}
inductive mq(K:Fg_)(H:Hp):V->Value->Prop where
 | non:mq K H .non (.type "NoneType")
 | bl (x:Bool):mq K H (.bl x) (.type "bool")
 | int (i:Int):mq K H (.int i) (.type "int")
 | str (x:Str):mq K H (.str x) (.type "str")
 | flt (x:UInt64):mq K H (.flt x) (.type "float")
 | lst {a:Addr} {xs:List V} (e:H a=some (.lst xs)):mq K H (.ref a) (.type "list")
 | frz {a:Addr} {o:Obj} {xs:List V} (e:H a=some (.frz o (.lst xs))):mq K H (.ref a) (.type "list")
 | tup {a:Addr} {xs:List V} (e:H a=some (.tup xs)):mq K H (.ref a) (.type "tuple")
 | dK {a:Addr} {Br:List (Key×V)} (e:H a=some (.dK Br)):mq K H (.ref a) (.type "dict")
 | dT {a:Addr} {Br:List (List Key×V)} (e:H a=some (.dT Br)):mq K H (.ref a) (.type "dict")
 | ins {a C dx:Addr} {fs:List (Str×V)} (e:H a=some (.ins C dx fs)) (cl:Cls K C) (ha:PySem.W.findIn K (.ref C) "__class__" =some (some (.builtin "object.__class__")))
   (hn:PySem.W.specialIn K (.builtin "object.__class__") "__get__" =some (some (.builtin "getset_descriptor.__get__"))) (Qm:PySem.W.takesIn K (.builtin "object.__class__")=some true)
   (hm:PySem.W.mroIn K C (.type "object")=some true):mq K H (.ref a) (.ref C)
theorem vd{x:V}{u t:Value}(I:Inv X pins σ H s)(rx:dw x u)(ty:mq X.K H x t)(e:PySem.W.kitOne X.K t c=some b)(h:∀tk,Q (.bool b) { s with toks:=tk }) :
  wpAny (model X.prog X.w) A (call (.builtin "isinstance") [u,c]) Q E s:=by
 cases ty with
 | non=>cases (show u=Value.none from rx);exact PySem.W.kia_one PySem.W.kitx_none I.kIn True.intro e (λz=>nomatch z) h
 | bl y=>cases (show u=Value.bool y from rx);exact PySem.W.kia_one PySem.W.kitx_bool I.kIn True.intro e (λz=>nomatch z) h
 | int i=>obtain⟨t,q⟩:=(show ∃t,u=Value.int i t from rx);cases q;exact PySem.W.kia_one PySem.W.kitx_int I.kIn True.intro e (λz=>nomatch z) h
 | str y=>obtain⟨t,q⟩:=(show ∃t,u=Value.str y t from rx);cases q;exact PySem.W.kia_one PySem.W.kitx_str I.kIn True.intro e (λz=>nomatch z) h
 | flt y=>obtain⟨t,q⟩:=(show ∃t,u=Value.float y t from rx);cases q;exact PySem.W.kia_one PySem.W.kitx_float I.kIn True.intro e (λz=>nomatch z) h
 | @lst a xs ea =>
  cases (show u=Value.ref a from rx)
  obtain⟨_,_,n,_,h1⟩:=(show fe X.prog X.w H s.heap a (.lst xs)from I.hok a _ ea)
  exact PySem.W.kia_one PySem.W.kitx_list I.kIn ⟨_,h1,rfl⟩ e (λz=>nomatch z) h
 | @frz a ob xs ea =>
  cases (show u=Value.ref a from rx)
  obtain⟨_,_,_,n,_,h1⟩:=(show fe X.prog X.w H s.heap a (.frz ob (.lst xs))from I.hok a _ ea)
  exact PySem.W.kia_one PySem.W.kitx_list I.kIn ⟨_,h1,rfl⟩ e (λz=>nomatch z) h
 | @tup a xs ea =>
  cases (show u=Value.ref a from rx)
  obtain⟨_,_,_,p⟩:=(show fe X.prog X.w H s.heap a (.tup xs)from I.hok a _ ea)
  obtain⟨o,h1,h2,_⟩:=p
  exact PySem.W.kia_one PySem.W.kitx_tuple I.kIn ⟨o,h1,h2⟩ e (λz=>nomatch z) h
 | @dK a Br ea =>
  cases (show u=Value.ref a from rx)
  obtain⟨_,_,vs,_,p⟩:=(show fe X.prog X.w H s.heap a (.dK Br)from I.hok a _ ea)
  obtain⟨o,es,ep,h1,h2,_⟩:=p
  exact PySem.W.kia_one PySem.W.kitx_dict I.kIn ⟨o,h1,h2.1⟩ e (λz=>nomatch z) h
 | @dT a Br ea =>
  cases (show u=Value.ref a from rx)
  obtain⟨_,_,xs,_,o,es,ep,h1,h2,_⟩:=(show fe X.prog X.w H s.heap a (.dT Br)from I.hok a _ ea)
  exact PySem.W.kia_one PySem.W.kitx_dict I.kIn ⟨o,h1,h2.1⟩ e (λz=>nomatch z) h
 | @ins a C dx fs ea cl ha hn Qm hm =>
  cases (show u=Value.ref a from rx)
  obtain⟨mA,O,_⟩:=m8 I.hok ea
  obtain⟨od,J,_⟩:=O.look
  exact PySem.W.kia_one (PySem.W.kitx_own (cl.get _) cl.hd ha hn Qm hm) I.kIn J e (λz=>nomatch z) h
end
structure cD(k:Nat)(A:Around):Prop where
 hd:A.handled=none
 dp:A.depth+3*k+5<recursionLimit
 un:A.units+16*k+200<cLine
theorem cD.mono{j k:Nat}{A:Around}(r:cD k A)(h:j<=k):cD j A:=⟨r.hd,by have:=r.dp;lia,by have:=r.un;lia⟩
theorem cD.deeper{k:Nat}{A:Around}(r:cD (k+1) A)(env:Env):cD k (A.deeper env) :=
 ⟨r.hd,by have:=r.dp;show A.depth+1+3*k+5<_;lia,by have:=r.un;show A.units+3+16*k+200<_;lia⟩
theorem oq{A:Around}{C:Addr}{us:List Value}{kw:List (Str×Value)}:(A.under (.builtin "type.__call__" ⟨.ref C::us,kw⟩)).depth=A.depth+1:=by
 first | rfl | simp[Around.under,Code.weight,Code.isCreation,Code.isGuard,Code.isCaller,Code.frames,Code.isFrame,guardIds]
theorem om{A:Around}{C:Addr}{us:List Value}{kw:List (Str×Value)}:(A.under (.builtin "type.__call__" ⟨.ref C::us,kw⟩)).units=A.units+1:=by
 first | rfl | simp[Around.under,Code.cUnits,Code.frames,Code.isFrame]
theorem cD.make{k:Nat}{A:Around}(r:cD (k+1) A)(C:Addr)(us:List Value)(kw:List (Str×Value)):cD k (A.under (.builtin "type.__call__" ⟨.ref C::us,kw⟩)) :=
 ⟨r.hd,by have:=r.dp;rw[oq];lia,by have:=r.un;rw[om];lia⟩
theorem cD.depth{k:Nat}{A:Around}(r:cD k A):A.depth<recursionLimit:=by have:=r.dp;lia
theorem cD.units{k:Nat}{A:Around}(r:cD k A):A.units+64<cLine:=by have:=r.un;lia
theorem cD.units0{k:Nat}{A:Around}(r:cD k A):A.units<cLine:=by have:=r.un;lia
def xt:TA:=λξ H Q=>Q [] H
def vG(ta:TE)(tr:TA):TA:=λσ H Q=>ta σ H λx H1=>tr σ H1 λxs H2=>Q (x::xs) H2
section
variable {X:Cx}{e:Expr}{es:List Expr}{te:TE}{t:TA}{pos:Pos}
theorem aG:PA X [] xt:=λξ ξ ξ ξ H Q I h=>Calls.spliced_nil ⟨[],H,I,.nil,h⟩
theorem aa(ha:PE X e te)(hr:PA X es t)(hs:starEach (e::es) X.env=(false,eval e X.env)::starEach es X.env:=by rfl):PA X (e::es) (vG te t):=by
 intro pos pins s σ H Q I h;rw[hs];show wpAny _ _ (spliced ((false,eval e X.env)::backTo pos (starEach es X.env))) _ _ s
 refine Calls.spliced_cons (thn (ha pins s σ H _ I h) λu s1 A9=>?_)
 obtain⟨x,H1,I1,r1,q1⟩:=A9
 exact thn (hr pos pins s1 σ H1 _ I1 q1) λus s2 ⟨xs,H2,I2,r2,q2⟩=>⟨x::xs,H2,I2,.cons r1 r2,q2⟩
def tTup(t:TA):TE:=λσ H Q=>t σ H λxs H1=>xs.length<=sizeLine/\∀p,H1 p=none->Q (.ref p) (upd H1 p (.tup xs))
def tLst(t:TA):TE:=λσ H Q=>t σ H λxs H1=>xs.length<=sizeLine/\∀p,H1 p=none->Q (.ref p) (upd H1 p (.lst xs))
theorem jD{x1}(h:PA X es t):PE X (.Tuple es x1 pos) (tTup t):=by
 intro pins s σ H Q I hq;refine wpAny_Tuple_spliced (thn (h pos pins s σ H _ I hq) λus s1 ⟨xs,H1,I1,r,z,q⟩=>⟨by rw[<-r.length];exact z,?_⟩)
 have hf:H1 s1.heap.objs.size=none:=I1.hok.fresh (aF _)
 refine⟨.ref s1.heap.objs.size,upd H1 s1.heap.objs.size (.tup xs),I1.laid (t':=s1.toks) (λb u e=>aL _ e) (aF _) ?_,rfl,q _ hf⟩
 exact⟨z,us,r,⟨_,bx _ rfl,rfl,_,rfl⟩⟩
theorem ee(h:PA X es t):PE X (.List es pos) (tLst t):=by
 intro pins s σ H Q I hq;refine wpAny_List_spliced (thn (h pos pins s σ H _ I hq) λus s1 ⟨xs,H1,I1,r,z,q⟩=>⟨by rw[<-r.length];exact z,?_⟩)
 have hf:H1 s1.heap.objs.size=none:=I1.hok.fresh (aF _)
 refine⟨.ref s1.heap.objs.size,upd H1 s1.heap.objs.size (.lst xs),I1.laid (t':=s1.toks) (λb u e=>aL _ e) (aF _) ?_,rfl,q _ hf⟩
 exact⟨z,us,0,r,bx _ rfl⟩
end
abbrev Sp:=List V->Hp->VK->XK->Prop
abbrev CXT:=List Env->Hp->Shared->XK->Value->Shared->Prop
structure sj(P:Program)(w:World)(K:Fg_)(mg:Str->Option Value)(base:Heap)(A:Around)(outer:List Env)(s:Shared)(H:Hp):Prop where
 frames:A.frames=some outer
 mod:Mod K mg base
 bs:∀b o,base.get? b=some o->s.heap.get? b=some o/\H b=none
 bsz:base.objs.size<=s.heap.objs.size
 funs:s.heap.FunFrames base outer
 frf:∀b∈frs outer,H b=none
 hok:HOk P w H s.heap
 bare:AllBare s.gens
def CE(outer:List Env)(P:Program)(w:World)(H:Hp)(s:Shared)(Q:VK)(u:Value)(s':Shared):Prop :=
 ∃v H',s'.os=s.os/\AllBare s'.gens/\Un (frs outer) [] H H' s.heap s'.heap/\HOk P w H' s'.heap/\dw v u/\Q v H'
def CR(CX:CXT)(outer:List Env)(P:Program)(w:World)(H:Hp)(s:Shared)(Q:VK)(E:XK)(r:Result)(s':Shared):Prop :=
 match r with
 | .ok (.ret u)=>CE outer P w H s Q u s'
 | .ok _=>False
 | .error e=>CX outer H s E e s'
structure bQ(P:Program)(w:World)(K:Fg_)(mg:Str->Option Value)(base:Heap)(CX:CXT)(k:Nat)(f:Addr)(fd:FuncData)(ps:List Str)(sp:Sp):Prop where
 len:∀vs H Q E,sp vs H Q E->vs.length=ps.length
 run:∀(A:Around)(outer:List Env)(s:Shared)(H:Hp)(args:Args)(us:List Value)(vs:List V)(Q:VK)(E:XK),cD k A->sj P w K mg base A outer s H->BindsTo s fd args (ps.zip us)->cJ vs us->sp vs H Q E ->
  codeAny (model P w) A (.call (.ref f) args) (CR CX outer P w H s Q E) s
theorem sj.make{P:Program}{w:World}{K:Fg_}{mg:Str->Option Value}{base:Heap}{A:Around}{outer:List Env}{s:Shared}{H:Hp}(e:sj P w K mg base A outer s H)(C:Addr)(us:List Value)(kw:List (Str×Value)) :
  sj P w K mg base (A.under (.builtin "type.__call__" ⟨.ref C::us,kw⟩)) outer s H:=⟨by first | exact e.frames | (simpa[Around.under,Code.envs,Code.isFrame,pushEnvs]using e.frames),e.mod,e.bs,e.bsz,e.funs,e.frf,e.hok,e.bare⟩
section
variable {X:Cx}{pins:List (Addr×Obj)}{σ:St}{H:Hp}{s s':Shared}
theorem Inv.env0(I:Inv X pins σ H s):sj X.prog X.w X.K X.mg X.base X.A X.stack s H :=
 ⟨I.ok.frames,I.ok.mod,I.bs,bH I.ok.bsz I.sz,I.stack,I.stkFree,I.hok,I.bare⟩
theorem Inv.after{Q:VK}{u:Value}(I:Inv X pins σ H s)(h:CE X.stack X.prog X.w H s Q u s'):EP X pins σ Q u s':=by
 obtain⟨v,H',os,bare,un,hok,r,q⟩:=h
 obtain⟨hh,g,d,t,SW⟩:=s'
 obtain rfl:SW=s.os:=os
 exact⟨v,H',I.call (h':=hh) (g':=g) (d':=d) (t':=t) (ch:=[]) un hok bare (λb z=>aW z (by simp)),r,q⟩
end
def vH(sp:Sp)(BW:List V)(E:XK)(t:TA):TE:=λσ H Q=>t σ H λvs H1=>sp (vs++BW) H1 Q E
def za(C:Addr)(m:Str)(sp:Sp)(BW:List V)(E:XK)(ta:TE)(t:TA):TE:=λσ H Q=>ta σ H λx H1=>∃a dx fs,x =.ref a/\H1 a=some (.ins C dx fs)/\fs.lookup m=none /\
 t σ H1 λvs H2=>sp (x::(vs++BW)) H2 Q E
def tMake(C:Addr)(sp:Sp)(BW:List V)(E:XK)(t:TA):TE:=λσ H Q=>t σ H λvs H1=>∀x dx,H1 x=none->H1 dx=none->dx≠x ->
 sp (.ref x::(vs++BW)) (upd (upd H1 dx (.own x)) x (.ins C dx [])) (λv H2=>v =.non/\Q (.ref x) H2) E
def bZ(K:Fg_)(fd:FuncData)(ps:List Str)(ds:List Value):Prop :=
 ∀(s:Shared)(us:List Value),K.In s.heap->(us++ds).length=ps.length->BindsTo s fd ⟨us,[]⟩ (ps.zip (us++ds))
theorem bZ.all{K:Fg_}{fd:FuncData}{ps:List Str}(h:∀us:List Value,us.length=ps.length->bindArgs fd ⟨us,[]⟩=pure (ps.zip us)):bZ K fd ps []:=λs us ξ hl=>by
 rw[bJ]at hl |-;exact .of_eq (h us hl)
def hZ(CX:CXT)(X:Cx)(E:XK):Prop:=∀(pins:List (Addr×Obj))(σ:St)(H:Hp)(s:Shared)(e:Value)(s':Shared),Inv X pins σ H s->CX X.stack H s E e s'->X.xe e s'
section
variable {X:Cx}{CX:CXT}{k:Nat}{f C:Addr}{fd:FuncData}{ps:List Str}{sp:Sp}{BW:List V}{ds:List Value}{E:XK}{x m:Str}{p pos apos:Pos}{e o:Expr}{es:List Expr}{ta:TE}{t:TA}
theorem qd{pins:List (Addr×Obj)}{σ:St}{H:Hp}{s:Shared}{Q:VK}{us:List Value}{vs:List V}(F:bQ X.prog X.w X.K X.mg X.base CX k f fd ps sp)(hr:cD k X.A)(hb:bZ X.K fd ps ds)(hd:cJ BW ds)(hx:hZ CX X E)
  (I:Inv X pins σ H s)(r:cJ vs us)(h:sp (vs++BW) H Q E):wpAny (model X.prog X.w) X.A (call (.ref f) us) (EP X pins σ Q) X.xe s:=by
 have r2:cJ (vs++BW) (us++ds):=r.append hd
 have hl:(us++ds).length=ps.length:=by rw[<-r2.length];exact F.len _ _ _ _ h
 refine wpAny_call (codeAny_mono (F.run X.A X.stack s H ⟨us,[]⟩ (us++ds) (vs++BW) Q E hr I.env0 (hb s us I.kIn hl) r2 h) λr s' hq=>?_)
 cases r with
 | error e=>exact hx pins σ H s e s' I hq
 | ok fl =>
  cases fl with
  | ret u=>exact I.after hq
  | next=>exact False.elim hq
  | brk=>exact False.elim hq
  | cont=>exact False.elim hq
theorem m7(F:bQ X.prog X.w X.K X.mg X.base CX k f fd ps sp)(hr:cD k X.A)(hg:Gl X x)(hm:X.mg x=some (.ref f))(hk:PySem.W.keepIn X.K (.ref f)=true)(hb:bZ X.K fd ps ds)(hd:cJ BW ds)(hx:hZ CX X E)
  (ha:PA X (e::es) t)(BP:(x==("__debug__" :Str))=false:=by decide)(he:starEach (e::es) X.env=(false,eval e X.env)::starEach es X.env:=by rfl)(Bn:(backTo pos (starEach es X.env)).any (·.1)=false:=by rfl) :
  PE X (.Call (.Name x p) (e::es) [] pos) (vH sp BW E t):=by
 intro pins s σ H Q I h;refine wpAny_Call_Name_kw (fX I hg hm ?_ BP)
 refine PySem.W.callWith_K (h₀:=X.base) I.ok.mod.kin hk (thn (ha pos pins s σ H _ I h) λus s1 ⟨vs,H1,I1,r,q⟩=>⟨I1.kIn,?_⟩) he Bn
 exact qd F hr hb hd hx I1 r q
theorem kO{pl:Sem Bool}(he:PE X o ta)(c:Cls X.K C)(hm:mR X.K C m f)(F:bQ X.prog X.w X.K X.mg X.base CX k f fd ps sp)(hr:cD k X.A)(hb:bZ X.K fd ps ds)(hd:cJ BW ds)(hx:hZ CX X E)(ha:PA X (e::es) t)
  (A':starEach (e::es) X.env=(false,eval e X.env)::starEach es X.env:=by rfl)(Bn:(backTo pos (starEach es X.env)).any (·.1)=false:=by rfl)
  (ht:eval (.Call (.Attribute o m apos) (e::es) [] pos) X.env=(do
   let ov ←eval o X.env
   standAt apos.atName
   let (f,first) ←holding [ov] (getMethod ov m pl)
   callWith pos f first (backTo pos (starEach (e::es) X.env)) (backToKw pos (keywordEach [] X.env))):=by rfl) :
  PE X (.Call (.Attribute o m apos) (e::es) [] pos) (za C m sp BW E ta t):=by
 intro pins s σ H Q I h;refine PySem.W.methodCall_KW (pl:=pl) (thn (he pins s σ H _ I h) λu s1 A9=>?_) ht
 obtain⟨x,H1,I1,rx,a,dx,fs,ex,ea,l,q⟩:=A9
 subst ex;obtain rfl:u=Value.ref a:=rx
 refine oy I1 ea c hm l ?_
 refine PySem.W.callWith_K (first:=[.ref a]) (h₀:=X.base) I.ok.mod.kin hm.kp (thn (ha pos pins s1 σ H1 _ I1 q) λus s2 ⟨vs,H2,I2,r,q2⟩=>⟨I2.kIn,?_⟩) A' Bn
 exact qd (us:=.ref a::us) (vs:=.ref a::vs) F hr hb hd hx I2 (.cons rfl r) q2
theorem iz{pl:Sem Bool}(he:PE X o ta)(c:Cls X.K C)(hm:mR X.K C m f)(F:bQ X.prog X.w X.K X.mg X.base CX k f fd ps sp)(hr:cD k X.A)(hb:bZ X.K fd ps ds)(hd:cJ BW ds)(hx:hZ CX X E)
  (ht:eval (.Call (.Attribute o m apos) [] [] pos) X.env=(do
   let ov ←eval o X.env
   standAt apos.atName
   let (f,first) ←holding [ov] (getMethod ov m pl)
   callWith pos f first (backTo pos (starEach [] X.env)) (backToKw pos (keywordEach [] X.env))):=by rfl) :
  PE X (.Call (.Attribute o m apos) [] [] pos) (za C m sp BW E ta xt):=by
 intro pins s σ H Q I h;refine PySem.W.methodCall_KW (pl:=pl) (thn (he pins s σ H _ I h) λu s1 A9=>?_) ht
 obtain⟨x,H1,I1,rx,a,dx,fs,ex,ea,l,q⟩:=A9
 subst ex;obtain rfl:u=Value.ref a:=rx
 refine oy I1 ea c hm l ?_
 exact PySem.W.callWith_K0 (first:=[.ref a]) I1.kIn hm.kp (qd (us:=[.ref a]) (vs:=[.ref a]) F hr hb hd hx I1 (.cons rfl .nil) q)
structure Mk(K:Fg_)(C f:Addr):Prop where
 makes:PySem.W.makesIn K C=true
 init:PySem.W.findIn K (.ref C) "__init__" =some (some (.ref f))
 fn:PySem.W.isFn K (.ref f)=true
 kp:PySem.W.keepIn K (.ref C)=true
theorem vW{pins:List (Addr×Obj)}{σ:St}{H:Hp}{s:Shared}{Q:VK}{us:List Value}{vs:List V}(M:Mk X.K C f)(F:bQ X.prog X.w X.K X.mg X.base CX k f fd ps sp)(hr:cD (k+1) X.A)(hb:bZ X.K fd ps ds)(hd:cJ BW ds)
  (hx:hZ CX X E)(I:Inv X pins σ H s)(r:cJ vs us)
  (h:∀x dx,H x=none->H dx=none->dx≠x->sp (.ref x::(vs++BW)) (upd (upd H dx (.own x)) x (.ins C dx [])) (λv H2=>v =.non/\Q (.ref x) H2) E) :
  wpAny (model X.prog X.w) X.A (call (.ref C) us) (EP X pins σ Q) X.xe s:=by
 have hq:=h (s.heap.objs.size+1) s.heap.objs.size (I.hok.fresh (Nat.le_succ _)) (I.hok.fresh (aF _)) (bG (je _))
 have I2:=Inv.made (C:=C) I
 have r2:cJ (V.ref (s.heap.objs.size+1)::(vs++BW)) (Value.ref (s.heap.objs.size+1)::(us++ds)):=.cons rfl (r.append hd)
 have hl:(Value.ref (s.heap.objs.size+1)::us++ds).length=ps.length:=by
  have e:=r2.length
  rw[F.len _ _ _ _ hq]at e;exact e.symm
 refine wpAny_call (wy (f:=f) I.kIn M.makes M.init (beq_iff_eq.mp M.fn) (codeAny_mono (F.run _ X.stack _ _ ⟨Value.ref (s.heap.objs.size+1)::us,[]⟩ (Value.ref (s.heap.objs.size+1)::(us++ds)) _ _ E (hr.make C us [])
  (I2.env0.make C us []) (hb _ (Value.ref (s.heap.objs.size+1)::us) I2.kIn hl) r2 hq) λr s' JP=>?_))
 cases r with
 | error e=>exact hx pins σ _ _ e s' I2 JP
 | ok fl =>
  cases fl with
  | ret u =>
   obtain⟨v,H',I3,rv,ev,q3⟩:=I2.after JP
   subst ev;exact⟨rv,⟨V.ref (s.heap.objs.size+1),H',I3,rfl,q3⟩⟩
  | next=>exact False.elim JP
  | brk=>exact False.elim JP
  | cont=>exact False.elim JP
theorem jm(M:Mk X.K C f)(F:bQ X.prog X.w X.K X.mg X.base CX k f fd ps sp)(hr:cD (k+1) X.A)(hg:Gl X x)(hm:X.mg x=some (.ref C))(hb:bZ X.K fd ps ds)(hd:cJ BW ds)(hx:hZ CX X E)
  (ha:PA X (e::es) t)(BP:(x==("__debug__" :Str))=false:=by decide)(he:starEach (e::es) X.env=(false,eval e X.env)::starEach es X.env:=by rfl)(Bn:(backTo pos (starEach es X.env)).any (·.1)=false:=by rfl) :
  PE X (.Call (.Name x p) (e::es) [] pos) (tMake C sp BW E t):=by
 intro pins s σ H Q I h;refine wpAny_Call_Name_kw (fX I hg hm ?_ BP)
 refine PySem.W.callWith_K (h₀:=X.base) I.ok.mod.kin M.kp (thn (ha pos pins s σ H _ I h) λus s1 ⟨vs,H1,I1,r,q⟩=>⟨I1.kIn,?_⟩) he Bn
 exact vW M F hr hb hd hx I1 r q
end
section
variable {X:Cx}{CX:CXT}{k:Nat}{f C:Addr}{fd:FuncData}{ps ks:List Str}{sp:Sp}{E:XK}{x m:Str}{p pos apos Ux:Pos}{e o:Expr}{es:List Expr}{Y6:List Keyword}{te ta:TE}{t tk:TA}{nm:Option Str}
variable {g:List Value->List Value->List Value}{gV:List V->List V->List V}
end
structure bq(N P:List Str)(sc:Scope):Prop where
 kind:sc.kind =.function
 co:sc.isCoroutine=false
 gen:sc.isGenerator=false
 nd:N.Nodup
 pre:N.take P.length=P
 par:∀x∈P,sc.names.lookup x=some .local\/sc.names.lookup x=some .cell
 nofree:∀y∈sc.names,y.2≠.free
theorem pX{kindOf:Str->Option NameKind}{x:Str}:∀{binds:List (Str×Value)}{m:Str->Option Value},(∀v,(x,v)∉binds)->bindL kindOf binds m x=m x
 | [],_,_=>rfl
 | (n,v)::r,m,h=>by
  unfold bindL;rw[pX λw hw=>h w (aA _ hw)]
  split
  .have:x≠n:=by rintro rfl;exact h v a7
   simp[this]
  .rfl
theorem pZ{kindOf:Str->Option NameKind}{x:Str}:∀{binds:List (Str×Value)}{m:Str->Option Value},(∀v,(x,v)∉binds)->bindC kindOf binds m x=m x
 | [],_,_=>rfl
 | (n,v)::r,m,h=>by
  unfold bindC;rw[pZ λw hw=>h w (aA _ hw)]
  split
  .rfl
  .have:x≠n:=by rintro rfl;exact h v a7
   simp[this]
theorem pY{kindOf:Str->Option NameKind}{x:Str}{v:Value}:∀{P:List Str}{vs:List Value}{i:Nat}{m:Str->Option Value},P.Nodup->P[i]? =some x->vs[i]? =some v->kindOf x=some .local ->
  bindL kindOf (P.zip vs) m x=some v
 | [],_,_,_,_,h,_,_=>by simp at h
 | _::_,[],_,_,_,_,h,_=>by simp at h
 | p::P,w::vs,0,m,nd,h1,h2,hk=>by
  simp at h1 h2;subst h1;subst h2;show bindL kindOf ((p,w)::P.zip vs) m p=_
  unfold bindL;rw[pX λv hv=>(bc.mp nd).1 (ia hv).1,ax hk]
  simp
 | p::P,w::vs,i+1,m,nd,h1,h2,hk=>by
  show bindL kindOf ((p,w)::P.zip vs) m x=_
  unfold bindL;exact pY (i:=i) (bc.mp nd).2 (by simpa using h1) (by simpa using h2) hk
theorem p3{kindOf:Str->Option NameKind}{x:Str}{v:Value}:∀{P:List Str}{vs:List Value}{i:Nat}{m:Str->Option Value},P.Nodup->P[i]? =some x->vs[i]? =some v->kindOf x≠some .local ->
  bindC kindOf (P.zip vs) m x=some v
 | [],_,_,_,_,h,_,_=>by simp at h
 | _::_,[],_,_,_,_,h,_=>by simp at h
 | p::P,w::vs,0,m,nd,h1,h2,hk=>by
  simp at h1 h2;subst h1;subst h2;show bindC kindOf ((p,w)::P.zip vs) m p=_
  unfold bindC;rw[pZ λv hv=>(bc.mp nd).1 (ia hv).1,ay hk]
  simp
 | p::P,w::vs,i+1,m,nd,h1,h2,hk=>by
  show bindC kindOf ((p,w)::P.zip vs) m x=_
  unfold bindC;exact p3 (i:=i) (bc.mp nd).2 (by simpa using h1) (by simpa using h2) hk
def iU(N:List Str)(vs:List V):St:=vs.map some++List.replicate (N.length-vs.length) none
def cW(CX:CXT)(P:Program)(w:World)(K:Fg_)(mg:Str->Option Value)(base:Heap)(N:List Str)(qual:Str)(scope:Scope)(f:Addr)(cd:Value)(A:Around)(outer:List Env)(s:Shared)(H:Hp)(E:XK):Cx where
 prog:=P
 w:=w
 K:=K
 mg:=mg
 base:=base
 A:=A.deeper (envOfC qual scope s.heap.objs.size f cd)
 N:=N
 s_0:=s
 H_0:=H
 env:=envOfC qual scope s.heap.objs.size f cd
 outer:=outer
 stack:=envOfC qual scope s.heap.objs.size f cd::outer
 ex:=[]
 calm:=true
 fn:=λξ=>true
 pn:=[]
 xe:=λe s'=>wpAny (model P w) (A.deeper (envOfC qual scope s.heap.objs.size f cd)) (leaving (envOfC qual scope s.heap.objs.size f cd) e) (λξ Me=>CX outer H s E e Me) (λe' Me=>CX outer H s E e' Me) s'
theorem rX{sc:Scope}{n:Nat}{x:Str}(h:sc.names.lookup x=some .cell):∃c,(cellsFrom n sc.names []).lookup x=some c:=by
 have q:=PySem.W.cellsFrom_some sc.names n [] (.inl h)
 exact Option.isSome_iff_exists.mp q
theorem pT{CX:CXT}{P:Program}{w:World}{K:Fg_}{mg:Str->Option Value}{base:Heap}{N ps:List Str}{qual:Str}{scope:Scope}{f:Addr}{cd:Value}{A:Around}{outer:List Env}{s s1:Shared}{H:Hp}{E:XK}{us:List Value}{vs:List V}
  (S:bq N ps scope)(hd:A.handled=none)(e0:sj P w K mg base A outer s H)(hl:vs.length=ps.length)(r:cJ vs us)
  (x:InCallC s s.heap.objs.size (bindL (envOfC qual scope s.heap.objs.size f cd).kindOf (ps.zip us) λξ=>none) (cellsFrom (s.heap.objs.size+1) scope.names []) (bindC (envOfC qual scope s.heap.objs.size f cd).kindOf (ps.zip us) λξ=>none) s1) :
  Inv (cW CX P w K mg base N qual scope f cd A outer s H E) [] (iU N vs) H s1:=by
 have Bn:ps.length<=N.length:=by have:=congrArg List.length S.pre;rw[aP]at this;lia
 obtain⟨h1,tk,rfl,hk⟩:=x.done
 have Io:∀b:Addr,b∉(cW CX P w K mg base N qual scope f cd A outer s H E).ex:=λb z=>aW (show b∈([]:List Addr)from z) (by simp)
 refine⟨⟨e0.mod,S.kind,rfl,rfl,aF _,λy z c h1 h2=>?_,λy hy=>?_,λy c ξ h=>?_,λξ=>hd,Around.frames_deeper e0.frames,.inr ⟨rfl,rfl⟩,λb z=>aW z (Io b),e0.bs,e0.bsz,λb ξ ξ=>Io b,λb z=>aW z (Io b),e0.funs,e0.frf⟩,
  rfl,e0.bare,Un.kept hk,⟨_,x.toInCall.ns,λi y v h1 h2 h3=>?_⟩,λy c h=>⟨_,x.cell y c h⟩,e0.hok.fresh (aF _),λy c h=>?_,λp hp=>aW (show p∈([]:List (Addr×Obj))from hp) (by simp),e0.hok.kept hk,?_⟩
 .exact name_of_addr x.apart (bT h1) (bT h2)
 .have hy:scope.names.lookup y=some .cell\/scope.names.lookup y=some .free:=hy
  rcases hy with hy | hy
  .exact rX hy
  .exact aW rfl (S.nofree _ (bT hy))
 .exact cq (x.above y c (bT h))
 .have hi:i<vs.length:=by
   unfold iU at h2;by_cases hi:i<vs.length
   .exact hi
   .rw[fG (by simpa using hi)]at h2
    rw[gi]at h2;split at h2<;>cases h2
  have ha:vs[i]? =some v:=by
   unfold iU at h2;rw[cg (by simpa using hi),bt]at h2
   cases e:vs[i]? with
   | none=>rw[e]at h2;cases h2
   | some a=>rw[e]at h2;cases h2;rfl
  obtain⟨u,hu,rv⟩:=r.get ha
  have hp:ps[i]? =some y:=by
   rw[<-S.pre,br (leR hl hi)];exact h1
  have PZ:ps.Nodup:=by rw[<-S.pre];exact S.nd.sublist (List.take_sublist _ _)
  refine⟨u,rv,?_⟩
  rcases S.par y (di hp)with k | k
  .exact .inl ⟨k,pY PZ hp hu k⟩
  .obtain⟨c,e⟩:=rX (n:=s.heap.objs.size+1) k
   refine .inr ⟨.inl k,c,e,?_⟩
   have q:=x.cell y c e
   rw[p3 PZ hp hu (by show scope.names.lookup y≠_;rw[k];decide)]at q
   exact q
 .exact e0.hok.fresh (cq (x.above y c (bT h)))
 .unfold iU;show _=N.length
  rw[ae,au,gF];lia
theorem zg{CX:CXT}{P:Program}{w:World}{K:Fg_}{mg:Str->Option Value}{base:Heap}{k:Nat}{f:Addr}{name qual:Str}{params:Arguments}{body:List Stmt}{scope:Scope}{dV kV doc pm AY ct oc:Value}{an od:Option Addr}
  {Ee:Array (Option Value)}{N ps:List Str}{sp:Sp}(lk:K.lookup f=some ⟨oc,od,.func (PySem.W.fnOf name qual params body scope dV kV doc pm an AY ct),Ee⟩)(Ea:PySem.W.codeIn K AY qual=true)(S:bq N ps scope)
  (len:∀vs H Q E,sp vs H Q E->vs.length=ps.length)
  (B7:∀(A:Around)(outer:List Env)(s:Shared)(H:Hp)(vs:List V)(Q:VK)(E:XK),cD k (A.deeper (envOfC qual scope s.heap.objs.size f AY))->sp vs H Q E ->
   ∃t,PSs (cW CX P w K mg base N qual scope f AY A outer s H E) body t/\t { nx:=λξ H'=>Q .non H',rt:=Q } (iU N vs) H) :
  bQ P w K mg base CX (k+1) f (PySem.W.fnOf name qual params body scope dV kV doc pm an AY ct) ps sp:=by
 refine⟨len,λA outer s H args us vs Q E hr e0 hb r Cn=>?_⟩
 have hl:=len _ _ _ _ Cn
 have KX:K.In s.heap:=e0.mod.kin.keeps λb o e=>(e0.bs b o e).1
 have lim:s.heap.NoLimit:=e0.mod.nolimit.keeps λb o e=>(e0.bs b o e).1
 have EN:∀y∈ps.zip us,scope.names.lookup y.1=some .local\/(scope.names.lookup y.1=some .cell/\((cellsFrom (s.heap.objs.size+1) scope.names []).lookup y.1).isSome=true):=λ⟨n,v⟩ hy=>by
  rcases S.par n (ia hy).1 with q | q
  .exact .inl q
  .exact .inr ⟨q,PySem.W.cellsFrom_some _ _ _ (.inl q)⟩
 refine codeAny_call_function hr.depth (KX _ _ lk) rfl S.co S.gen rfl (PySem.W.codeRec_of KX Ea) (hb _ _ _ _ ?_)
 refine wpAny_newFunctionEnv_cells S.kind EN λenv he s1 x=>?_
 subst he;refine⟨lim.keeps x.toInCall.keep,codeAny_func ?_⟩
 obtain⟨t,ht,hq⟩:=B7 A outer s H vs Q E (hr.deeper _) Cn
 have I:Inv (cW CX P w K mg base N qual scope f AY A outer s H E) [] (iU N vs) H s1:=pT S hr.hd e0 hl r x
 refine wpAny_mono (ht [] s1 (iU N vs) H _ I hq) (λfl s' hs=>?_) λe s' hs=>hs
 have fin:∀{σ':St}{H':Hp}{v:V}{u:Value},Inv (cW CX P w K mg base N qual scope f AY A outer s H E) [] σ' H' s'->dw v u->Q v H'->CE outer P w H s Q u s' :=
  λ{σ' H' v u} J rv q=>⟨v,H',J.os,J.bare,J.base,J.hok,rv,q⟩
 cases fl with
 | ret u =>
  obtain⟨v,σ',H',J,rv,q⟩:=hs
  exact fin J rv q
 | next =>
  obtain⟨σ',H',J,q⟩:=hs
  exact fin (v:=V.non) (u:=Value.none) J rfl q
 | brk =>
  obtain⟨_,_,_,q⟩:=hs
  exact False.elim q
 | cont =>
  obtain⟨_,_,_,q⟩:=hs
  exact False.elim q
section
variable {X:Cx}{x:Str}{p pos:Pos}{e:Expr}{es:List Expr}{t:TA}{id T:String}{r:List V->Hp->VK->Prop}
def tCB(r:List V->Hp->VK->Prop)(t:TA):TE:=λσ H Q=>t σ H λvs H1=>r vs H1 Q
theorem ck(hc:oY X (.builtin id) r)(hg:Gl X x)(hm:X.mg x=none)(hv:bootBuiltins x=some (.builtin id))(ha:PA X (e::es) t)(hn:x≠"__name__":=by decide)(BP:(x==("__debug__" :Str))=false:=by decide)
  (he:starEach (e::es) X.env=(false,eval e X.env)::starEach es X.env:=by rfl)(Bn:(backTo pos (starEach es X.env)).any (·.1)=false:=by rfl):PE X (.Call (.Name x p) (e::es) [] pos) (tCB r t):=by
 intro pins s σ H Q I h;refine wpAny_Call_Name_kw (jH I hg hm hv ?_ hn BP)
 exact PyProof.Rows.callWith_builtin1 (thn (ha pos pins s σ H _ I h) λus s1 ⟨vs,H1,I1,r1,q1⟩=>hc pins s1 σ H1 vs us Q I1 r1 q1) he Bn
end
end L2
namespace HT
open PySem PyProof.Rows
theorem wN(A:Around)(s:Shared)(a:Int)(t:Tok)(c:Int)(u:Tok):∃e,SeqAt.EqAt A s (.int a t) (.int c u) e/\(e=true↔a=c) :=
 ⟨(a==c),SeqAt.EqAt.int_int a t c u,by simp⟩
section
open PySem.SeqAt
open PySem.AutoSeq1 (wpAny_loadPart')
open PySem.MeetsSeq PySem.MeetsSeq2 PySem.MeetsSeq3
end
section
variable {prog:Program}{w:World}{A:Around}{E:Value->Shared->Prop}{s:Shared}
def sIx(n d:Nat):Option Int->Nat
 | none=>d
 | some v=>if v<0 then(v+(n:Int)).toNat else min v.toNat n
theorem sIx_none(n d:Nat):sIx n d none=d:=rfl
theorem sIx_nat(n d k:Nat):sIx n d (some (k:Int))=min k n:=by
 show(if(k:Int)<0 then((k:Int)+(n:Int)).toNat else min (k:Int).toNat n)=min k n
 rw[ay (jg (cV _)),eV]
end
end HT
namespace L2
open PySem PySem.Spec PyProof.Rows
abbrev TO:=St->Hp->(Option Int->Hp->Prop)->Prop
def PO(X:Cx)(e:Option Expr)(t:TO):Prop :=
 ∀(pins:List (Addr×Obj))(s:Shared)(σ:St)(H:Hp)(Q:Option Int->Hp->Prop),Inv X pins σ H s->t σ H Q ->
  wpAny (model X.prog X.w) X.A (evalPart e X.env) (λu s'=>∃o H',Inv X pins σ H' s'/\IsPart u o/\Q o H') X.xe s
def xq:TO:=λξ H Q=>Q none H
def tPart(t:TE):TO:=λσ H Q=>t σ H λx H1=>∃i,x =.int i/\Q (some i) H1
theorem ox{ns:List Int}:∀{us:List Value},cJ (ns.map V.int) us->IntsAre us ns:=by
 induction ns with
 | nil=>intro us r;rw[List.map_nil]at r;cases r;exact .nil
 | cons n ns ih =>
  intro us r;rw[bj]at r;cases r with
  | cons r1 r2 =>
   obtain⟨t,e⟩:=r1
   subst e;exact .cons n t (ih r2)
section
variable {X:Cx}{e:Expr}{te:TE}{lo hi:Option Expr}{tl th:TO}{pos p2:Pos}
theorem qf:PO X none xq:=by
 intro pins s σ H Q I h;rw[evalPart_none];exact bM ⟨none,H,I,.none,h⟩
theorem gj(h:PE X e te):PO X (some e) (tPart te):=by
 intro pins s σ H Q I hw;rw[evalPart_some];refine thn (h pins s σ H _ I hw) λu s1 A9=>?_
 obtain⟨x,H1,I1,r1,q1⟩:=A9
 obtain⟨i,rfl,q⟩:=q1
 obtain⟨t,rfl⟩:=r1
 exact⟨some i,H1,I1,.int i t,q⟩
def SlR(X:Cx)(r:V->Option Int->Option Int->Hp->VK->Prop):Prop :=
 ∀(pins:List (Addr×Obj))(s:Shared)(σ:St)(H:Hp)(x:V)(v vl vu:Value)(lo hi:Option Int)(sl:Addr)(Q:VK),Inv X pins σ H s->dw x v->s.heap.IsSliceOf sl vl vu .none->IsPart vl lo->IsPart vu hi->r x lo hi H Q ->
  ∃T id,typeLookup (.type T) "__getitem__" =pure (some (.builtin id))/\s.TypeIs v T/\wpAny (model X.prog X.w) X.A (getItem v (.ref sl)) (EP X pins σ Q) X.xe s
def tSl(r:V->Option Int->Option Int->Hp->VK->Prop)(te:TE)(tl th:TO):TE:=λσ H Q=>te σ H λx H1=>tl σ H1 λl H2=>th σ H2 λu H3=>r x l u H3 Q
theorem iy{r:V->Option Int->Option Int->Hp->VK->Prop}(hr:SlR X r)(he:PE X e te)(hl:PO X lo tl)(hu:PO X hi th):PE X (.Subscript e (.Slice lo hi none p2) pos) (tSl r te tl th):=by
 intro pins s σ H Q I h;refine Subscript_ (thn (he pins s σ H _ I h) λv s1 A9=>?_)
 obtain⟨x,H1,I1,r1,q1⟩:=A9
 refine wpAny_Slice (thn (hl pins s1 σ H1 _ I1 q1) λvl s2 ⟨l,H2,I2,pl,q2⟩=>thn (hu pins s2 σ H2 _ I2 q2) λvu s3 A9=>?_)
 obtain⟨u,H3,I3,pu,q3⟩:=A9
 rw[evalPart_none];refine bM ?_
 have I4:Inv X pins σ H3 { s3 with heap:=s3.heap.push { cls:=.type "slice",data:=.fields #[vl,vu,.none] } }:=I3.kept (t':=s3.toks) λb ob q=>aL _ q
 obtain⟨T,id,hT,ht,hg⟩:=hr pins { s3 with heap:=s3.heap.push { cls:=.type "slice",data:=.fields #[vl,vu,.none] } } σ H3 x v vl vu l u s3.heap.objs.size Q I4 r1 (Heap.IsSliceOf.new ..) pl pu q3
 show wpAny (model X.prog X.w) X.A (subscriptTail e (.Slice lo hi none p2) v (.ref s3.heap.objs.size)) (EP X pins σ Q) X.xe { s3 with heap:=s3.heap.push { cls:=.type "slice",data:=.fields #[vl,vu,.none] } }
 exact tail_any (ops:=[.ref s3.heap.objs.size,v]) ht hT hg (by with_unfolding_all rfl)
def pk(xs:List V)(lo hi:Option Int):List V:=(xs.drop (HT.sIx xs.length 0 lo)).take (HT.sIx xs.length xs.length hi-HT.sIx xs.length 0 lo)
theorem rW(xs:List V)(lo hi:Option Int):(pk xs lo hi).length<=xs.length:=by
 unfold pk;rw[aP,aD];lia
end
def ixN(n:Nat)(i:Int):Option Nat:=if 0<=i then(if i<n then some i.toNat else none)else if -(n:Int)<=i then some (i+n).toNat else none
def atI{α:Type}(xs:List α)(i:Int):Option α:=(ixN xs.length i).bind λj=>xs[j]?
theorem um{n:Nat}{i:Int}{j:Nat}(h:ixN n i=some j):seqIndex? i n=some j/\j<n/\-(n:Int)<=i/\i<n:=by
 unfold ixN at h;by_cases h0:0<=i
 .rw[ax h0]at h;by_cases h1:i<n
  .rw[ax h1]at h;have e:i.toNat=j:=aV h
   exact⟨by rw[seqIndex_of h0 h1,e],by lia,by lia,h1⟩
  .rw[ay h1]at h;cases h
 .rw[ay h0]at h;by_cases h1:-(n:Int)<=i
  .rw[ax h1]at h;have e:(i+n).toNat=j:=aV h
   exact⟨by rw[seqIndex_neg (fP h0) h1,e],by lia,h1,by lia⟩
  .rw[ay h1]at h;cases h
theorem yR{α:Type}{xs:List α}{i:Int}{v:α}(h:atI xs i=some v):∃j,seqIndex? i xs.length=some j/\xs[j]? =some v/\j<xs.length/\-(xs.length:Int)<=i/\i<xs.length:=by
 unfold atI at h;cases e:ixN xs.length i with
 | none=>rw[e]at h;cases h
 | some j =>
  rw[e]at h;obtain⟨h1,h2,h3,h4⟩:=um e
  exact⟨j,h1,h,h2,h3,h4⟩
theorem iN{α:Type}{xs:List α}{j:Nat}{v:α}(h:xs[j]? =some v):atI xs (j:Int)=some v:=by
 have hj:j<xs.length:=(aK.mp h).1
 have e:ixN xs.length (j:Int)=some j:=by
  unfold ixN;rw[ax (cV _),ax (ciL hj)];simp
 unfold atI;rw[e];exact h
theorem fD{α:Type}(xs:List α)(v:α):atI (xs++[v]) (-1)=some v:=by
 have hl:(xs++[v]).length=xs.length+1:=by simp
 have e:ixN (xs++[v]).length (-1)=some xs.length:=by
  unfold ixN;rw[hl,ay (by decide),ax (by lia)]
  congr 1
  lia
 unfold atI;rw[e];show(xs++[v])[xs.length]? =some v
 simp
def yX(b:Expr):Prop:=∀o i,subscripted b false o i=operate [o,i] (getItem o i)
def IxR(X:Cx)(r:R2):Prop :=
 ∀(value slice:Expr)(pins:List (Addr×Obj))(s:Shared)(σ:St)(H:Hp)(x y:V)(v u:Value)(Q:VK),Inv X pins σ H s->dw x v->dw y u->r x y H Q ->
  subscripted slice false v u=operate [v,u] (getItem v u)->wpAny (model X.prog X.w) X.A (subscriptTail value slice v u) (EP X pins σ Q) X.xe s
def MtR(X:Cx)(id:String)(r:V->List V->Hp->VK->Prop):Prop :=
 ∀(pins:List (Addr×Obj))(s:Shared)(σ:St)(H:Hp)(x:V)(xs:List V)(v:Value)(us:List Value)(Q:VK),Inv X pins σ H s->dw x v->cJ xs us->r x xs H Q ->
  wpAny (model X.prog X.w) X.A (call (.builtin id) (v::us)) (EP X pins σ Q) X.xe s
section
variable {X:Cx}{a b:Expr}{ta tb:TE}{pos:Pos}
theorem dJ{r:R2}(hr:IxR X r)(ha:PE X a ta)(hb:PE X b tb)(hs:yX b):PE X (.Subscript a b pos) (tOp r ta tb):=by
 intro pins s σ H Q I h;exact Subscript_ (AS ha hb I h λv u s2 x y H2 I2 rx ry q=>hr a b pins s2 σ H2 x y v u Q I2 rx ry q (hs _ _))
def rIxL(K:Fg_):R2:=λx y H Q=>∃p xs i v,x =.ref p/\y =.int i/\SqL K H p xs/\atI xs i=some v/\Q v H
theorem cx:IxR X (rIxL X.K):=by
 intro value slice pins s σ H x y v u Q I rx ry h hs;obtain⟨p,xs,i,z,rfl,rfl,hq,he,q⟩:=h
 cases rx;obtain⟨t,rfl⟩:=ry
 obtain⟨AX,r,pl,hz⟩:=I.list hq
 obtain⟨j,h1,h2,h3,h4,h5⟩:=yR he
 obtain⟨w,ew,Mf⟩:=r.get h2
 have hl:=r.length
 have hn:=qs
 have fin:EP X pins σ Q w s:=⟨z,H,I,Mf,q⟩
 by_cases h0:0<=i
 .have hj:i.toNat=j:=by
   rw[seqIndex_of h0 h5]at h1;exact aV h1
  exact item_listR pl.isList h0 (by lia) (by rw[hj];simpa using ew) fin hs
 .have hj:(i+(AX.toArray.size:Int)).toNat=j:=by
   rw[seqIndex_neg (fP h0) h4]at h1;rw[aU,<-hl];exact aV h1
  exact subscriptTail_builtinR (x:=w) pl.isList.typeIs slot_list_getitem.lookup
   (wpAny_getItem_list_neg (Q:=λr s'=>r=w/\EP X pins σ Q r s') pl.isList (fP h0) (by rw[aU]<;>lia) (by lia) (by rw[hj];simpa using ew) ⟨rfl,fin⟩) hs
theorem sY(AX:List Value)(n j:Nat)(u:Value):Obj.mapSeq (·.setIfInBounds j u) { cls:=.type "list",data:=.seq AX.toArray n }={ cls:=.type "list",data:=.seq (AX.set j u).toArray n }:=by
 simp[Obj.mapSeq]
theorem Inv.lst{pins:List (Addr×Obj)}{σ:St}{H:Hp}{s:Shared}{p:Addr}{xs:List V}(I:Inv X pins σ H s)(h:H p=some (.lst xs)) :
  ∃(AX:List Value)(n:Nat),cJ xs AX/\s.heap.get? p=some { cls:=.type "list",data:=.seq AX.toArray n }/\xs.length<=sizeLine:=by
 obtain⟨z,AX,n,r,e⟩:=I.hok p _ h
 exact⟨AX,n,r,e,z⟩
theorem Inv.lstUpd{pins:List (Addr×Obj)}{σ:St}{H:Hp}{s:Shared}{p:Addr}{xs ys:List V}{AX its':List Value}{n n':Nat}{f:Obj->Obj}(I:Inv X pins σ H s)(h:H p=some (.lst xs))
  (ho:s.heap.get? p=some { cls:=.type "list",data:=.seq AX.toArray n })(hf:f { cls:=.type "list",data:=.seq AX.toArray n }={ cls:=.type "list",data:=.seq its'.toArray n' })(r:cJ ys its')(hz:ys.length<=sizeLine)(t:Nat) :
  Inv X pins σ (upd H p (.lst ys)) { s with heap:=s.heap.update p f,toks:=t }:=by
 have e:(s.heap.update p f).get? p=some { cls:=.type "list",data:=.seq its'.toArray n' }:=by
  rw[Heap.get?_update_self f ho (by rw[hf]<;>rfl),hf]
 refine I.write (x:=p) (e:=p) (by rw[h];trivial) (.inl rfl) (λb u hb q=>(Heap.get?_update_other _ _ (ba hb)).trans q) ⟨_,e⟩ ?_
 exact⟨hz,its',n',r,e⟩
def zb:V->V->V->Hp->(Hp->Prop)->Prop:=λo i v H Q=>∃p xs k j,o =.ref p/\i =.int k/\H p=some (.lst xs)/\ixN xs.length k=some j/\Q (upd H p (.lst (xs.set j v)))
theorem vQ:PSet X zb:=by
 intro pins s σ H o i v ov iv u Q I ro ri rv h;obtain⟨p,xs,k,j,rfl,rfl,hp,hj,q⟩:=h
 cases ro;obtain⟨t,rfl⟩:=ri
 obtain⟨AX,n,r,ho,hz⟩:=I.lst hp
 obtain⟨h1,h2,h3,h4⟩:=um hj
 have hl:=r.length
 have hn:=qs
 have I':Inv X pins σ (upd H p (.lst (xs.set j v))) { s with heap:=s.heap.update p (Obj.mapSeq (·.setIfInBounds j u)) } :=
  I.lstUpd hp ho (sY AX n j u) (r.set rv j) (by rw[List.length_set];exact hz) s.toks
 by_cases h0:0<=k
 .have hk:k.toNat=j:=by
   rw[seqIndex_of h0 h4]at h1;exact aV h1
  exact PySem.W.ki_setAt ho h0 (by lia) (by rw[aU,<-hl];exact h4) (by rw[hk];exact⟨_,I',q⟩)
 .have hk:(k+(AX.toArray.size:Int)).toNat=j:=by
   rw[seqIndex_neg (fP h0) h3]at h1;rw[aU,<-hl];exact aV h1
  exact PySem.W.ki_setBack ho (fP h0) (by rw[aU,<-hl];exact h3) (by lia) (by rw[hk];exact⟨_,I',q⟩)
theorem qb(lo hi:Option Int)(n:Nat):(sliceBounds lo hi none n).1=((HT.sIx n 0 lo:Nat):Int)/\(sliceBounds lo hi none n).2.1=((HT.sIx n n hi:Nat):Int)/\(sliceBounds lo hi none n).2.2=1:=by
 refine⟨?_,?_,rfl⟩
 .cases lo with
  | none=>simp[sliceBounds,HT.sIx]
  | some i =>
   simp only[sliceBounds,HT.sIx,Option.getD_none,show(1:Int)>0 by decide,if_true]
   by_cases h:i<0
   .simp only[h,if_true]<;>lia
   .simp only[h,if_false]<;>lia
 .cases hi with
  | none=>simp[sliceBounds,HT.sIx]
  | some i =>
   simp only[sliceBounds,HT.sIx,Option.getD_none,show(1:Int)>0 by decide,if_true]
   by_cases h:i<0
   .simp only[h,if_true]<;>lia
   .simp only[h,if_false]<;>lia
theorem pd(AX:List Value)(lo hi:Option Int):slicePick AX.toArray lo hi none=((AX.drop (HT.sIx AX.length 0 lo)).take (HT.sIx AX.length AX.length hi-HT.sIx AX.length 0 lo)).toArray:=by
 obtain⟨h1,h2,h3⟩:=qb lo hi AX.toArray.size
 unfold slicePick;rw[h1,h2,h3];simp only[sliceRange_one,pick_run,aU]<;>rfl
def rSlL(K:Fg_):V->Option Int->Option Int->Hp->VK->Prop:=λx lo hi H Q=>∃a xs,x =.ref a/\SqL K H a xs/\∀p,H p=none->Q (.ref p) (upd H p (.lst (pk xs lo hi)))
theorem jh:SlR X (rSlL X.K):=by
 intro pins s σ H x v vl vu lo hi sl Q I rx hs pl pu h;obtain⟨a,xs,rfl,hx,q⟩:=h
 cases rx;obtain⟨AX,r,ht,hz⟩:=I.list hx
 have hlen:=r.length
 refine⟨"list",_,slot_list_getitem.lookup,ht.isList.typeIs,?_⟩
 refine wpAny_getItem_list_slice ht.isList hs pl pu .none (by simp) ?_ (by rw[aU]<;>lia)
 rw[pd,<-hlen];refine⟨.ref s.heap.objs.size,_,I.laid (t':=s.toks) (o:=.lst (pk xs lo hi)) (λb ob q=>aL _ q) (aF _) ?_,rfl,q _ (I.hok.fresh (aF _))⟩
 exact⟨bH (rW xs lo hi) hz,_,0,(r.drop (HT.sIx xs.length 0 lo)).take (HT.sIx xs.length xs.length hi-HT.sIx xs.length 0 lo),bx _ rfl⟩
def mM:V->Bool
 | .non=>true
 | .bl _=>true
 | .int _=>true
 | .str _=>true
 | _=>false
def eqV:V->V->Bool
 | .non,.non=>true
 | .bl a,.bl b=>a==b
 | .bl a,.int b=>(if a then 1 else 0)==b
 | .int a,.bl b=>a==(if b then 1 else 0)
 | .int a,.int b=>a==b
 | .str a,.str b=>a==b
 | _,_=>false
theorem AO{A:Around}{s:Shared}{y x:V}{u v:Value}(ry:dw y u)(rx:dw x v)(fy:mM y=true)(fx:mM x=true):SeqAt.EqAt A s u v (eqV y x):=by
 cases y with
 | non =>
  cases ry;cases x with
  | non=>cases rx;exact SeqAt.EqAt.same _
  | bl b=>cases rx;exact SeqAt.EqAt.none_bool b
  | int b=>obtain⟨t,rfl⟩:=rx;exact SeqAt.EqAt.none_int b t
  | str b=>obtain⟨t,rfl⟩:=rx;exact SeqAt.EqAt.none_str b t
  | _=>exact aW (show false=true from fx) aT
 | bl a =>
  cases ry;cases x with
  | non=>cases rx;exact SeqAt.EqAt.bool_none a
  | bl b=>cases rx;exact SeqAt.EqAt.bool_bool a b
  | int b=>obtain⟨t,rfl⟩:=rx;exact SeqAt.EqAt.bool_int a b t
  | str b=>obtain⟨t,rfl⟩:=rx;exact SeqAt.EqAt.bool_str a b t
  | _=>exact aW (show false=true from fx) aT
 | int a =>
  obtain⟨t',rfl⟩:=ry
  cases x with
  | non=>cases rx;exact SeqAt.EqAt.int_none a t'
  | bl b=>cases rx;exact SeqAt.EqAt.int_bool a t' b
  | int b=>obtain⟨t,rfl⟩:=rx;exact SeqAt.EqAt.int_int a t' b t
  | str b=>obtain⟨t,rfl⟩:=rx;exact SeqAt.EqAt.int_str a t' b t
  | _=>exact aW (show false=true from fx) aT
 | str a =>
  obtain⟨t',rfl⟩:=ry
  cases x with
  | non=>cases rx;exact SeqAt.EqAt.str_none a t'
  | bl b=>cases rx;exact SeqAt.EqAt.str_bool a t' b
  | int b=>obtain⟨t,rfl⟩:=rx;exact SeqAt.EqAt.str_int a t' b t
  | str b=>obtain⟨t,rfl⟩:=rx;exact SeqAt.EqAt.str_str a t' b t
  | _=>exact aW (show false=true from fx) aT
 | _=>exact aW (show false=true from fy) aT
def eqU(x:V)(u:Value):Bool:=match u with
 | .none=>eqV .non x
 | .bool b=>eqV (.bl b) x
 | .int i _=>eqV (.int i) x
 | .str z _=>eqV (.str z) x
 | _=>false
theorem wM{x y:V}{u:Value}(r:dw y u)(f:mM y=true):eqU x u=eqV y x:=by
 cases y with
 | non=>cases r;rfl
 | bl b=>cases r;rfl
 | int i=>obtain⟨t,rfl⟩:=r;rfl
 | str z=>obtain⟨t,rfl⟩:=r;rfl
 | _=>exact aW (show false=true from f) aT
theorem qI{x:V}:∀{xs:List V}{us:List Value},cJ xs us->xs.all mM=true->us.any (eqU x)=xs.any λy=>eqV y x
 | _,_,.nil,_=>rfl
 | y::xs,u::us,.cons r t,f=>by
  rw[gW,aE]at f;rw[List.any_cons,List.any_cons,wM r f.1,qI t f.2]
theorem oh{A:Around}{s:Shared}{x:V}{v:Value}(rx:dw x v)(fx:mM x=true):∀{xs:List V}{us:List Value},cJ xs us->xs.all mM=true->∀u∈us,SeqAt.EqAt A s u v (eqU x u)
 | _,_,.nil,_=>λu hu=>by cases hu
 | y::xs,u::us,.cons r t,f=>λu' hu=>by
  rw[gW,aE]at f;rcases aI.mp hu with rfl | hu
  .rw[wM r f.1];exact AO r rx f.1 fx
  .exact oh rx fx t f.2 u' hu
def inV(x:V)(xs:List V):Bool:=xs.any λy=>eqV y x
def rIn(K:Fg_)(neg:Bool):R2:=λx y H Q=>∃p xs,y =.ref p/\(SqL K H p xs\/SqT K H p xs)/\mM x=true/\xs.all mM=true/\Q (.bl (if neg then !inV x xs else inV x xs)) H
theorem iY:OpR X (compareOp .In) (rIn X.K false):=by
 intro pins s σ H x y v u Q I rx ry h;obtain⟨p,xs,rfl,hq,fx,fs,q⟩:=h
 cases ry;rcases hq with hq | hq
 .obtain⟨AX,r,pl,hz⟩:=I.list hq
  refine SeqAt.in_listAt (eqU x) pl.isList (λw hw=>oh rx fx r fs w (by simpa using hw)) ⟨.bl _,H,I,rfl,?_⟩
  rw[show AX.toArray.any (eqU x)=AX.any (eqU x)by simp,qI r fs]
  exact q
 .obtain⟨AX,r,pl,hz⟩:=I.tuple hq
  refine SeqAt.in_tupleAt (eqU x) pl (λw hw=>oh rx fx r fs w (by simpa using hw)) ⟨.bl _,H,I,rfl,?_⟩
  rw[show AX.toArray.any (eqU x)=AX.any (eqU x)by simp,qI r fs]
  exact q
theorem qF:oY X (.builtin "len") (λxs H Q=>∃p ys,xs=[.ref p]/\(SqL X.K H p ys\/SqT X.K H p ys)/\Q (.int ys.length) H):=by
 intro pins s σ H xs us Q I r h;obtain⟨p,ys,rfl,hq,q⟩:=h
 obtain⟨u,rfl,rx⟩:=y8 r
 cases rx;have hn:=qs
 rcases hq with hq | hq
 .obtain⟨AX,r',pl,hz⟩:=I.list hq
  have hlen:=r'.length
  exact Calls.call_len_list pl.isList (by simp only[aU]<;>lia) ⟨.int ys.length,H,I.tok _,⟨s.toks+1,by rw[aU,hlen]⟩,q⟩
 .obtain⟨AX,r',pl,hz⟩:=I.tuple hq
  have hlen:=r'.length
  exact len_tuple pl (by simp only[aU]<;>lia) ⟨.int ys.length,H,I.tok _,⟨s.toks+1,by rw[aU,hlen]⟩,q⟩
def tyV(K:Fg_)(T:String)(x:V)(H:Hp):Prop:=match x with
 | .str _=>T = "str"
 | .int _=>T = "int"
 | .ref p=>(T = "list"/\∃xs,SqL K H p xs)\/(T = "tuple"/\∃o,K.lookup p=some o/\o.cls =.type "tuple"/\o.dict=none) \/
   (T = "dict"/\((∃Br,H p=some (.dK Br))\/∃Br,H p=some (.dT Br)))\/(T = "set"/\∃S n,H p=some (.set S n))
 | _=>False
theorem vB{pins:List (Addr×Obj)}{σ:St}{H:Hp}{s:Shared}{T:String}{x:V}{v:Value}(I:Inv X pins σ H s)(r:dw x v)(ty:tyV X.K T x H) :
  s.TypeIs v T/\∀a,v =.ref a->∃ob,s.heap.get? a=some ob/\ob.dict=none:=by
 cases x with
 | str z =>
  obtain⟨t,rfl⟩:=r
  cases (show T = "str" from ty)
  exact⟨typeIs_str s z t,λξ e=>nomatch e⟩
 | int i =>
  obtain⟨t,rfl⟩:=r
  cases (show T = "int" from ty)
  exact⟨typeIs_int s i t,λξ e=>nomatch e⟩
 | ref p =>
  cases r;rcases ty with⟨rfl,xs,hq⟩ | ⟨rfl,o,hk,hc,hd⟩ | ⟨rfl,hk⟩ | ⟨rfl,S,n,hk⟩
  .obtain⟨AX,_,pl,_⟩:=I.list hq
   refine⟨pl.isList.typeIs,λa e=>?_⟩
   cases e;obtain⟨o,n,e,c,hd,_⟩:=pl
   exact⟨o,e,hd⟩
  .refine⟨⟨o,I.kIn p o hk,hc⟩,λa e=>?_⟩
   cases e;exact⟨o,I.kIn _ o hk,hd⟩
  .have z:∃o,s.heap.get? p=some o/\o.ExactDict:=by
    rcases hk with⟨Br,hk⟩ | ⟨Br,hk⟩
    .obtain⟨_,_,_,_,o,_,_,e,ex,_⟩:=I.hok p _ hk
     exact⟨o,e,ex⟩
    .obtain⟨_,_,_,_,o,_,_,e,ex,_⟩:=I.hok p _ hk
     exact⟨o,e,ex⟩
   obtain⟨o,e,ex⟩:=z
   refine⟨⟨o,e,ex.1⟩,λa e2=>?_⟩
   cases e2;exact⟨o,e,ex.2.1⟩
  .obtain⟨o,_,_,_,e,ex,_⟩:=I.hok p _ hk
   refine⟨⟨o,e,ex.1⟩,λa e2=>?_⟩
   cases e2;exact⟨o,e,ex.2.1⟩
 | _=>exact False.elim ty
def tBM0(K:Fg_)(T:String)(r:V->List V->Hp->VK->Prop)(to:TE):TE:=λσ H Q=>to σ H λx H1=>tyV K T x H1/\r x [] H1 Q
def tBM(K:Fg_)(T:String)(r:V->List V->Hp->VK->Prop)(to:TE)(t:TA):TE:=λσ H Q=>to σ H λx H1=>tyV K T x H1/\t σ H1 λxs H2=>r x xs H2 Q
variable {o e:Expr}{es:List Expr}{to:TE}{t:TA}{name:Str}{apos Bc:Pos}{T id:String}{r:V->List V->Hp->VK->Prop}
theorem qi(pa:PlainAttrs T)(slot:Slot T name id)(F8:typeOf (.builtin id)=pure (.type "method_descriptor"))(hm:MtR X id r)(ho:PE X o to)
  (ET:attributeBase o name X.env (eval o X.env)=eval o X.env:=by rfl)(EM:(apos.endLine==Bc.line)=true:=by rfl):PE X (.Call (.Attribute o name apos) [] [] Bc) (tBM0 X.K T r to):=by
 intro pins s σ H Q I h;refine wpAny_Call_method0_late ET EM (thn (ho pins s σ H _ I h) λv s1 A9=>?_)
 obtain⟨x,H1,I1,r1,ty,q1⟩:=A9
 obtain⟨h1,h2⟩:=vB I1 r1 ty
 exact⟨T,id,pa,slot,F8,h1,h2,Calls.callWith_builtin rfl (PySem.evalArgs_none (hm pins s1 σ H1 x [] v [] Q I1 r1 .nil q1))⟩
theorem iW(pa:PlainAttrs T)(slot:Slot T name id)(F8:typeOf (.builtin id)=pure (.type "method_descriptor"))(hm:MtR X id r)(ho:PE X o to)(ha:PA X (e::es) t)
  (ET:attributeBase o name X.env (eval o X.env)=eval o X.env:=by rfl)
  (Nt:((backTo Bc (starEach (e::es) X.env)).all (λx=>!x.1)&&(backToKw Bc (keywordEach [] X.env)).all (λx=>x.1.isSome)
   && decide ((e::es).length+([]:List Keyword).length+(if([]:List Keyword).isEmpty then 0 else 1)<30))=true:=by rfl)
  (EM:(apos.endLine==Bc.line)=true:=by rfl) (hs:starEach (e::es) X.env=(false,eval e X.env)::starEach es X.env:=by rfl) (Hu:(backTo Bc (starEach es X.env)).any (·.1)=false:=by rfl) :
  PE X (.Call (.Attribute o name apos) (e::es) [] Bc) (tBM X.K T r to t):=by
 intro pins s σ H Q I h;refine wpAny_Call_method_late ET Nt EM rfl (thn (ho pins s σ H _ I h) λv s1 A9=>?_)
 obtain⟨x,H1,I1,r1,ty,q1⟩:=A9
 obtain⟨h1,h2⟩:=vB I1 r1 ty
 refine⟨T,id,pa,slot,F8,h1,h2,?_⟩
 have hA:=ha Bc pins s1 σ H1 _ I1 q1
 rw[hs]at hA |-;refine Calls.callWith_builtin (by show(false||(backTo Bc (starEach es X.env)).any (·.1))=false;rw[Hu]<;>rfl) (Calls.evalArgs_plain ?_)
 exact thn hA λus s2 ⟨vs,H2,I2,r2,q2⟩=>hm pins s2 σ H2 x vs v us Q I2 r1 r2 q2
end
def MtM(X:Cx)(id:String)(r:V->List V->Hp->VK->Prop):Prop :=
 ∀(pins:List (Addr×Obj))(s:Shared)(σ:St)(H:Hp)(x:V)(xs:List V)(v:Value)(us:List Value)(Q:VK),Inv X pins σ H s->dw x v->cJ xs us->r x xs H Q ->
  wpAny (model X.prog X.w) X.A (call (.builtin id) (v::us)) (EP X pins σ Q) X.xe s
theorem cJ.one{x:V}{us:List Value}(h:cJ [x] us):∃u,us=[u]/\dw x u:=by
 cases h with
 | cons r t =>
  cases t;exact⟨_,rfl,r⟩
theorem cJ.zero:∀{us:List Value},cJ [] us->us=[]
 | _,.nil=>rfl
theorem cJ.dropLast{xs:List V}{us:List Value}(h:cJ xs us):cJ xs.dropLast us.dropLast:=by
 induction h with
 | nil=>exact .nil
 | cons r t ih =>
  cases t with
  | nil=>exact .nil
  | cons q t'=>exact .cons r ih
theorem cJ.eraseIdx:∀{xs:List V}{us:List Value}(i:Nat),cJ xs us->cJ (xs.eraseIdx i) (us.eraseIdx i)
 | _,_,_,.nil=>.nil
 | _,_,0,.cons _ t=>t
 | _,_,i+1,.cons r t=>.cons r (cJ.eraseIdx i t)
theorem cJ.reverse{xs:List V}{us:List Value}(h:cJ xs us):cJ xs.reverse us.reverse:=by
 induction h with
 | nil=>exact .nil
 | cons r t ih=>rw[eS,eS];exact cJ.append ih (.cons r .nil)
theorem tF{α:Type}(l:List α):l.eraseIdx (l.length-1)=l.dropLast:=by
 induction l with
 | nil=>rfl
 | cons a r ih =>
  cases r with
  | nil=>rfl
  | cons b r =>
   have e:(a::b::r).length-1=((b::r).length-1)+1:=by
    have h1:(a::b::r).length=r.length+2:=rfl
    have h2:(b::r).length=r.length+1:=rfl
    exact h2
   rw[e,List.eraseIdx_cons_succ,ih];all_goals rfl
theorem pQ{α:Type}:∀(l:List α)(i:Nat),(l.eraseIdx i).length<=l.length
 | [],_=>aF _
 | _::_,0=>Nat.le_succ _
 | _::r,i+1=>bO (pQ r i)
section
variable {X:Cx}{pins:List (Addr×Obj)}{σ:St}{H:Hp}{s:Shared}{l b:Addr}{xs ys zs:List V}
theorem Inv.lset{AX its':List Value}{n:Nat}{f:Array Value->Array Value}{t':Nat}(I:Inv X pins σ H s)(hH:H l=some (.lst xs))
  (e:s.heap.get? l=some { cls:=.type "list",data:=.seq AX.toArray n })(hf:f AX.toArray=its'.toArray)(hv:cJ ys its')(hz:ys.length<=sizeLine) :
  Inv X pins σ (upd H l (.lst ys)) { s with heap:=s.heap.update l (Obj.mapSeq f),toks:=t' }:=by
 have q:=PySem.IsL.update e f
 rw[hf]at q;refine I.write (x:=l) (e:=l) (by rw[hH];exact trivial) (.inl rfl) (λb' u hb hu=>(Heap.get?_update_other s.heap (Obj.mapSeq f) (ba hb)).trans hu) ⟨_,q⟩ ?_
 exact⟨hz,its',_,hv,q⟩
theorem Inv.lnew{AX:List Value}{t':Nat}(I:Inv X pins σ H s)(hv:cJ ys AX)(hz:ys.length<=sizeLine) :
  Inv X pins σ (upd H s.heap.objs.size (.lst ys)) { s with heap:=s.heap.push { cls:=.type "list",data:=.seq AX.toArray },toks:=t' } :=
 I.laid (λξ ξ q=>aL _ q) (aF _) ⟨hz,AX,0,hv,bx _ rfl⟩
theorem Inv.fresh(I:Inv X pins σ H s):H s.heap.objs.size=none:=I.hok.fresh (aF _)
theorem Inv.lstM(I:Inv X pins σ H s)(hH:H l=some (.lst xs)):xs.length<=sizeLine/\∃(AX:List Value)(n:Nat),cJ xs AX/\xs.length=AX.length/\s.heap.get? l=some { cls:=.type "list",data:=.seq AX.toArray n }:=by
 obtain⟨z,AX,n,r,e⟩:=I.hok l _ hH
 exact⟨z,AX,n,r,r.length,e⟩
theorem wo{n:Nat}(h:n<=sizeLine):Builtin.List.listTooLong n=false:=by
 unfold Builtin.List.listTooLong;exact ai (eB h)
end
section
variable {X:Cx}
def yb:V->List V->Hp->VK->Prop:=λx vs H Q=>∃l xs y,x =.ref l/\vs=[y]/\H l=some (.lst xs)/\xs.length<sizeLine/\Q .non (upd H l (.lst (xs++[y])))
theorem i7:MtM X "list.append" yb:=by
 intro pins s σ H x vs v us Q I rx rv h;obtain⟨l,xs,y,rfl,rfl,hH,hz,q⟩:=h
 cases rx;obtain⟨u,rfl,ru⟩:=rv.one
 obtain⟨z,AX,n,r,hl,e⟩:=I.lstM hH
 refine call_meets F.slot_list_append ⟨_,e,rfl⟩ F.entry_list_append (F.args_list_append_2 _ _) (PySem.list_append l AX.toArray n u (by rw[aU];lia)) ⟨e,?_⟩
 refine⟨.non,_,I.lset (its':=AX++[u]) hH e (by simp) (r.append (.cons ru .nil)) ?_,rfl,q⟩
 rw[ae,a9];exact hz
def x9:V->List V->Hp->VK->Prop:=λx vs H Q=>∃l b xs zs,x =.ref l/\vs=[.ref b]/\H l=some (.lst xs)/\H b=some (.lst zs)/\xs.length+zs.length<=sizeLine/\Q .non (upd H l (.lst (xs++zs)))
theorem ir:MtM X "list.extend" x9:=by
 intro pins s σ H x vs v us Q I rx rv h;obtain⟨l,b,xs,zs,rfl,rfl,hH,hB,hz,q⟩:=h
 cases rx;obtain⟨u,rfl,ru⟩:=rv.one
 cases ru;obtain⟨z,AX,n,r,hl,e⟩:=I.lstM hH
 obtain⟨z2,BJ,n2,r2,B5,e2⟩:=I.lstM hB
 have hsz:AX.toArray.size+BJ.toArray.size<=sizeLine:=by rw[aU,aU];lia
 have J0:¬(!AX.toArray.isEmpty&&Builtin.List.listTooLong (AX.toArray.size+BJ.toArray.size))=true:=by
  rw[wo hsz,gC];exact aT
 refine call_meets F.slot_list_extend ⟨_,e,rfl⟩ F.entry_list_extend (F.args_list_extend_2 _ _)
  (AutoSeq1.list_extend_list_list_0 l AX.toArray n b BJ.toArray n2 J0 (by rw[aU];lia) (fA hsz)) ⟨e,e2,?_⟩
 refine⟨.non,_,I.lset (its':=AX++BJ) hH e (by simp) (r.append r2) ?_,rfl,q⟩
 rw[ae];exact hz
def rPop:V->List V->Hp->VK->Prop:=λx vs H Q=>∃l xs y,x =.ref l/\vs=[]/\H l=some (.lst xs)/\xs[xs.length-1]? =some y/\Q y (upd H l (.lst xs.dropLast))
theorem qo:MtM X "list.pop" rPop:=by
 intro pins s σ H x vs v us Q I rx rv h;obtain⟨l,xs,y,rfl,rfl,hH,hy,q⟩:=h
 cases rx;have MS:=rv.zero
 subst MS;obtain⟨z,AX,n,r,hl,e⟩:=I.lstM hH
 obtain⟨u,hu,ru⟩:=r.get hy
 have MI:AX.toArray[AX.toArray.size-1]? =some u:=by
  show AX.toArray[AX.length-1]? =some u
  rw[<-dP,<-hl];exact hu
 refine call_meets F.slot_list_pop ⟨_,e,rfl⟩ F.entry_list_pop (F.args_list_pop_1 _) (MeetsSeq.list_pop_last l AX.toArray n u MI (by rw[aU];lia)) ⟨e,?_⟩
 refine⟨y,_,I.lset (its':=AX.dropLast) hH e ?_ r.dropLast ?_,ru,q⟩
 .show AX.toArray.eraseIdxIfInBounds (AX.toArray.size-1)=AX.dropLast.toArray
  rw[aU,gD,tF]
 .rw[List.length_dropLast];lia
def Ar:V->List V->Hp->VK->Prop:=λx vs H Q=>∃l xs i k y,x =.ref l/\vs=[.int i]/\H l=some (.lst xs)/\-(2 ^ 63)<=i/\i<2 ^ 63/\seqIndex? i xs.length=some k/\xs[k]? =some y/\Q y (upd H l (.lst (xs.eraseIdx k)))
theorem wu:MtM X "list.pop" Ar:=by
 intro pins s σ H x vs v us Q I rx rv h;obtain⟨l,xs,i,k,y,rfl,rfl,hH,h1,h2,hk,hy,q⟩:=h
 cases rx;obtain⟨u,rfl,ru⟩:=rv.one
 obtain⟨t,rfl⟩:=ru
 obtain⟨z,AX,n,r,hl,e⟩:=I.lstM hH
 obtain⟨w,hw,Mf⟩:=r.get hy
 refine call_meets F.slot_list_pop ⟨_,e,rfl⟩ F.entry_list_pop (F.args_list_pop_2 _ _)
  (MeetsSeq.list_pop_at l AX.toArray n i t k w (fitsIndex_both h1 h2) (by rw[aU,<-hl];exact hk) (by rw[<-dP];exact hw) (by rw[aU];lia)) ⟨e,?_⟩
 refine⟨y,_,I.lset (its':=AX.eraseIdx k) hH e ?_ (r.eraseIdx k) ?_,Mf,q⟩
 .show AX.toArray.eraseIdxIfInBounds k=(AX.eraseIdx k).toArray
  rw[gD]
 .have:=pQ xs k
  lia
def rCat:R2:=λx y H Q=>∃l b xs zs,x =.ref l/\y =.ref b/\H l=some (.lst xs)/\H b=some (.lst zs)/\xs.length+zs.length<=sizeLine/\∀p,H p=none->Q (.ref p) (upd H p (.lst (xs++zs)))
theorem AB:OpR X (binaryOp .Add) rCat:=by
 intro pins s σ H x y v u Q I rx ry h;obtain⟨l,b,xs,zs,rfl,rfl,hH,hB,hz,q⟩:=h
 cases rx;cases ry;obtain⟨z,AX,n,r,hl,e⟩:=I.lstM hH
 obtain⟨z2,BJ,n2,r2,B5,e2⟩:=I.lstM hB
 refine PySem.P.add_list e e2 ?_ (by rw[aU,aU];lia)
 have ea:AX.toArray++BJ.toArray=(AX++BJ).toArray:=by simp
 rw[ea];exact⟨.ref _,_,I.lnew (t':=s.toks) (r.append r2) (by rw[ae];exact hz),rfl,q _ I.fresh⟩
end
section
variable {prog:Program}{w:World}{A:Around}{E:Value->Shared->Prop}{s:Shared}
end
section
variable {X:Cx}
end
end L2
namespace Att
open PySem PySem.W PySem.Calls PyProof.Rows
section
variable {prog:Program}{w:World}{A:Around}{E:Value->Shared->Prop}{s:Shared}{K:Frag}
end
end Att
namespace L2
open PySem PySem.Spec PyProof.Rows
def eY(s:Stmt)(j:Nat):Stmt:=match s with
 | .ClassDef _ _ _ body _ _ _ _ _ _ _=>body.getD j (.Pass ⟨0,0,0,0⟩)
 | _=>.Pass ⟨0,0,0,0⟩
def ig(s:Stmt):Arguments:=match s with
 | .FunctionDef _ a _ _ _ _ _ _ _ _=>a
 | _=>{ posonlyargs:=[],args:=[],vararg:=none,kwonlyargs:=[],kw_defaults:=[],kwarg:=none,defaults:=[] }
def fY(s:Stmt):List Stmt:=match s with
 | .FunctionDef _ _ b _ _ _ _ _ _ _=>b
 | _=>[]
def aS(s:Stmt):Scope:=match s with
 | .FunctionDef _ _ _ _ _ _ sc _ _ _=>sc
 | _=>{ kind:=.function,names:=[],isGenerator:=false,isCoroutine:=false }
abbrev CX0:CXT:=λξ ξ ξ ξ ξ ξ=>False
abbrev E0:XK:=λξ ξ ξ=>False
theorem cM{X:Cx}:hZ CX0 X E0:=λξ ξ ξ ξ ξ ξ ξ h=>h.elim
structure Fun(K:Fg_)(x qual:Str)(st:Stmt)(f:Addr)(fd:FuncData):Prop where
 ex:∃(oc:Value)(od:Option Addr)(kV doc pm:Value)(an:Option Addr)(AY ct:Value)(Ee:Array (Option Value)),
  fd=PySem.W.fnOf x qual (ig st) (fY st) (aS st) .none kV doc pm an AY ct/\K.lookup f=some ⟨oc,od,.func fd,Ee⟩/\PySem.W.codeIn K AY qual=true
 kp:PySem.W.keepIn K (.ref f)=true
section
variable {P:Program}{w:World}{K:Fg_}{mg:Str->Option Value}{base:Heap}
theorem Fun.ok{x qual:Str}{st:Stmt}{f:Addr}{fd:FuncData}{N ps:List Str}{k:Nat}{sp:Sp}(F:Fun K x qual st f fd)(S:bq N ps (aS st))(len:∀vs H Q E,sp vs H Q E->vs.length=ps.length)
  (B7:∀(AY:Value)(A:Around)(outer:List Env)(s:Shared)(H:Hp)(vs:List V)(Q:VK)(E:XK),cD k (A.deeper (envOfC qual (aS st) s.heap.objs.size f AY))->sp vs H Q E ->
   ∃t,PSs (cW CX0 P w K mg base N qual (aS st) f AY A outer s H E).nox (fY st) t/\t { nx:=λξ H'=>Q .non H',rt:=Q } (iU N vs) H):bQ P w K mg base CX0 (k+1) f fd ps sp:=by
 obtain⟨oc,od,kV,doc,pm,an,AY,ct,Ee,rfl,lk,Ea⟩:=F.ex
 refine zg lk Ea S len λA outer s H vs Q E hr Cn=>?_
 obtain⟨t,h,q⟩:=B7 AY A outer s H vs Q E hr Cn
 exact⟨t,h.nox,q⟩
theorem Fun.binds{x qual:Str}{st:Stmt}{f:Addr}{fd:FuncData}{ps:List Str}(F:Fun K x qual st f fd)
  (h:∀(kV doc pm:Value)(an:Option Addr)(AY ct:Value)(us:List Value),us.length=ps.length->bindArgs (PySem.W.fnOf x qual (ig st) (fY st) (aS st) .none kV doc pm an AY ct) ⟨us,[]⟩=pure (ps.zip us)):bZ K fd ps []:=by
 obtain⟨oc,od,kV,doc,pm,an,AY,ct,Ee,rfl,lk,Ea⟩:=F.ex
 exact .all (h kV doc pm an AY ct)
theorem fun_mk{x qual:Str}{st:Stmt}{f:Addr}{oc:Value}{od an:Option Addr}{Ee:Array (Option Value)}{kV doc pm AY ct:Value}(l:K.lookup f=some ⟨oc,od,.func (PySem.W.fnOf x qual (ig st) (fY st) (aS st) .none kV doc pm an AY ct),Ee⟩)
  (c:PySem.W.codeIn K AY qual=true)(k:PySem.W.keepIn K (.ref f)=true):Fun K x qual st f (PySem.W.fnOf x qual (ig st) (fY st) (aS st) .none kV doc pm an AY ct):=⟨⟨oc,od,kV,doc,pm,an,AY,ct,Ee,rfl,l,c⟩,k⟩
end
section
variable {X:Cx}
theorem pv(i:Nat){x:Str}{pos:Pos}(hN:X.N[i]? =some x:=by rfl)(hv:Vis X.env.scope x:=by first | exact Or.inl rfl | exact Or.inr (.inl rfl) | exact Or.inr (Or.inr rfl))(hd:(x==("__debug__" :Str))=false:=by decide)
  (Ea:(x==("__classdict__" :Str))=false:=by decide):PE X (.Name x pos) (sH i):=AA hN hv hd Ea
end
theorem cK{A B:Prop}(h:B):if false=true then A else B:=by
 rw[ay aT];exact h
theorem c9{A B:Prop}(h:A):if true=true then A else B:=by
 rw[ax rfl];exact h
theorem j9{c A B:Prop}[Decidable c](h1:c->A)(h2:¬c->B):if c then A else B:=by
 by_cases h:c
 .rw[ax h];exact h1 h
 .rw[ay h];exact h2 h
def bY(H H':Hp):Prop:=∀b o,H b=some o->H' b=some o
theorem bY.trans{H H1 H2:Hp}(a:bY H H1)(b:bY H1 H2):bY H H2:=λc o h=>b c o (a c o h)
theorem bY.free{H H':Hp}(e:bY H H'){l:Addr}(h:H' l=Option.none):H l=Option.none:=by
 cases q:H l with
 | none=>rfl
 | some o =>
  rw[e l o q]at h;cases h
theorem bY.seq{K:Fg_}{H H':Hp}{a:Addr}{xs:List V}(e:bY H H')(h:SqL K H a xs):SqL K H' a xs:=by
 rcases h with(h | ⟨o,h⟩) | h
 .exact .inl (.inl (e _ _ h))
 .exact .inl (.inr ⟨o,e _ _ h⟩)
 .exact .inr h
theorem jY{xs:List V}{z:Int}{j:Nat}{v:V}(e:z=(j:Int))(h:xs[j]? =some v):atI xs z=some v:=by
 rw[e];exact iN h
theorem bY.made{H H1:Hp}{x dx C:Addr}(nx:H x=Option.none)(nd:H dx=Option.none)(k:∀b o,(upd (upd H dx (.own x)) x (.ins C dx [])) b=some o->b≠x->H1 b=some o):bY H H1:=λb o e =>
 k b o (by rw[aj (ag e nx),aj (ag e nd)];exact e) (ag e nx)
open PySem.W (WData Codec OpenSpec Well WellAll ReadsW ReadsAllW)
mutual
inductive Dw(K:Fg_)(H:Hp):V->WData->Prop
 | non:Dw K H .non .none
 | bl (b:Bool):Dw K H (.bl b) (.bool b)
 | int (i:Int):Dw K H (.int i) (.int i)
 | str (x:Str):Dw K H (.str x) (.str x)
 | byt (b:Array UInt8):Dw K H (.byt b) (.bytes b.toList)
 | lst {a:Addr} {xs:List V} {ds:List WData}:SqL K H a xs->DwAll K H xs ds->Dw K H (.ref a) (.list ds)
 | tup {a:Addr} {xs:List V} {ds:List WData}:SqT K H a xs->DwAll K H xs ds->Dw K H (.ref a) (.tuple ds)
inductive DwAll(K:Fg_)(H:Hp):List V->List WData->Prop
 | nil:DwAll K H [] []
 | cons {v:V} {vs:List V} {d:WData} {ds:List WData}:Dw K H v d->DwAll K H vs ds->DwAll K H (v::vs) (d::ds)
end
theorem yO{K:Fg_}{H:Hp}:∀ns:List Int,DwAll K H (ns.map V.int) (ns.map WData.int)
 | []=>.nil
 | n::r=>.cons (.int n) (yO r)
theorem yG{K:Fg_}{H:Hp}:∀(ns:List Int)(xs:List V),DwAll K H xs (ns.map WData.int)->xs=ns.map V.int
 | [],xs,h=>by
  cases h;rfl
 | n::r,xs,h=>by
  cases h with
  | cons h1 h2 =>
   cases h1;rw[yG r _ h2]<;>rfl
section
variable {P:Program}{w:World}{K:Fg_}{H:Hp}{h:Heap}{R:PySem.W.WRecords}{cl:Str->Option Addr}
theorem zB{a:Addr}{xs:List V}(hok:HOk P w H h)(KX:K.In h)(q:SqL K H a xs):∃(AX:List Value)(o:Obj)(n:Nat),cJ xs AX/\h.get? a=some o/\o.cls =.type "list"/\o.data =.seq AX.toArray n:=by
 rcases q with q | ⟨o,AX,n,e,hc,_,hd,_,hv⟩
 .obtain⟨_,AX,n,hv,e⟩:=(show fe P w H h a (.lst xs)from q.ok hok)
  exact⟨AX,_,n,hv,e,rfl,rfl⟩
 .exact⟨AX.toList,o,n,hv,KX _ _ e,hc,by simp[hd]⟩
theorem zA{a:Addr}{xs:List V}(hok:HOk P w H h)(KX:K.In h)(q:SqT K H a xs):∃(AX:List Value)(o:Obj)(n:Nat),cJ xs AX/\h.get? a=some o/\o.cls =.type "tuple"/\o.data =.seq AX.toArray n:=by
 rcases q with q | ⟨o,AX,n,e,hc,hd,_,hv⟩
 .obtain⟨_,AX,hv,o,e,hc,n,hd⟩:=(show fe P w H h a (.tup xs)from q.ok hok)
  exact⟨AX,o,n,hv,e,hc,hd⟩
 .exact⟨AX.toList,o,n,hv,KX _ _ e,hc,by simp[hd]⟩
mutual
theorem Dw.reads(hok:HOk P w H h)(KX:K.In h):∀(d:WData)(v:V)(u:Value),Dw K H v d->dw v u->∃as,ReadsW R cl h u d as
 | .none,_,_,x,r=>by
  cases x;cases r;exact⟨_,ReadsW.none⟩
 | .bool b,_,_,x,r=>by
  cases x;cases r;exact⟨_,ReadsW.bool b⟩
 | .int i,_,_,x,r=>by
  cases x;obtain⟨t,rfl⟩:=r
  exact⟨_,ReadsW.int i t⟩
 | .str s,_,_,x,r=>by
  cases x;obtain⟨t,rfl⟩:=r
  exact⟨_,ReadsW.str s t⟩
 | .bytes b,_,_,x,r=>by
  cases x;obtain⟨t,rfl⟩:=r
  exact⟨_,ReadsW.bytes _ t⟩
 | .list ds,_,_,x,r=>by
  cases x with
  | lst hs ha =>
   cases r;obtain⟨AX,o,n,rv,ho,hc,hd⟩:=zB hok KX hs
   obtain⟨as,hr⟩:=Dw.readsAll hok KX ds _ AX ha rv
   exact⟨_,ReadsW.list ho hc hd hr⟩
 | .tuple ds,_,_,x,r=>by
  cases x with
  | tup hs ha =>
   cases r;obtain⟨AX,o,n,rv,ho,hc,hd⟩:=zA hok KX hs
   obtain⟨as,hr⟩:=Dw.readsAll hok KX ds _ AX ha rv
   exact⟨_,ReadsW.tuple ho hc hd hr⟩
 | .float _,_,_,x,_=>by cases x
 | .dict _,_,_,x,_=>by cases x
 | .bytearray _,_,_,x,_=>by cases x
 | .set _,_,_,x,_=>by cases x
 | .frozenset _,_,_,x,_=>by cases x
 | .obj _ _,_,_,x,_=>by cases x
theorem Dw.readsAll(hok:HOk P w H h)(KX:K.In h):∀(ds:List WData)(vs:List V)(us:List Value),DwAll K H vs ds->cJ vs us->∃as,ReadsAllW R cl h us ds as
 | [],_,_,x,r=>by
  cases x;cases r;exact⟨_,ReadsAllW.nil⟩
 | d::ds,_,_,x,r=>by
  cases x with
  | cons h1 h2 =>
   cases r with
   | cons r1 r2 =>
    obtain⟨as,q1⟩:=Dw.reads hok KX d _ _ h1 r1
    obtain⟨bs,q2⟩:=Dw.readsAll hok KX ds _ _ h2 r2
    exact⟨_,ReadsAllW.cons q1 q2⟩
end
end
mutual
noncomputable def plW:WData->Bool
 | .none=>true
 | .bool _=>true
 | .int _=>true
 | .str _=>true
 | .bytes _=>true
 | .list xs=>plWs xs
 | .tuple xs=>plWs xs
 | _=>false
noncomputable def plWs:List WData->Bool
 | []=>true
 | x::r=>plW x&&plWs r
end
theorem rA{α:Type}{f:α->WData}(h:∀a,plW (f a)=true):∀l:List α,plWs (l.map f)=true
 | []=>rfl
 | x::r=>by
  show(plW (f x)&&plWs (r.map f))=true
  rw[h x,rA h r]<;>rfl
theorem jC:∀(c:Codec)(a:c.denote),plW (c.enc a)=true
 | .unit,_=>rfl
 | .bool,_=>rfl
 | .int _ _,_=>rfl
 | .nat _ _,_=>rfl
 | .u8,_=>rfl
 | .bytes _ _,_=>rfl
 | .text _ _ _ _,_=>rfl
 | .list _ _ c,a=>rA (λx=>jC c x) a
 | .pair c d,a=>by
  show(plW (c.enc a.1)&&(plW (d.enc a.2)&&true))=true
  rw[jC c a.1,jC d a.2]<;>rfl
 | .triple c d e,a=>by
  show(plW (c.enc a.1)&&(plW (d.enc a.2.1)&&(plW (e.enc a.2.2)&&true)))=true
  rw[jC c a.1,jC d a.2.1,jC e a.2.2]<;>rfl
 | .option c,none=>rfl
 | .option c,some x=>jC c x
theorem pK:∀(cs:List Codec)(a:Codec.denoteAll cs),plWs (Codec.encAll cs a)=true
 | [],_=>rfl
 | c::cs,a=>by
  show(plW (c.enc a.1)&&plWs (Codec.encAll cs a.2))=true
  rw[jC c a.1,pK cs a.2]<;>rfl
theorem jZ:∀{xs:List WData}{d:WData},d∈xs->d.weight<=WData.weightAll xs
 | [],d,h=>aW h (by simp)
 | x::r,d,h=>by
  show d.weight<=x.weight+1+WData.weightAll r
  rcases aI.mp h with e | m
  .rw[e];exact cq (b8 _ _)
  .have z:=jZ m
   exact bH z (a8 _ _)
def toV:Value->V
 | .none=>.non
 | .bool b=>.bl b
 | .int i _=>.int i
 | .str x _=>.str x
 | .bytes b _=>.byt b
 | .ref a=>.ref a
 | _=>.non
def OkU(A:List Addr):Value->Prop
 | .none=>True
 | .bool _=>True
 | .int _ _=>True
 | .str _ _=>True
 | .bytes _ _=>True
 | .ref a=>a∈A
 | _=>False
theorem OkU.mono{A B:List Addr}(h:∀a∈A,a∈B):∀{u:Value},OkU A u->OkU B u:=λ{u} x=>by
 cases u with
 | ref a=>exact h a x
 | none=>trivial
 | bool b=>trivial
 | int i t=>trivial
 | str s t=>trivial
 | bytes b t=>trivial
 | _=>exact False.elim x
theorem vZ{A:List Addr}{u:Value}(x:OkU A u):dw (toV u) u:=by
 cases u with
 | ref a=>rfl
 | none=>rfl
 | bool b=>rfl
 | int i t=>exact⟨t,rfl⟩
 | str s t=>exact⟨t,rfl⟩
 | bytes b t=>exact⟨t,rfl⟩
 | _=>exact False.elim x
theorem iT{A:List Addr}:∀{vs:List Value},(∀u∈vs,OkU A u)->cJ (vs.map toV) vs
 | [],_=>.nil
 | u::r,h=>.cons (vZ (h u (a7 ..))) (iT λx hx=>h x (aA _ hx))
def jy(h:Heap)(A:List Addr)(a:Addr):Prop:=∃vs:List Value,vs.length<=sizeLine/\(∀u∈vs,OkU A u) /\
 (h.get? a=some { cls:=.type "list",data:=.seq vs.toArray }\/h.get? a=some { cls:=.type "tuple",data:=.seq vs.toArray })
theorem jy.mono{h:Heap}{A B:List Addr}{a:Addr}(k:∀a∈A,a∈B)(x:jy h A a):jy h B a:=by
 obtain⟨vs,h1,h2,h3⟩:=x
 exact⟨vs,h1,λu hu=>(h2 u hu).mono k,h3⟩
theorem iJ{P:Params}{h:Heap}{vs:List Value}{ds:List WData}(k:WellAll P h vs ds):vs.length=ds.length:=by
 cases k with
 | nil=>rfl
 | cons _ b =>
  show _+1=_+1
  rw[iJ b]
theorem pA{P:Params}{h:Heap}{v:Value}{ds:List WData}(x:Well P h v (.list ds)):∃(a:Addr)(vs:List Value),v =.ref a/\h.get? a=some { cls:=.type "list",data:=.seq vs.toArray }/\WellAll P h vs ds:=by
 cases x with
 | list ho Bw=>exact⟨_,_,rfl,ho,Bw⟩
theorem nv{P:Params}{h:Heap}{v:Value}{ds:List WData}(x:Well P h v (.tuple ds)):∃(a:Addr)(vs:List Value),v =.ref a/\h.get? a=some { cls:=.type "tuple",data:=.seq vs.toArray }/\WellAll P h vs ds:=by
 cases x with
 | tuple ho Bw=>exact⟨_,_,rfl,ho,Bw⟩
theorem pB{P:Params}{h:Heap}{us:List Value}{d:WData}{ds:List WData}(x:WellAll P h us (d::ds)):∃(v:Value)(vs:List Value),us=v::vs/\Well P h v d/\WellAll P h vs ds:=by
 cases x with
 | cons a b=>exact⟨_,_,rfl,a,b⟩
theorem uk{n:Nat}(h:n<=1048576):n<=sizeLine:=bH h (by decide)
section
variable {P:Params}{h:Heap}
mutual
theorem w9:∀(d:WData)(v:Value),Well P h v d->plW d=true->d.weight<=1048576->∃A:List Addr,OkU A v/\∀a∈A,jy h A a
 | .none,_,x,_,_=>by
  cases x;exact⟨[],trivial,λa m=>aW m (by simp)⟩
 | .bool b,_,x,_,_=>by
  cases x;exact⟨[],trivial,λa m=>aW m (by simp)⟩
 | .int i,_,x,_,_=>by
  cases x;exact⟨[],trivial,λa m=>aW m (by simp)⟩
 | .str s,_,x,_,_=>by
  cases x;exact⟨[],trivial,λa m=>aW m (by simp)⟩
 | .bytes b,_,x,_,_=>by
  cases x;exact⟨[],trivial,λa m=>aW m (by simp)⟩
 | .list ds,_,x,p,z=>by
  obtain⟨a,vs,rfl,ho,Bw⟩:=pA x
  have z2:WData.weightAll ds<=1048576:=z
  obtain⟨A,h1,h2⟩:=area_all ds _ Bw p λd hd=>bH (jZ hd) z2
  have k:∀b∈A,b∈a::A:=λb hb=>aA _ hb
  refine⟨a::A,a7 ..,λb hb=>?_⟩
  rcases aI.mp hb with e | m
  .rw[e];exact⟨vs,uk (by rw[iJ Bw];exact bH (PySem.W.length_le_weightAllW ds) z2),λu hu=>(h1 u hu).mono k,.inl ho⟩
  .exact(h2 b m).mono k
 | .tuple ds,_,x,p,z=>by
  obtain⟨a,vs,rfl,ho,Bw⟩:=nv x
  have z2:WData.weightAll ds<=1048576:=z
  obtain⟨A,h1,h2⟩:=area_all ds _ Bw p λd hd=>bH (jZ hd) z2
  have k:∀b∈A,b∈a::A:=λb hb=>aA _ hb
  refine⟨a::A,a7 ..,λb hb=>?_⟩
  rcases aI.mp hb with e | m
  .rw[e];exact⟨vs,uk (by rw[iJ Bw];exact bH (PySem.W.length_le_weightAllW ds) z2),λu hu=>(h1 u hu).mono k,.inr ho⟩
  .exact(h2 b m).mono k
 | .float _,_,_,p,_=>Bool.noConfusion (show false=true from p)
 | .dict _,_,_,p,_=>Bool.noConfusion (show false=true from p)
 | .bytearray _,_,_,p,_=>Bool.noConfusion (show false=true from p)
 | .set _,_,_,p,_=>Bool.noConfusion (show false=true from p)
 | .frozenset _,_,_,p,_=>Bool.noConfusion (show false=true from p)
 | .obj _ _,_,_,p,_=>Bool.noConfusion (show false=true from p)
theorem area_all:∀(ds:List WData)(vs:List Value),WellAll P h vs ds->plWs ds=true->(∀d∈ds,d.weight<=1048576)->∃A:List Addr,(∀u∈vs,OkU A u)/\∀a∈A,jy h A a
 | [],_,x,_,_=>by
  cases x;exact⟨[],λu m=>aW m (by simp),λa m=>aW m (by simp)⟩
 | d::ds,_,x,p,z=>by
  obtain⟨v,vs,rfl,x1,x2⟩:=pB x
  have q:plW d=true/\plWs ds=true:=Bool.and_eq_true_iff.mp p
  obtain⟨A,a1,a2⟩:=w9 d v x1 q.1 (z d (a7 ..))
  obtain⟨B,b1,b2⟩:=area_all ds vs x2 q.2 λe he=>z e (aA _ he)
  have kA:∀b∈A,b∈A++B:=λb hb=>aM.mpr (.inl hb)
  have kB:∀b∈B,b∈A++B:=λb hb=>aM.mpr (.inr hb)
  refine⟨A++B,λu hu=>?_,λb hb=>?_⟩
  .rcases aI.mp hu with e | m
   .rw[e];exact a1.mono kA
   .exact(b1 u m).mono kB
  .rcases aM.mp hb with m | m
   .exact(a2 b m).mono kA
   .exact(b2 b m).mono kB
end
end
def yH(o:Obj):Option HO:=match o.data with
 | .seq vs _=>if(o.cls==Value.type "list")=true then some (.frz o (.lst (vs.toList.map toV)))else some (.frz o (.tup (vs.toList.map toV)))
 | _=>none
def jr(K:Fg_)(h:Heap)(A:List Addr):Hp:=λb=>if b∈A then(if(K.lookup b).isNone=true then(h.get? b).bind yH else none)else none
def si(H:Hp):Prop:=∀b,H b=none\/∃o u,H b=some (.frz o u)
theorem rQ(vs:List Value):yH { cls:=.type "list",data:=.seq vs.toArray }=some (.frz { cls:=.type "list",data:=.seq vs.toArray } (.lst (vs.map toV))):=by
 show(if(Value.type "list"==Value.type "list")=true then some (HO.frz { cls:=.type "list",data:=.seq vs.toArray } (.lst (vs.toArray.toList.map toV)))else some (HO.frz { cls:=.type "list",data:=.seq vs.toArray } (.tup (vs.toArray.toList.map toV))))=_
 rw[ax (beq_self_eq_true _)]
theorem rP(vs:List Value):yH { cls:=.type "tuple",data:=.seq vs.toArray }=some (.frz { cls:=.type "tuple",data:=.seq vs.toArray } (.tup (vs.map toV))):=by
 show(if(Value.type "tuple"==Value.type "list")=true then some (HO.frz { cls:=.type "tuple",data:=.seq vs.toArray } (.lst (vs.toArray.toList.map toV)))else some (HO.frz { cls:=.type "tuple",data:=.seq vs.toArray } (.tup (vs.toArray.toList.map toV))))=_
 rw[ay (by decide)]
section
variable {P:Program}{w:World}{K:Fg_}{h:Heap}{A:List Addr}
theorem nk{b:Addr}{o:Obj}(hb:b∈A)(hk:K.lookup b=none)(e:h.get? b=some o):jr K h A b=yH o:=by
 unfold jr;rw[ax hb,hk,ax (show(none:Option Obj).isNone=true from rfl),e]<;>rfl
theorem yu{b:Addr}{u:HO}(q:jr K h A b=some u):b∈A/\K.lookup b=none:=by
 unfold jr at q;by_cases hb:b∈A
 .rw[ax hb]at q;cases hk:K.lookup b with
  | none=>exact⟨hb,rfl⟩
  | some o =>
   rw[hk,ay (by simp)]at q
   cases q
 .rw[ay hb]at q;cases q
theorem nj(ar:∀a∈A,jy h A a){b:Addr}{u:HO}(q:jr K h A b=some u):K.lookup b=none/\∃vs:List Value,vs.length<=sizeLine/\(∀u∈vs,OkU A u) /\
  ((h.get? b=some { cls:=.type "list",data:=.seq vs.toArray }/\u =.frz { cls:=.type "list",data:=.seq vs.toArray } (.lst (vs.map toV))) \/
   (h.get? b=some { cls:=.type "tuple",data:=.seq vs.toArray }/\u =.frz { cls:=.type "tuple",data:=.seq vs.toArray } (.tup (vs.map toV)))):=by
 obtain⟨hb,hk⟩:=yu q
 obtain⟨vs,h1,h2,h3⟩:=ar b hb
 refine⟨hk,vs,h1,h2,?_⟩
 rcases h3 with e | e
 .rw[nk hb hk e,rQ]at q;exact .inl ⟨e,(aV q).symm⟩
 .rw[nk hb hk e,rP]at q;exact .inr ⟨e,(aV q).symm⟩
theorem vn(ar:∀a∈A,jy h A a):si (jr K h A):=λb=>by
 cases q:jr K h A b with
 | none=>exact .inl rfl
 | some u =>
  obtain⟨_,vs,_,_,⟨_,e⟩ | ⟨_,e⟩⟩:=nj ar q
  .exact .inr ⟨_,_,by rw[e]⟩
  .exact .inr ⟨_,_,by rw[e]⟩
theorem yS(ar:∀a∈A,jy h A a):HOk P w (jr K h A) h:=λb u q=>by
 obtain⟨_,vs,h1,h2,⟨e,rfl⟩ | ⟨e,rfl⟩⟩:=nj ar q
 .exact⟨e,by rw[au];exact h1,vs,_,iT h2,e⟩
 .exact⟨e,by rw[au];exact h1,vs,iT h2,_,e,rfl,_,rfl⟩
theorem m6{c c':Value}{vs us:List Value}(e:(some { cls:=c,data:=.seq vs.toArray }:Option Obj)=some { cls:=c',data:=.seq us.toArray }):c=c'/\vs=us:=by
 have e1:=aV e
 have e2:c=c':=congrArg Obj.cls e1
 have e3:Data.seq vs.toArray=Data.seq us.toArray:=congrArg Obj.data e1
 injection e3 with e4;refine⟨e2,?_⟩
 have e5:=congrArg Array.toList e4
 simpa using e5
theorem argL(KX:K.In h)(ar:∀a∈A,jy h A a){a:Addr}{vs:List Value}(ha:a∈A)(e:h.get? a=some { cls:=.type "list",data:=.seq vs.toArray }):(∀u∈vs,OkU A u)/\SqL K (jr K h A) a (vs.map toV):=by
 obtain⟨us,h1,h2,h3⟩:=ar a ha
 have hu:us=vs:=by
  rcases h3 with q | q
  .rw[e]at q;exact(m6 q).2.symm
  .rw[e]at q;exact aW (Value.type.inj (m6 q).1) (by decide)
 subst hu;refine⟨h2,?_⟩
 cases hk:K.lookup a with
 | none=>exact .inl (.inr ⟨_,by rw[nk ha hk e,rQ]⟩)
 | some o =>
  have e2:=KX a o hk
  rw[e]at e2;obtain rfl:=aV e2
  exact .inr ⟨_,us.toArray,_,hk,rfl,rfl,rfl,by rw[aU];exact h1,by simpa using iT h2⟩
theorem argT(KX:K.In h)(ar:∀a∈A,jy h A a){a:Addr}{vs:List Value}(ha:a∈A)(e:h.get? a=some { cls:=.type "tuple",data:=.seq vs.toArray }):(∀u∈vs,OkU A u)/\SqT K (jr K h A) a (vs.map toV):=by
 obtain⟨us,h1,h2,h3⟩:=ar a ha
 have hu:us=vs:=by
  rcases h3 with q | q
  .rw[e]at q;exact aW (Value.type.inj (m6 q).1) (by decide)
  .rw[e]at q;exact(m6 q).2.symm
 subst hu;refine⟨h2,?_⟩
 cases hk:K.lookup a with
 | none=>exact .inl (.inr ⟨_,by rw[nk ha hk e,rP]⟩)
 | some o =>
  have e2:=KX a o hk
  rw[e]at e2;obtain rfl:=aV e2
  exact .inr ⟨_,us.toArray,_,hk,rfl,rfl,by rw[aU];exact h1,by simpa using iT h2⟩
mutual
theorem AQ{Pm:Params}(KX:K.In h)(ar:∀a∈A,jy h A a):∀(d:WData)(v:Value),Well Pm h v d->plW d=true->OkU A v->Dw K (jr K h A) (toV v) d
 | .none,_,x,_,_=>by
  cases x;exact .non
 | .bool b,_,x,_,_=>by
  cases x;exact .bl b
 | .int i,_,x,_,_=>by
  cases x;exact .int i
 | .str s,_,x,_,_=>by
  cases x;exact .str s
 | .bytes b,_,x,_,_=>by
  cases x;have z:=Dw.byt (K:=K) (H:=jr K h A) b.toArray
  exact z
 | .list ds,_,x,p,hu=>by
  obtain⟨a,vs,rfl,ho,Bw⟩:=pA x
  obtain⟨h2,hs⟩:=argL KX ar hu ho
  exact .lst hs (dw_all KX ar ds _ Bw p h2)
 | .tuple ds,_,x,p,hu=>by
  obtain⟨a,vs,rfl,ho,Bw⟩:=nv x
  obtain⟨h2,hs⟩:=argT KX ar hu ho
  exact .tup hs (dw_all KX ar ds _ Bw p h2)
 | .float _,_,_,p,_=>Bool.noConfusion (show false=true from p)
 | .dict _,_,_,p,_=>Bool.noConfusion (show false=true from p)
 | .bytearray _,_,_,p,_=>Bool.noConfusion (show false=true from p)
 | .set _,_,_,p,_=>Bool.noConfusion (show false=true from p)
 | .frozenset _,_,_,p,_=>Bool.noConfusion (show false=true from p)
 | .obj _ _,_,_,p,_=>Bool.noConfusion (show false=true from p)
theorem dw_all{Pm:Params}(KX:K.In h)(ar:∀a∈A,jy h A a):∀(ds:List WData)(vs:List Value),WellAll Pm h vs ds->plWs ds=true->(∀u∈vs,OkU A u)->DwAll K (jr K h A) (vs.map toV) ds
 | [],_,x,_,_=>by
  cases x;exact .nil
 | d::ds,_,x,p,hu=>by
  obtain⟨v,vs,rfl,x1,x2⟩:=pB x
  have q:plW d=true/\plWs ds=true:=Bool.and_eq_true_iff.mp p
  exact .cons (AQ KX ar d v x1 q.1 (hu _ (a7 ..))) (dw_all KX ar ds vs x2 q.2 λu m=>hu u (aA _ m))
end
end
theorem uN{P:Program}{w:World}{K:Fg_}{mg mb:Str->Option Value}{CX:CXT}{k:Nat}{fa:Addr}{fd:FuncData}{ps:List Str}{sp:Sp}{s₁:Shared}{vals:List Value}{ds:List WData}{R:PySem.W.WRecords}{cl:Str->Option Addr}{d0:WData}
  (KX:K.In s₁.heap)(DQ:s₁.heap.Ns mainGlobals mg)(hb:s₁.heap.Ns builtinsNs mb)(VA:∀x:Str,x≠"__name__"->mb x=bootBuiltins x)(Nh:s₁.heap.NoLimit)(hg:s₁.gens=#[])
  (BS:WellAll w.params s₁.heap vals ds)(Bn:plWs ds=true)(Lr:∀d∈ds,d.weight<=1048576)(hr:cD k callerA)
  (F:∀base:Heap,K.In base->base.Ns mainGlobals mg->bQ P w K mg base CX k fa fd ps sp)(Kd:∀(s:Shared)(us:List Value),us.length=ps.length->BindsTo s fd ⟨us,[]⟩ (ps.zip us))(hlen:ds.length=ps.length)
  (Cn:∀(H:Hp)(xs:List V),si H->DwAll K H xs ds->sp xs H (λv H'=>Dw K H' v d0) λξ ξ ξ=>False)
  (Kj:∀H e s',CX [] H s₁ (λξ ξ ξ=>False) e s'->False) :
  codeAny (model P w) callerA (.call (.ref fa) ⟨vals,[]⟩) (λr s'=>∃u as,r =.ok (.ret u)/\ReadsW R cl s'.heap u d0 as/\OldK s₁.heap s'.heap/\s'.os=s₁.os/\AllBare s'.gens) s₁:=by
 obtain⟨A,ho,ar⟩:=area_all ds vals BS Bn Lr
 have hO:si (jr K s₁.heap A):=vn ar
 have hok:HOk P w (jr K s₁.heap A) s₁.heap:=yS ar
 have hS:=dw_all KX ar ds vals BS Bn ho
 have hV:=iT ho
 have hK:∀b u,jr K s₁.heap A b=some u->K.lookup b=none:=λb u q=>(nj ar q).1
 have Io:∀{b:Addr}{o:Obj}{es:Array DictEntry}{ep:Nat},s₁.heap.get? b=some o->o.data =.dict es ep->jr K s₁.heap A b=none:=λ{b o es ep} e d=>by
  cases q:jr K s₁.heap A b with
  | none=>rfl
  | some u =>
   obtain⟨_,vs,_,_,⟨e2,_⟩ | ⟨e2,_⟩⟩:=nj ar q
   .rw[e2]at e;cases e;have d':Data.seq vs.toArray _=Data.dict es ep:=d
    cases d'
   .rw[e2]at e;cases e;have d':Data.seq vs.toArray _=Data.dict es ep:=d
    cases d'
 generalize jr K s₁.heap A=H at hO hok hS hK Io;have DY:∀{b:Addr}{o:Obj},s₁.heap.get? b=some o->H b=none->(qB s₁.heap H).get? b=some o:=λe n=>wG e n
 have Lg:∀{b:Addr}{m:Str->Option Value},s₁.heap.Ns b m->(qB s₁.heap H).Ns b m:=λ{b m} ⟨o,es,ep,e,d,r⟩=>⟨o,es,ep,DY e (Io e d),d,r⟩
 have nK:∀b o,K.lookup b=some o->H b=none:=λb o e=>by
  cases q:H b with
  | none=>rfl
  | some u =>
   rw[hK b u q]at e;cases e
 have Q4:K.In (qB s₁.heap H):=λb o e=>DY (KX b o e) (nK b o e)
 have hM:Mod K mg (qB s₁.heap H):=⟨Q4,Lg DQ,⟨mb,Lg hb,VA⟩,let ⟨mc,h1,h2⟩:=Nh;⟨mc,Lg h1,h2⟩⟩
 have e0:sj P w K mg (qB s₁.heap H) callerA [] s₁ H:=⟨rfl,hM,λb o e=>yt e,fM (ve _ _),trivial,λb hb=>aW (show b∈([]:List Addr)from hb) (by simp),hok,.of_eq hg⟩
 have hl:vals.length=ps.length:=by rw[iJ BS];exact hlen
 refine codeAny_mono ((F _ Q4 (Lg DQ)).run callerA [] s₁ H ⟨vals,[]⟩ vals (vals.map toV) _ _ hr e0 (Kd s₁ vals hl) hV (Cn H _ hO hS)) λr s' x=>?_
 cases r with
 | error e=>exact(Kj H e s' x).elim
 | ok fl =>
  cases fl with
  | next=>exact False.elim x
  | brk=>exact False.elim x
  | cont=>exact False.elim x
  | ret u =>
   obtain⟨v,H',os,bare,un,JT,r',q⟩:=x
   have kept:∀b o,s₁.heap.get? b=some o->s'.heap.get? b=some o:=λb o e=>by
    cases q2:H b with
    | none=>exact un.keep b o e q2 (by intro z;exact aW (show b∈([]:List Addr)from z) (by simp)) (by simp)
    | some u2 =>
     rcases hO b with z | ⟨ob,u3,z⟩
     .rw[q2]at z;cases z
     .have z2:=un.frzs b ob _ z
      obtain⟨e1,_⟩:=hok b _ z
      obtain⟨e2,_⟩:=JT b _ z2
      rw[e]at e1;cases e1;exact e2
   have X9:K.In s'.heap:=λb o e=>kept b o (KX b o e)
   obtain⟨as,Ez⟩:=Dw.reads (R:=R) (cl:=cl) JT X9 d0 v u q r'
   exact⟨u,as,rfl,Ez,OldK.of_keep kept,os,bare⟩
theorem ot{ds:List WData}(h:WData.layableAll ds=true):∀d∈ds,d.weight<=1048576:=λd hd =>
 (PySem.W.layableW_iff.mp (dU.mp h d hd)).2.2
theorem oJ:∀(cs:List Codec)(a:Codec.denoteAll cs),(Codec.encAll cs a).length=cs.length
 | [],_=>rfl
 | c::cs,a=>by
  show(Codec.encAll cs a.2).length+1=cs.length+1
  rw[oJ cs a.2]
theorem uF{r:OpenSpec}{k:Nat}{q:Program}{loose:List Str}{XP:(Str->Option Value)->Heap->Prop}{YP:World->Heap->Prop}{d:DefRec}{K:Params->Fg_}{CX:World->CXT}{ps:List Str}{sp:World->Sp}
  (Eu:r.wellSaid=true)(QN:d.params.defaults=[])(hlen:r.args.length=ps.length)(hr:cD k callerA)
  (hY:∀(w:World)(h:Heap),YP w h->(K w.params).In h)
  (F:∀(w:World)(mg:Str->Option Value)(fa:Addr)(h:Heap),YP w h->(K w.params).In h->h.Ns mainGlobals mg->mg d.name=some (.ref fa) ->
   ∃fd:FuncData,(∀(s:Shared)(us:List Value),us.length=ps.length->BindsTo s fd ⟨us,[]⟩ (ps.zip us)) /\
    ∀base:Heap,(K w.params).In base->base.Ns mainGlobals mg->bQ r.prog w (K w.params) mg base (CX w) k fa fd ps (sp w))
  (Cn:∀(w:World)(H:Hp)(xs:List V)(a:Codec.denoteAll r.args),si H->Codec.withinAll r.args a=true->Codec.app r.args r.asked a=true->DwAll (K w.params) H xs (Codec.encAll r.args a) ->
   sp w xs H (λv H'=>Dw (K w.params) H' v (r.ret.enc (Codec.app r.args r.f a))) λξ ξ ξ=>False)
  (Kj:∀(w:World)(H:Hp)(s:Shared)(e:Value)(s':Shared),CX w [] H s (λξ ξ ξ=>False) e s'->False) :
  PySem.W.WalkOS q loose XP YP r d [] (λf vs=>PySem.call f vs):=by
 intro w s_0 s₁ mg mb G Y fa o pm cd doc dV kV ho hd Ea hD Va hg args vals as M5 Ni Ez BS Ze;obtain⟨a,e1,e2⟩:=PySem.W.os_pre_some M5
 obtain⟨e3,Qj⟩:=Codec.encAll_of_decAll r.args args a e1
 subst e3;have KX:=hY w _ Y
 obtain⟨fd,hb,hF⟩:=F w mg fa _ Y KX G.T.g Va
 refine PySem.W.enter_call (codeAny_mono (uN (R:=[]) (cl:=classAt s_0.heap) (d0:=r.ret.enc (Codec.app r.args r.f a)) KX G.T.g G.T.b G.T.builtins G.T.nolimit hg BS (pK _ _) (ot Ni) hr hF hb (by rw[oJ];exact hlen)
  (λH xs hO hS=>Cn w H xs a hO Qj e2 hS) λH e s'=>Kj w H s₁ e s') λr' s' hq=>?_)
 obtain⟨u,Gu,rfl,h1,h2,h3,h4⟩:=hq
 exact⟨.inl ⟨u,_,Gu,rfl,λξ=>rfl,h1,(OpenSpec.post_iff Eu Qj _ _).mpr rfl,λz=>Bool.noConfusion (show false=true from z)⟩,h2,h3,h4⟩
theorem zk{r:OpenSpec}{k:Nat}{q:Program}{loose:List Str}{XP:(Str->Option Value)->Heap->Prop}{YP:World->Heap->Prop}{d:DefRec}{K:Params->Fg_}{CX:CXT}{ps:List Str}{sp:Fg_->Sp}
  (Eu:r.wellSaid=true)(QN:d.params.defaults=[])(hlen:r.args.length=ps.length)(hr:cD k callerA)
  (hY:∀(w:World)(h:Heap),YP w h->(K w.params).In h)
  (F:∀(w:World)(mg:Str->Option Value)(fa:Addr)(h:Heap),YP w h->(K w.params).In h->h.Ns mainGlobals mg->mg d.name=some (.ref fa) ->
   ∃fd:FuncData,(∀(s:Shared)(us:List Value),us.length=ps.length->BindsTo s fd ⟨us,[]⟩ (ps.zip us)) /\
    ∀base:Heap,(K w.params).In base->base.Ns mainGlobals mg->bQ r.prog w (K w.params) mg base CX k fa fd ps (sp (K w.params)))
  (Cn:∀(K:Fg_)(H:Hp)(xs:List V)(a:Codec.denoteAll r.args),si H->Codec.withinAll r.args a=true->Codec.app r.args r.asked a=true->DwAll K H xs (Codec.encAll r.args a) ->
   sp K xs H (λv H'=>Dw K H' v (r.ret.enc (Codec.app r.args r.f a))) λξ ξ ξ=>False)
  (Kj:∀(H:Hp)(s:Shared)(e:Value)(s':Shared),CX [] H s (λξ ξ ξ=>False) e s'->False) :
  PySem.W.WalkOS q loose XP YP r d [] (λf vs=>PySem.call f vs) :=
 uF (K:=K) (CX:=λξ=>CX) (sp:=λw=>sp (K w.params)) Eu QN hlen hr hY F (λw H xs a h1 h2 h3 h4=>Cn (K w.params) H xs a h1 h2 h3 h4) λξ H s e s'=>Kj H s e s'
end L2
namespace L2.XC
open PySem PySem.Spec PyProof.Rows
open Builtin Builtin.ObjectAttr
abbrev bmE:List Value:=[.type "Exception",.type "BaseException",.type "object"]
section
variable {prog:Program}{w:World}{A:Around}{E:Value->Shared->Prop}{h:Heap}{g:Array GenState}{d:Drawn}{t:Nat}{os:OsState}
variable {nm q:Str}{C N x:Addr}{bs:List Value}{sn:List Str}{sub:List Value}{ab:Bool}{col:Option Bool}{dd:Option Addr}
variable {k0 k1 k2 k3 k5:Option Value}{mN:Str->Option Value}{name:Str}{v:Value}{o:Obj}{ni:String}
theorem uS{tk:Tok}{Q:Fin->Shared->Prop}(hC:h.get? C=some (excClassObj nm q C N bs bmE true sn sub ab col dd k0 k1 k2 k3 k5 ni))
  (hn:h.Ns N mN)(IA:mN name=none)(hB:typeLookup (.type "Exception") name=pure none)
  (hx:h.get? x=some o)(hc:o.cls =.ref C)(BO:o.dict=none)(Dc:∀c,o.data≠.cls c)
  (hq:∀h' FT,h'.get? x=some { o with dict:=some h.objs.size }->h'.Ns1 h.objs.size (λy=>if y=name then some v else none) ->
   (∀b u,b≠x->h.get? b=some u->h'.get? b=some u)->Q (.done (.ret .none)) ⟨h',g,d,FT,os⟩) :
  wpAny (model prog w) A (Builtin.«object.__setattr__» ⟨[.ref x,.str name tk,v],[]⟩) Q E ⟨h,g,d,t,os⟩:=by
 have SF:=PySem.F.store_Exception
 have hp:=SF.passes (.ref x)
 have Hc:x≠h.objs.size:=bG (aZ hx)
 unfold Builtin.«object.__setattr__»
 repeat (first
  | rw[refuse_eq]
  | rw[refuseLoop_ref,hp]
  | (with_reducible refine wpAny_loadPart_at hx ?_;rw[hc])
  | with_reducible refine wpAny_mroOf_exc hC ?_
  | (with_reducible refine wpAny_typeLookup_exc hC hn SF.mro hB ?_;rw[IA])
  | wp_step)
 rw[BO,ay (by simp[typeHasDict])]
 split
 .rename_i z
  cases z
 split
 .rename_i c z
  exact aW z (Dc c)
 .have Hg:(h.push { cls:=.type "dict",data:=.dict #[] }).get? x=some o:=aL _ hx
  refine aH (wpAny_alloc' (aH (wpAny_update' Hg (bM ?_))))
  generalize hU:((h.push { cls:=.type "dict",data:=.dict #[] }).update x λo=>{ cls:=o.cls,dict:=some h.objs.size,data:=o.data,slots:=o.slots })=hh
  have e1:hh.get? h.objs.size=some { cls:=.type "dict",data:=.dict #[] }:=by
   rw[<-hU];exact(Heap.get?_update_ne _ _ _ _ Hc.symm).trans (Heap.get?_push_at rfl rfl)
  have e2:hh.get? x=some { o with dict:=some h.objs.size }:=by
   rw[<-hU];refine Heap.get?_update_self _ Hg ?_
   have Bk:=(Heap.get?_some_iff.mp hx).2
   obtain⟨oc,od,Ml,Ee⟩:=o
   cases Ml<;>first | rfl | exact Bk
  have e3:∀b u,b≠x->h.get? b=some u->hh.get? b=some u:=λb u hb ER=>by
   rw[<-hU];exact(Heap.get?_update_ne _ _ _ _ hb).trans (aL _ ER)
  have e4:hh.Ns h.objs.size (λξ=>none):=⟨_,#[],_,e1,rfl,λe he=>aW he (by simp),λξ=>rfl⟩
  show wpAny _ _ (storeInDict h.objs.size (.str name tk) name v) _ _ _
  unfold storeInDict newKeyGuard;refine aH (bM (aH (wpAny_nsSet1 (Heap.Ns1.of_empty e4) λh' n1 sb=>?_)))
  obtain⟨oD,N4,N7,Hv,HG,HK⟩:=n1.count (Within.cons name v Within.nil)
  refine aH (wpAny_lookBehind Hv (by rw[HG];exact pastItsLine_dict (bH HK (by rw[ao,dB,sizeLine_eq];exact a8 _ _))) ?_)
  wp_walk
  exact hq h' _ ((sb.2 x Hc).trans e2) n1 λb u hb ER=>(sb.2 b (bG (aZ ER))).trans (e3 b u hb ER)
theorem sP{tk:Tok}{Q:Fin->Shared->Prop}{dx:Addr}{mA:Str->Option Value}{ns:List Str}(hC:h.get? C=some (excClassObj nm q C N bs bmE true sn sub ab col dd k0 k1 k2 k3 k5 ni))
  (hn:h.Ns N mN)(IA:mN name=none)(hB:typeLookup (.type "Exception") name=pure none)
  (hx:h.get? x=some o)(hc:o.cls =.ref C)(BO:o.dict=some dx)(BH:dx≠x)(DQ:h.Ns1 dx mA)(hw:Within mA ns)(hsz:ns.length<=1000)
  (hq:∀h' FT,h'.Ns1 dx (λy=>if y=name then some v else mA y) ->
   (∀b u,b≠dx->h.get? b=some u->h'.get? b=some u)->Q (.done (.ret .none)) ⟨h',g,d,FT,os⟩) :
  wpAny (model prog w) A (Builtin.«object.__setattr__» ⟨[.ref x,.str name tk,v],[]⟩) Q E ⟨h,g,d,t,os⟩:=by
 have SF:=PySem.F.store_Exception
 have hp:=SF.passes (.ref x)
 unfold Builtin.«object.__setattr__»
 repeat (first
  | rw[refuse_eq]
  | rw[refuseLoop_ref,hp]
  | (with_reducible refine wpAny_loadPart_at hx ?_;rw[hc])
  | with_reducible refine wpAny_mroOf_exc hC ?_
  | (with_reducible refine wpAny_typeLookup_exc hC hn SF.mro hB ?_;rw[IA])
  | wp_step)
 rw[BO];refine bM ?_
 show wpAny _ _ (storeInDict dx (.str name tk) name v) _ _ _
 unfold storeInDict newKeyGuard;refine aH (bM (aH (wpAny_nsSet1 DQ λh' n1 sb=>?_)))
 obtain⟨oD,N4,N7,Hv,HG,HK⟩:=n1.count (Within.cons name v hw)
 refine aH (wpAny_lookBehind Hv (by rw[HG];exact pastItsLine_dict (bH HK (by rw[ao,sizeLine_eq];lia))) ?_)
 wp_walk
 exact hq h' _ n1 λb u hb ER=>(sb.2 b hb).trans ER
theorem rn{R:Result->Shared->Prop}{tk:Tok}{B sa owner:String}{bm:List Value}(SF:StoreFacts B bm sa owner)(hC:h.get? C=some (excClassObj nm q C N bs bm true sn sub ab col dd k0 k1 k2 k3 k5 ni))
  (hx:h.get? x=some o)(hc:o.cls =.ref C)
  (hq:∀(A:Around)(T:Fin->Shared->Prop)(E:Value->Shared->Prop),(∀s',R (.ok (.ret .none)) s'->T (.done (.ret .none)) s') ->
   wpAny (model prog w) A (Builtin.«object.__setattr__» ⟨[.ref x,.str name tk,v],[]⟩) T E ⟨h,g,d,t,os⟩) :
  codeAny (model prog w) A (.call (.builtin sa) ⟨[.ref x,.str name tk,v],[]⟩) R ⟨h,g,d,t,os⟩:=by
 refine codeAny_call_builtin SF.slot.plain SF.entry (wpAny_check_sa SF hC hx hc ?_)
 refine hq _ _ _ ?_
 intro s' z
 exact z
theorem rp{Q:Unit->Shared->Prop}{B sa owner:String}{bm:List Value}(SF:StoreFacts B bm sa owner)(hC:h.get? C=some (excClassObj nm q C N bs bm true sn sub ab col dd k0 k1 k2 k3 k5 ni))
  (hn:h.Ns N mN)(DQ:mN "__setattr__" =none)(hx:h.get? x=some o)(hc:o.cls =.ref C)
  (hq:∀(A:Around)(R:Result->Shared->Prop)(tk t':Nat),(∀s',Q () s'->R (.ok (.ret .none)) s') ->
   codeAny (model prog w) A (.call (.builtin sa) ⟨[.ref x,.str name tk,v],[]⟩) R ⟨h,g,d,t',os⟩) :
  wpAny (model prog w) A (setAttr (.ref x) name v) Q E ⟨h,g,d,t,os⟩:=by
 have f3:=SF.slot.bind (.ref x)
 unfold setAttr callSpecial? specialOf
 repeat (any_goals (first
  | assumption
  | (with_reducible refine wpAny_loadPart_at hx ?_;rw[hc])
  | (with_reducible refine wpAny_typeLookup_exc hC hn SF.mro SF.slot.lookup ?_;rw[DQ])
  | wp_step))
 refine hq _ _ _ _ λs' z=>?_
 obtain⟨hh,gg,Wt,tt,oo⟩:=s'
 repeat (any_goals (first | (with_reducible assumption) | wp_step))
end
open Builtin Builtin.ObjectAttr
section
variable {prog:Program}{w:World}{A:Around}{E:Value->Shared->Prop}{h:Heap}{g:Array GenState}{d:Drawn}{t:Nat}{os:OsState}
variable {nm q:Str}{C N x dx:Addr}{bs:List Value}{sn:List Str}{sub:List Value}{ab:Bool}{col:Option Bool}{dd:Option Addr}
variable {k0 k1 k2 k3 k5:Option Value}{mN mA:Str->Option Value}{name:Str}{v:Value}{o:Obj}{ni:String}
end
def iF(cl:Prop)(h:Heap)(e C dx:Addr):Prop :=
 ∃o vs T oT ts,h.get? e=some o/\o.cls =.ref C/\o.dict=some dx/\o.data =.fields vs/\vs[1]? =some (.ref T)/\T≠e/\h.get? T=some oT/\oT.data =.fields ts/\ts[3]? =some .none/\(cl->vs[2]? =some .none)
def Fresh(cl:Prop)(h:Heap)(e C dx:Addr):Prop:=∃o vs,h.get? e=some o/\o.cls =.ref C/\o.dict=some dx/\o.data =.fields vs/\vs[1]? =some .none/\(cl->vs[2]? =some .none)
def Fly(cl:Prop)(h:Heap)(e C dx:Addr):Prop:=Fresh cl h e C dx\/iF cl h e C dx
structure vp(fs:List Addr)(e:Addr)(h h':Heap):Prop where
 keep:∀b o,b∉fs->b≠e->h.get? b=some o->h'.get? b=some o
 slot:∀b o,b∈fs->h.get? b=some o->∃sl,h'.get? b=some { o with slots:=sl }
section
variable {M:Model}{A:Around}{E E':Value->Shared->Prop}{s:Shared}{cl:Prop}
theorem kj{base:Heap}{env:Env}{outer:List Env}{L e C dx:Addr}{o:Obj}{vs:Array Value}{head:Value}{NH:Bool}{Q:Unit->Shared->Prop}
  (Bk:A.frames=some (env::outer))(hl:s.heap.FunFrames base (env::outer))(hf:env.frame=some L)
  (he:s.heap.get? e=some o)(hc:o.cls =.ref C)(Bx:o.dict=some dx)(hd:o.data =.fields vs)(hsz:1<vs.size)(BQ:cl->vs[2]? =some .none)
  (h:∀h',iF cl h' e C dx->vp (frs (env::outer)) e s.heap h'->Q () { s with heap:=h' }) :
  wpAny M A (do
   let fo ←frameOf env
   let pl ←entryPlaceOf L NH
   let b ←EntryCells.newEntry head fo .none (rawInt L) .none pl
   setField (.ref e) 1 b) (λξ s'=>wpAny M A (setFlight (.ref e) none) Q E s') E' s:=by
 have Jp:e∉frs (env::outer):=λhm=>by
  obtain⟨_,ob,ho,M9⟩:=hl.mem hm
  rw[he]at ho;cases ho;exact M9 vs hd
 refine aH (wpAny_frameOf_fun Bk hl hf λh1 hs=>?_)
 refine aH (wpAny_entryPlaceOf λpl Bn=>?_)
 unfold EntryCells.newEntry newFields;refine aH (wpAny_newObj_type ?_ (Bn.sizeOk5 _ _ _ _ _))
 generalize hX:({ cls:=.type "traceback",dict:=none,data:=.fields ([head,.ref L,.none,rawInt L,.none]++(if pl.isEmpty then List.replicate 6 Value.none else pl)).toArray }:Obj)=X
 have e1:h1.get? e=some o:=(hs.2.1 e Jp).trans he
 have e2:(h1.push X).get? e=some o:=aL _ e1
 refine wpAny_setField e2 hd hsz ?_
 have nT:h1.objs.size≠e:=fj (aZ e1)
 have d3:=Obj.data_mapFields hd (·.setIfInBounds 1 (Value.ref h1.objs.size))
 have e3:=Heap.get?_update_self (Obj.mapFields (·.setIfInBounds 1 (Value.ref h1.objs.size))) e2 (Obj.isFreed_of_fields d3)
 have xf:∃ts:Array Value,X.data =.fields ts/\3<ts.size:=by
  rw[<-hX];exact⟨_,rfl,by simp only[aU,ae,ao,dB];exact cq (b8 _ _)⟩
 obtain⟨ts,xd,x3⟩:=xf
 have xn:X.isFreed=false:=Obj.isFreed_of_fields xd
 have t3:((h1.push X).update e (Obj.mapFields (·.setIfInBounds 1 (Value.ref h1.objs.size)))).get? h1.objs.size=some X :=
  (Heap.get?_update_other _ _ (ba nT)).trans (bx h1 xn)
 unfold setFlight;refine aH (wpAny_field e3 d3 (x:=.ref h1.objs.size) (by simp[hsz]) ?_)
 rw[ax (show(Value.ref h1.objs.size !=Value.none)=true from by simp)]
 refine wpAny_setField t3 xd x3 (h _ ?_ ⟨λb ob nb ne hb=>?_,λb ob nb hb=>?_⟩)
 .refine⟨_,_,h1.objs.size,_,_,(Heap.get?_update_other _ _ nT).trans e3,?_,?_,d3,by simp[hsz],nT,Heap.get?_update_self _ t3 (Obj.isFreed_of_fields (Obj.data_mapFields xd _)),Obj.data_mapFields xd _,?_,λz=>?_⟩
  .rw[Obj.cls_mapFields];exact hc
  .obtain⟨c1,c2,c3,c4⟩:=o
   cases hd;exact Bx
  .simp[x3]
  .rw[eX (by decide)]
   exact BQ z
 .have q:h1.get? b=some ob:=(hs.2.1 b nb).trans hb
  rw[Heap.get?_update_other _ _ (fj (aZ q)),Heap.get?_update_other _ _ (ba ne)];exact aL _ q
 .obtain⟨sl,q⟩:=hs.2.2 b ob hb
  have ne:b≠e:=λz=>Jp (z▸nb)
  refine⟨sl,?_⟩
  rw[Heap.get?_update_other _ _ (fj (aZ q)),Heap.get?_update_other _ _ (ba ne)];exact aL _ q
theorem k9{base:Heap}{env:Env}{outer:List Env}{L e C dx:Addr}{Q:Unit->Shared->Prop}
  (Bk:A.frames=some (env::outer))(hl:s.heap.FunFrames base (env::outer))(hf:env.frame=some L)(x:Fly cl s.heap e C dx)
  (h:∀h',iF cl h' e C dx->vp (frs (env::outer)) e s.heap h'->Q () { s with heap:=h' }) :
  wpAny M A (noteFrame (.ref e) env) (λξ s'=>wpAny M A (setFlight (.ref e) none) Q E s') E' s:=by
 unfold noteFrame;simp only[hf];rcases x with⟨o,vs,he,hc,Bx,hd,h1,BQ⟩ | ⟨o,vs,T,oT,ts,he,hc,Bx,hd,h1,EV,hT,B6,h3,BQ⟩
 .refine aH (wpAny_field he hd h1 ?_)
  rw[ay (by decide)]
  exact kj Bk hl hf he hc Bx hd (cA.mp h1).1 BQ h
 .refine aH (wpAny_field he hd h1 ?_)
  rw[ax (show(Value.ref T !=Value.none)=true from by simp)]
  refine aH (wpAny_field hT B6 h3 ?_)
  rw[ay (show ¬((Value.none==rawInt L)=true)from by simp[rawInt])]
  refine aH (wpAny_setField hT B6 (cA.mp h3).1 ?_)
  rw[Heap.update_setField_same s.heap T oT ts 3 .none hT B6 h3];exact kj Bk hl hf he hc Bx hd (cA.mp h1).1 BQ h
theorem vf{base:Heap}{env:Env}{outer:List Env}{L e C dx:Addr}{Q:Unit->Shared->Prop}
  (Bk:A.frames=some (env::outer))(hl:s.heap.FunFrames base (env::outer))(hf:env.frame=some L)(x:Fly cl s.heap e C dx)
  (h:∀h',iF cl h' e C dx->vp (frs (env::outer)) e s.heap h'->Q () { s with heap:=h' }):wpAny M A (leaving env (.ref e)) Q E s:=by
 unfold leaving;exact aH (k9 Bk hl hf x h)
theorem jo{e C dx:Addr}{Q:Unit->Shared->Prop}(x:iF cl s.heap e C dx)(h:Q () s):wpAny M A (setFlight (.ref e) none) Q E s:=by
 obtain⟨o,vs,T,oT,ts,he,hc,Bx,hd,h1,EV,hT,B6,h3,BQ⟩:=x
 unfold setFlight;refine aH (wpAny_field he hd h1 ?_)
 rw[ax (show(Value.ref T !=Value.none)=true from by simp)]
 refine wpAny_setField hT B6 (cA.mp h3).1 ?_
 show Q () { s with heap:=s.heap.update T (Obj.mapFields (·.setIfInBounds 3 Value.none)) }
 rw[Heap.update_setField_same s.heap T oT ts 3 .none hT B6 h3];exact h
end
def XV(vs:Array Value):Prop:=vs[1]? =some .none/\vs[2]? =some .none/\4<vs.size
def XE(e C:Addr)(d:Option Addr):HO:=.ext λh=>∃o vs,h.get? e=some o/\o.cls =.ref C/\o.dict=d/\o.data =.fields vs/\XV vs
def XL(e C dx:Addr):HO:=.ext λh=>∃o vs,h.get? e=some o/\o.cls =.ref C/\o.dict=some dx/\o.data =.fields vs
def XD(dx:Addr)(fs:List (Str×V)):HO:=.ext λh=>∃mA,h.Ns1 dx mA/\(∀f,jN (fs.lookup f) (mA f))/\PySem.Within mA (fs.map (·.1))
theorem qN{P:Program}{w:World}{H:Hp}{h:Heap}{e C:Addr}{d:Option Addr}{o:Obj}{vs:Array Value}(h1:h.get? e=some o)(h2:o.cls =.ref C)(h3:o.dict=d)(h4:o.data =.fields vs)(h5:XV vs):fe P w H h e (XE e C d) :=
 ⟨⟨o,vs,h1,h2,h3,h4,h5⟩,⟨o,h1⟩,λ_ _ ⟨o,vs,a,b⟩ k=>⟨o,vs,k o a,b⟩⟩
theorem xl_ok{P:Program}{w:World}{H:Hp}{h:Heap}{e C dx:Addr}{o:Obj}{vs:Array Value}(h1:h.get? e=some o)(h2:o.cls =.ref C)(h3:o.dict=some dx)(h4:o.data =.fields vs):fe P w H h e (XL e C dx) :=
 ⟨⟨o,vs,h1,h2,h3,h4⟩,⟨o,h1⟩,λ_ _ ⟨o,vs,a,b⟩ k=>⟨o,vs,k o a,b⟩⟩
theorem vv{P:Program}{w:World}{H:Hp}{h:Heap}{dx:Addr}{fs:List (Str×V)}{mA:Str->Option Value}(h1:h.Ns1 dx mA)(h2:∀f,jN (fs.lookup f) (mA f))(h3:PySem.Within mA (fs.map (·.1))):fe P w H h dx (XD dx fs) :=
 ⟨⟨mA,h1,h2,h3⟩,(let ⟨o,_,_,q,_⟩:=h1;⟨o,q⟩),λ_ _ ⟨mA,n,r⟩ k=>⟨mA,n.at λo q=>k o q,r⟩⟩
theorem pw{P:Program}{w:World}{H:Hp}{h:Heap}{e C:Addr}{d:Option Addr}(x:HOk P w H h)(q:H e=some (XE e C d)):∃o vs,h.get? e=some o/\o.cls =.ref C/\o.dict=d/\o.data =.fields vs/\XV vs:=(x e _ q).1
theorem xl_of{P:Program}{w:World}{H:Hp}{h:Heap}{e C dx:Addr}(x:HOk P w H h)(q:H e=some (XL e C dx)):∃o vs,h.get? e=some o/\o.cls =.ref C/\o.dict=some dx/\o.data =.fields vs:=(x e _ q).1
theorem y0{P:Program}{w:World}{H:Hp}{h:Heap}{dx:Addr}{fs:List (Str×V)}(x:HOk P w H h)(q:H dx=some (XD dx fs)):∃mA,h.Ns1 dx mA/\(∀f,jN (fs.lookup f) (mA f))/\PySem.Within mA (fs.map (·.1)):=(x dx _ q).1
def oZ(H:Hp)(e:Addr):Hp:=λb=>if b=e then none else H b
theorem iq{H:Hp}{e:Addr}:oZ H e e=none:=by unfold oZ;rw[ax rfl]
theorem fW{H:Hp}{e b:Addr}(h:b≠e):oZ H e b=H b:=by unfold oZ;rw[ay h]
theorem jQ{H:Hp}{e b:Addr}(h:H b=none):oZ H e b=none:=by
 by_cases q:b=e
 .rw[q];exact iq
 .rw[fW q];exact h
theorem xk{P:Program}{w:World}{H:Hp}{h:Heap}{e:Addr}{φ:Heap->Prop}(x:HOk P w H h)(he:H e=some (.ext φ)):HOk P w (oZ H e) h:=λa o q=>by
 by_cases z:a=e
 .rw[z,iq]at q;cases q
 .rw[fW z]at q;refine(x a o q).stay (λξ ξ ξ r=>r) (λb r=>?_) λb xs r=>?_
  .rw[fW (dC r he (by intro y;cases y))];exact r
  .rw[fW (dC r he (by intro y;cases y))];exact r
theorem yU{fs ex:List Addr}{H H':Hp}{h h':Heap}{e:Addr}{φ:Heap->Prop}(u:Un fs ex H H' h h')(he:H' e=some (.ext φ)):Un fs ex H (oZ H' e) h h' :=
 ⟨u.keep,u.slot,λb o q n hx=>jQ (u.free b o q n hx),u.there,
  λb xs q=>by rw[fW (dC (u.tups b xs q) he (by intro y;cases y))];exact u.tups b xs q,
  λb o xs q=>by rw[fW (dC (u.frzs b o xs q) he (by intro y;cases y))];exact u.frzs b o xs q,
  λb ps q=>by
   obtain⟨m,r⟩:=u.tbls b ps q
   exact⟨m,by rw[fW (dC r he (by intro y;cases y))];exact r⟩⟩
section
variable {X:Cx}{pins:List (Addr×Obj)}{σ:St}{H H':Hp}{s:Shared}
theorem oW{e:Addr}{φ:Heap->Prop}(I:Inv X pins σ H s)(he:H e=some (.ext φ)):Inv X pins σ (oZ H e) s :=
 ⟨I.ok,I.os,I.bare,yU I.base he,I.loc,I.cell,jQ I.free,λx c q=>jQ (I.freeC x c q),
  λp hp=>let ⟨a,b,c⟩:=I.pin p hp;⟨a,jQ b,c⟩,xk I.hok he,I.len⟩
structure fQ(X:Cx)(pins:List (Addr×Obj))(e:Addr):Prop where
 new:X.s_0.heap.get? e=none
 loc:e≠X.env.locals
 cel:∀x c,X.env.cells.lookup x=some c->c≠e
 pin:∀p∈X.pn++pins,p.1≠e
 out:e∉X.fs
theorem gO{e:Addr}(I:Inv X pins σ H s)(hx:X.ex=[])(he:s.heap.get? e=none):fQ X pins e:=by
 refine⟨?_,?_,λx c q z=>?_,λp hp z=>?_,λz=>?_⟩
 .cases q:X.s_0.heap.get? e with
  | none=>rfl
  | some o =>
   obtain⟨o',r⟩:=I.base.there e o q (by rw[hx];simp)
   rw[he]at r;cases r
 .intro z;obtain⟨m,⟨o,_,_,ho,_⟩,_⟩:=I.loc
  rw[<-z,he]at ho;cases ho
 .obtain⟨v,o,ho,_⟩:=I.cell x c q
  rw[z,he]at ho;cases ho
 .obtain⟨a,_⟩:=I.pin p hp
  rw[z,he]at a;cases a
 .obtain⟨_,o,ho,_⟩:=I.funs.mem z
  rw[he]at ho;cases ho
theorem jW{e:Addr}{o:HO}(I:Inv X pins σ H s)(y:fQ X pins e)(hn:H e=none)(ok:fe X.prog X.w (upd H e o) s.heap e o):Inv X pins σ (upd H e o) s:=by
 refine⟨I.ok,I.os,I.bare,⟨I.base.keep,I.base.slot,λb u q n hx=>?_,I.base.there,λb xs q=>?_,λb u xs q=>?_,λb ps q=>?_⟩,I.loc,I.cell,?_,λx c q=>?_,λp hp=>?_,λb u q=>?_,I.len⟩
 .rw[aj (λz=>by rw[z,y.new]at q;cases q)]
  exact I.base.free b u q n hx
 .rw[aj (ag (I.base.tups b xs q) hn)];exact I.base.tups b xs q
 .rw[aj (ag (I.base.frzs b u xs q) hn)];exact I.base.frzs b u xs q
 .obtain⟨m,r⟩:=I.base.tbls b ps q
  exact⟨m,by rw[aj (ag r hn)];exact r⟩
 .rw[aj (ba y.loc)];exact I.free
 .rw[aj (y.cel x c q)];exact I.freeC x c q
 .obtain⟨a,b,c⟩:=I.pin p hp
  exact⟨a,by rw[aj (y.pin p hp)];exact b,c⟩
 .by_cases z:b=e
  .subst z;rw[aC]at q;cases q;exact ok
  .rw[aj z]at q;exact(I.hok b u q).stay (λξ ξ ξ r=>r) (λc r=>by rw[aj (ag r hn)];exact r) λc xs r=>by rw[aj (ag r hn)];exact r
theorem gm{e:Addr}{h':Heap}(I:Inv X pins σ H s)(hn:H e=none)(y:fQ X pins e)(k:vp (frs X.stack) e s.heap h'):Inv X pins σ H { s with heap:=h' }:=by
 have PH:e∉frs X.stack:=λz=>by
  rcases aI.mp (I.stkSub e z)with q | q
  .exact y.loc q
  .exact y.out q
 obtain⟨m,⟨o,es,ep,ho,r⟩,_⟩:=id I.loc
 have up:∀b u,b≠e->s.heap.get? b=some u->∃sl,h'.get? b=some { u with slots:=sl }:=λb u hb q=>by
  by_cases z:b∈frs X.stack
  .exact k.slot b u z q
  .exact⟨u.slots,k.keep b u z hb q⟩
 have nH:∀b u,H b=some u->b∉frs X.stack:=λb u q z=>by rw[I.stkFree b z]at q;cases q
 have n0:∀b u,X.s_0.heap.get? b=some u->b≠e:=λb u q z=>by rw[z,y.new]at q;cases q
 have nl:∀b u,X.s_0.heap.get? b=some u->b≠X.env.locals:=λb u q=>bG (aR (aZ q) I.ok.above)
 have cl:∀x c v,X.env.cells.lookup x=some c->s.heap.IsCell c v->h'.IsCell c v:=λx c v q ⟨u,hu,hd⟩=>by
  obtain⟨sl,z⟩:=up c u (y.cel x c q) hu
  exact⟨_,z,hd⟩
 refine⟨I.ok,I.os,I.bare,⟨λb u q n hb hx=>?_,λb u q n hb hx=>?_,I.base.free,λb u q hx=>?_,I.base.tups,I.base.frzs,I.base.tbls⟩,?_,λx c q=>?_,I.free,I.freeC,λp hp=>?_,λb u q=>?_,I.len⟩
 .exact k.keep b u (λz=>(aI.mp (I.stkSub b z)).elim (nl b u q) hb) (n0 b u q) (I.base.keep b u q n hb hx)
 .obtain⟨sl,z⟩:=I.base.slot b u q n hb hx
  obtain⟨L',z'⟩:=up b _ (n0 b u q) z
  exact⟨L',z'⟩
 .obtain⟨u',z⟩:=I.base.there b u q hx
  obtain⟨sl,z'⟩:=up b _ (n0 b u q) z
  exact⟨_,z'⟩
 .obtain⟨m',hm,hl⟩:=I.loc
  refine⟨m',?_,λi x v e1 e2 e3=>?_⟩
  .obtain⟨o',IW,KW,Ce,r'⟩:=hm
   obtain⟨sl,z⟩:=up _ o' (ba y.loc) Ce
   exact⟨_,IW,KW,z,r'⟩
  .obtain⟨u,ru,l⟩:=hl i x v e1 e2 e3
   refine⟨u,ru,?_⟩
   rcases l with l | ⟨kk,c,ec,z⟩
   .exact .inl l
   .exact .inr ⟨kk,c,ec,cl x c _ ec z⟩
 .obtain⟨v,z⟩:=I.cell x c q
  exact⟨v,cl x c v q z⟩
 .obtain⟨a1,a2,a3,a4,a5⟩:=I.pin p hp
  exact⟨k.keep p.1 p.2 (λz=>(aI.mp (I.stkSub p.1 z)).elim a3 a4) (y.pin p hp) a1,a2,a3,a4,a5⟩
 .refine(I.hok b u q).stay (λc v hc r'=>k.keep c v ?_ ?_ r') (λξ z=>z) λξ ξ z=>z
  .rcases hc with z | z
   .rw[z];exact nH b u q
   .exact nH c _ z
  .rcases hc with z | z
   .rw[z];exact ag q hn
   .exact ag z hn
end
def CXG(cl:Prop)(P:Program)(w:World):CXT:=λouter H s E x s'=>∃e C dx H',x =.ref e/\s'.os=s.os/\AllBare s'.gens/\Un (frs outer) [] H H' s.heap s'.heap/\HOk P w H' s'.heap /\
 iF cl s'.heap e C dx/\s.heap.get? e=none/\H' e=none/\E (.ref C) (some dx) H'
abbrev CXF:Program->World->CXT:=CXG True
def gn(cl:Prop)(X:Cx)(E:XK):Prop:=∀(pins:List (Addr×Obj))(σ:St)(H:Hp)(s:Shared)(e C dx:Addr),Inv X pins σ H s->Fly cl s.heap e C dx->H e=none->fQ X pins e->E (.ref C) (some dx) H->X.xe (.ref e) s
theorem cN{cl:Prop}{P:Program}{w:World}{K:Fg_}{mg:Str->Option Value}{base:Heap}{N:List Str}{qual:Str}{scope:Scope}{f:Addr}{cd:Value}{A:Around}{outer:List Env}{s:Shared}{H:Hp}{E:XK} :
  gn cl (cW (CXG cl P w) P w K mg base N qual scope f cd A outer s H E) E:=by
 intro pins σ H1 s1 e C dx I fl hn y q;refine vf (outer:=outer) (L:=s.heap.objs.size) I.ok.frames I.stack rfl fl λh' ld k=>?_
 have I':=gm I hn y k
 exact⟨e,C,dx,H1,rfl,I'.os,I'.bare,I'.base,I'.hok,ld,y.new,hn,q⟩
theorem iX{cl:Prop}{X:Cx}{E:XK}(hf:gn cl X E)(hx:X.ex=[]):hZ (CXG cl X.prog X.w) X E:=by
 rintro pins σ H s e s' I ⟨e',C,dx,H',rfl,os,bare,un,hok,ld,new,hn,q⟩
 exact hf pins σ H' s' e' C dx (I.call' os un hok bare (ch:=[]) λb z=>aW z (by simp)) (.inr ld) hn (gO I hx new) q
section
variable {P:Program}{w:World}{K:Fg_}{mg:Str->Option Value}{base:Heap}{cl:Prop}
theorem okX{x qual:Str}{st:Stmt}{f:Addr}{fd:FuncData}{N ps:List Str}{k:Nat}{sp:Sp}(F:Fun K x qual st f fd)(S:bq N ps (aS st))(len:∀vs H Q E,sp vs H Q E->vs.length=ps.length)
  (B7:∀(AY:Value)(A:Around)(outer:List Env)(s:Shared)(H:Hp)(vs:List V)(Q:VK)(E:XK),cD k (A.deeper (envOfC qual (aS st) s.heap.objs.size f AY))->sp vs H Q E ->
   ∃t,PSs (cW (CXG cl P w) P w K mg base N qual (aS st) f AY A outer s H E) (fY st) t/\t { nx:=λξ H'=>Q .non H',rt:=Q } (iU N vs) H):bQ P w K mg base (CXG cl P w) (k+1) f fd ps sp:=by
 obtain⟨oc,od,kV,doc,pm,an,AY,ct,Ee,rfl,lk,Ea⟩:=F.ex
 exact zg lk Ea S len λA outer s H vs Q E hr Cn=>B7 AY A outer s H vs Q E hr Cn
theorem dG{N:List Str}{qual:Str}{scope:Scope}{f:Addr}{cd:Value}{A:Around}{outer:List Env}{s:Shared}{H:Hp}{E:XK} :
  hZ (CXG cl P w) (cW (CXG cl P w) P w K mg base N qual scope f cd A outer s H E) E:=iX cN rfl
end
def wD(o:Obj):Bool:=match o.data with
 | .dict es _=>es.all λe=>match e.key with | .str _ _=>true | _=>false
 | _=>false
structure mj(K:Fg_)(C fI:Addr):Prop where
 ex:∃(nm q:Str)(N:Addr)(bs:List Value)(sn:List Str)(sub:List Value)(ab:Bool)(col:Option Bool)(dd:Option Addr)(k0 k1 k2 k3 k5:Option Value)(oN:Obj),
  K.lookup C=some (excClassObj nm q C N bs bmE true sn sub ab col dd k0 k1 k2 k3 k5 "Exception.__new__")/\K.lookup N=some oN/\wD oN=true /\
  PySem.W.nsIn K N "__init__" =some (some (.ref fI))/\PySem.W.nsIn K N "__setattr__" =some none/\PySem.W.nsIn K N "__getattribute__" =some none/\PySem.W.nsIn K N "__getattr__" =some none /\
  PySem.W.nsIn K N "kind" =some none/\PySem.W.nsIn K N "place" =some none
 fn:PySem.W.isFn K (.ref fI)=true
 kp:PySem.W.keepIn K (.ref C)=true
theorem sW{K:Fg_}{h:Heap}{N:Addr}{m:Str->Option Value}{n:Str}{v:Value}(X:K.In h)(G:h.Ns N m)(e:PySem.W.nsIn K N n=some (some v)):m n=some v:=by
 obtain⟨o,es,ep,ho,hd,_,hf⟩:=G
 unfold PySem.W.nsIn at e;split at e
 .rename_i c d IW n' sl q
  have z:=X _ _ q
  rw[ho]at z;cases z;cases hd;split at e
  .rename_i en he
   cases e;rw[<-hf];unfold nsFind findBy;rw[<-Array.find?_toList,he];rfl
  .split at e<;>cases e
 .cases e
structure XAt(h:Heap)(C fI:Addr)(N:Addr)(mN:Str->Option Value):Prop where
 obj:∃(nm q:Str)(bs:List Value)(sn:List Str)(sub:List Value)(ab:Bool)(col:Option Bool)(dd:Option Addr)(k0 k1 k2 k3 k5:Option Value),
  h.get? C=some (excClassObj nm q C N bs bmE true sn sub ab col dd k0 k1 k2 k3 k5 "Exception.__new__")
 ns:h.Ns N mN
 ini:mN "__init__" =some (.ref fI)
 sa:mN "__setattr__" =none
 ga:mN "__getattribute__" =none
 gr:mN "__getattr__" =none
 kd:mN "kind" =none
 pl:mN "place" =none
theorem mj.at_{K:Fg_}{C fI:Addr}{h:Heap}(x:mj K C fI)(KX:K.In h):∃N mN,XAt h C fI N mN:=by
 obtain⟨nm,q,N,bs,sn,sub,ab,col,dd,k0,k1,k2,k3,k5,oN,l1,l2,ko,i1,i2,i3,i4,i5,i6⟩:=x.ex
 have hn:h.isNs N=true:=by
  unfold Heap.isNs;rw[KX _ _ l2];unfold wD at ko;exact ko
 have G:h.Ns N (h.nsMap N):=.of_isNs hn
 exact⟨N,h.nsMap N,⟨nm,q,bs,sn,sub,ab,col,dd,k0,k1,k2,k3,k5,KX _ _ l1⟩,G,sW KX G i1,fi KX G i2,fi KX G i3,fi KX G i4,fi KX G i5,fi KX G i6⟩
theorem yA:typeLookup (.type "Exception") "kind" =pure none:=by rw[typeLookup_type,builtinLookup_eq_fast];kernel_rfl
theorem wB:typeLookup (.type "Exception") "place" =pure none:=by rw[typeLookup_type,builtinLookup_eq_fast];kernel_rfl
def Fld(f:Str):Prop:=f = "kind"\/f = "place"
theorem Fld.lk{f:Str}(h:Fld f):typeLookup (.type "Exception") f=pure none:=by
 rcases h with rfl | rfl
 .exact yA
 .exact wB
theorem Fld.no{f:Str}(h:Fld f){hp:Heap}{C fI N:Addr}{mN:Str->Option Value}(x:XAt hp C fI N mN):mN f=none:=by
 rcases h with rfl | rfl
 .exact x.kd
 .exact x.pl
section
variable {X:Cx}{pins:List (Addr×Obj)}{σ:St}{H:Hp}{s:Shared}{e C fI dx:Addr}{f:Str}{v:V}{u:Value}{E:Value->Shared->Prop}{A:Around}
theorem qX{Q:Unit->Shared->Prop}(I:Inv X pins σ H s)(c:mj X.K C fI)(hf:Fld f)(he:H e=some (XE e C none))(rv:dw v u)
  (h:∀dx s',H dx=none->dx≠e->Inv X pins σ (upd (upd H dx (XD dx [(f,v)])) e (XE e C (some dx))) s'->Q () s'):wpAny (model X.prog X.w) A (setAttr (.ref e) f u) Q E s:=by
 obtain⟨N,mN,x⟩:=c.at_ I.kIn
 obtain⟨nm,q,bs,sn,sub,ab,col,dd,k0,k1,k2,k3,k5,hC⟩:=x.obj
 obtain⟨o,vs,ho,hc,hd,BB,h1⟩:=pw I.hok he
 have Dc:∀c,o.data≠.cls c:=λc z=>by rw[BB]at z;cases z
 obtain⟨hh,gg,dr,tt,oo⟩:=s
 refine rp PySem.F.store_Exception hC x.ns x.sa ho hc λA R tk t' hR=>?_
 refine rn PySem.F.store_Exception hC ho hc λA T E' hT=>?_
 refine uS hC x.ns (hf.no x) hf.lk ho hc hd Dc λh' FT e1 e2 e3=>hT _ (hR _ ?_)
 have Bk:H hh.objs.size=none:=I.hok.fresh (aF _)
 have Mr:hh.objs.size≠e:=λz=>by rw[z,he]at Bk;cases Bk
 refine h hh.objs.size _ Bk Mr ?_
 have nE:∀b w,H b=some w->(∀φ,w≠.ext φ)->b≠e:=λb w q nw=>dC q he (nw _)
 have nS:∀b w,H b=some w->b≠hh.objs.size:=λb w q=>ag q Bk
 have at_:∀b w,H b=some w->(∀φ,w≠.ext φ)->upd (upd H hh.objs.size (XD hh.objs.size [(f,v)])) e (XE e C (some hh.objs.size)) b=some w:=λb w q nw=>by
  rw[aj (nE b w q nw),aj (nS b w q)];exact q
 have un:Un X.fs [] H (upd (upd H hh.objs.size (XD hh.objs.size [(f,v)])) e (XE e C (some hh.objs.size))) hh h':=by
  refine⟨λb w q n ξ ξ=>e3 b w (λz=>by rw[z,he]at n;cases n) q,λb w q n ξ ξ=>⟨w.slots,e3 b w (λz=>by rw[z,he]at n;cases n) q⟩,λb w q n ξ=>?_,λb w q ξ=>?_,
   λb xs q=>at_ b _ q (λξ z=>nomatch z),λb w xs q=>at_ b _ q (λξ z=>nomatch z),λb ps q=>⟨#[],by rw[at_ b _ q (λξ z=>nomatch z)];simp⟩⟩
  .rw[aj (λz=>by rw[z,he]at n;cases n),aj (bG (aZ q))];exact n
  .by_cases z:b=e
   .exact⟨_,by rw[z];exact e1⟩
   .exact⟨w,e3 b w z q⟩
 refine I.un (h':=h') un λb w q=>?_
 by_cases z:b=e
 .subst z;rw[aC]at q;cases q;exact qN e1 hc rfl BB h1
 .rw[aj z]at q;by_cases z2:b=hh.objs.size
  .subst z2;rw[aC]at q;cases q;refine vv e2 (λg=>?_) λg hg=>?_
   .show jN (List.lookup g [(f,v)]) (if g=f then some u else none)
    by_cases y:g=f
    .have hb:(g==f)=true:=beq_iff_eq.mpr y
     simp only[List.lookup,hb,ax y];exact rv
    .have hb:(g==f)=false:=bu.mpr y
     simp only[List.lookup,hb,ay y];trivial
   .by_cases y:g=f
    .simp[y]
    .exact aW (show(if g=f then some u else none)=none from ay y) hg
  .rw[aj z2]at q;refine(I.hok b w q).stay (λb' v' hc' r=>e3 b' v' ?_ r) (λb' r=>at_ b' _ r (λξ z=>nomatch z)) λb' xs r=>at_ b' _ r (λξ z=>nomatch z)
   rcases hc' with y | y
   .rw[y];exact z
   .exact nE b' _ y (λξ z=>nomatch z)
theorem sJ{Q:Unit->Shared->Prop}{fs:List (Str×V)}(I:Inv X pins σ H s)(c:mj X.K C fI)(hf:Fld f)(he:H e=some (XE e C (some dx)))(hd:H dx=some (XD dx fs))(BH:dx≠e)(hl:fs.length<=1000)(rv:dw v u)
  (h:∀s',Inv X pins σ (upd H dx (XD dx (fS f v fs))) s'->Q () s'):wpAny (model X.prog X.w) A (setAttr (.ref e) f u) Q E s:=by
 obtain⟨N,mN,x⟩:=c.at_ I.kIn
 obtain⟨nm,q,bs,sn,sub,ab,col,dd,k0,k1,k2,k3,k5,hC⟩:=x.obj
 obtain⟨o,vs,ho,hc,Ny,BB,h1⟩:=pw I.hok he
 obtain⟨mA,n1,rl,wi⟩:=y0 I.hok hd
 obtain⟨hh,gg,dr,tt,oo⟩:=s
 refine rp PySem.F.store_Exception hC x.ns x.sa ho hc λA R tk t' hR=>?_
 refine rn PySem.F.store_Exception hC ho hc λA T E' hT=>?_
 refine sP hC x.ns (hf.no x) hf.lk ho hc Ny BH n1 wi (by rw[au];exact hl) λh' FT e1 e3=>hT _ (hR _ (h _ ?_))
 have hex:∃z,h'.get? dx=some z:=let ⟨z,_,_,r,_⟩:=e1;⟨z,r⟩
 refine I.write (h':=h') (x:=dx) (e:=dx) (by rw[hd];exact True.intro) (.inl rfl) (λb w hb r=>e3 b w hb r) hex ?_
 refine vv e1 (λg=>?_) λg hg=>?_
 .show jN ((fS f v fs).lookup g) (if g=f then some u else mA g)
  rw[jG];by_cases y:g=f
  .rw[ax y,ax y];exact rv
  .rw[ay y,ay y];exact rl g
 .by_cases y:g=f
  .rw[y];exact(i9 f v fs).1
  .refine(i9 f v fs).2 g (wi g λz=>hg ?_)
   show(if g=f then some u else mA g)=none
   rw[ay y];exact z
end
section
variable {M:Model}{A:Around}{E:Value->Shared->Prop}{env:Env}
variable {nm q:Str}{C N:Addr}{bs:List Value}{sn:List Str}{sub:List Value}{ab:Bool}{col:Option Bool}{dd:Option Addr}{k0 k1 k2 k3 k5:Option Value}{ni:String}
theorem v8{s:Shared}{x:Sem Value}{Q:Flow->Shared->Prop}(hh:A.handled=none)
  (h:wpAny M A x (λv s1=>∃(e:Addr)(nm q:Str)(N:Addr)(bs:List Value)(sn:List Str)(sub:List Value)(ab:Bool)(col:Option Bool)(dd:Option Addr)(k0 k1 k2 k3 k5:Option Value)(o:Obj)(vs:Array Value),
   v =.ref e/\s1.heap.get? C=some (excClassObj nm q C N bs bmE true sn sub ab col dd k0 k1 k2 k3 k5 "Exception.__new__") /\
   s1.heap.get? e=some o/\o.cls =.ref C/\o.data =.fields vs/\vs[1]? =some .none/\E (.ref e) s1) E s) :
  wpAny M A (raiseStmt env (some x) none) Q E s:=by
 have IK:∀C:Addr,(Value.ref C::bmE).contains (.type "BaseException")=true:=λC=>by rw[fk,show bmE.contains (.type "BaseException")=true from by decide +kernel,Bool.or_true]
 unfold raiseStmt;refine aH (wpAny_mono h (λv s1 h1=>?_) λξ ξ z=>z)
 obtain⟨e,nm,q,N,bs,sn,sub,ab,col,dd,k0,k1,k2,k3,k5,o,vs,rfl,hC,he,hc,hd,hv,hE⟩:=h1
 obtain⟨hp,g,d,tk,os⟩:=s1
 repeat (first
  | (with_reducible refine wpAny_loadPart_at he ?_;rw[hc])
  | (with_reducible refine wpAny_loadPart_at he ?_)
  | with_reducible refine wpAny_loadPart_at hC ?_
  | (with_reducible refine wpAny_isSubtype_exc hC ?_;rw[IK])
  | with_reducible refine wpAny_field he hd hv ?_
  | wp_step)
 exact wpAny_raiseNew_none hh hE
end
section
variable {X:Cx}{C fI:Addr}{o value e:Expr}{f:Str}{pos pos':Pos}{ta tv:TE}
def sX1(C:Addr)(ta tv:TE)(f:Str):TS:=λD σ H=>tv σ H λy H1=>ta σ H1 λx H2=>∃e,x =.ref e/\H2 e=some (XE e C none)/\∀dx,H2 dx=none->dx≠e->D.nx σ (upd (upd H2 dx (XD dx [(f,y)])) e (XE e C (some dx)))
def sX2(C:Addr)(ta tv:TE)(f:Str):TS:=λD σ H=>tv σ H λy H1=>ta σ H1 λx H2=>∃e dx fs,x =.ref e/\H2 e=some (XE e C (some dx))/\H2 dx=some (XD dx fs)/\dx≠e/\fs.length<=1000/\D.nx σ (upd H2 dx (XD dx (fS f y fs)))
theorem ps_x1(c:mj X.K C fI)(hf:Fld f)(ha:PE X o ta)(hv:PE X value tv)(hs:swapsWith value (some (.Attribute o f pos')) pos.line X.env=pure false):PS X (.Assign [.Attribute o f pos'] value pos) (sX1 C ta tv f):=by
 intro pins s σ H D I h;refine plainObj_wpAny_Assign_Attribute (thn (hv pins s σ H _ I h) λu s1 ⟨y,H1,I1,ry,q⟩=>thn (ha pins s1 σ H1 _ I1 q) λov s2 A9=>?_) hs
 obtain⟨x,H2,I2,rx,a,ex,ea,q2⟩:=A9
 subst ex;obtain rfl:ov=Value.ref a:=rx
 exact qX I2 c hf ea ry λdx s3 n ne I3=>⟨σ,_,I3,q2 dx n ne⟩
theorem ps_x2(c:mj X.K C fI)(hf:Fld f)(ha:PE X o ta)(hv:PE X value tv)(hs:swapsWith value (some (.Attribute o f pos')) pos.line X.env=pure false):PS X (.Assign [.Attribute o f pos'] value pos) (sX2 C ta tv f):=by
 intro pins s σ H D I h;refine plainObj_wpAny_Assign_Attribute (thn (hv pins s σ H _ I h) λu s1 ⟨y,H1,I1,ry,q⟩=>thn (ha pins s1 σ H1 _ I1 q) λov s2 A9=>?_) hs
 obtain⟨x,H2,I2,rx,a,dx,fs,ex,ea,ed,ne,l,q2⟩:=A9
 subst ex;obtain rfl:ov=Value.ref a:=rx
 exact sJ I2 c hf ea ed ne l ry λs3 I3=>⟨σ,_,I3,q2⟩
end
def kp(k p:V):List (Str×V):=[("kind",k),("place",p)]
def lM(C:Addr):Sp:=λvs H Q ξ=>∃(e:Addr)(k p:V),vs=[.ref e,k,p]/\H e=some (XE e C none)/\∀dx H',dx≠e->H' e=some (XE e C (some dx))->H' dx=some (XD dx (kp k p))->Q .non H'
theorem ie{P:Program}{w:World}{H:Hp}{h:Heap}{a:Addr}{o:HO}(x:fe P w H h a o):∃ob,h.get? a=some ob:=by
 cases o with
 | lst xs=>obtain⟨_,_,_,_,e⟩:=x;exact⟨_,e⟩
 | tup xs=>obtain⟨_,_,_,_,e,_⟩:=x;exact⟨_,e⟩
 | dK Br=>obtain⟨_,_,_,_,o,_,_,e,_⟩:=x;exact⟨_,e⟩
 | dT Br=>obtain⟨_,_,_,_,o,_,_,e,_⟩:=x;exact⟨_,e⟩
 | set S n=>obtain⟨o,_,_,_,e,_⟩:=x;exact⟨_,e⟩
 | ins C dx fs=>obtain⟨_,_,_,e,_⟩:=x;exact⟨_,e⟩
 | own y=>obtain⟨_,e⟩:=x;exact⟨_,e⟩
 | xd fs=>obtain⟨_,⟨_,_,_,e,_⟩,_⟩:=x;exact⟨_,e⟩
 | rng lo hi=>obtain⟨_,_,_,e⟩:=x;exact⟨_,e⟩
 | frz ob u=>obtain⟨e,_⟩:=x;exact⟨_,e⟩
 | tbl ps=>exact⟨_,x⟩
 | met f y=>exact⟨_,x⟩
 | ext φ=>obtain⟨_,e,_⟩:=x;exact e
def Err(E:XK)(C:Addr)(k p:V):Prop:=∀H' dx,H' dx=some (XD dx (kp k p))->E (.ref C) (some dx) H'
def Aq(C:Addr)(E:XK)(t:TA):TS:=λξ σ H=>t σ H λvs ξ=>∃k p,vs=[k,p]/\Err E C k p
section
variable {X:Cx}{C fI:Addr}{fd:FuncData}{x:Str}{np Bc pos:Pos}{a b:Expr}{E:XK}{t:TA}{k:Nat}{cl:Prop}
theorem eJ(c:mj X.K C fI)(F:bQ X.prog X.w X.K X.mg X.base CX0 k fI fd ["self","kind","place"] (lM C))(ES:bZ X.K fd ["self","kind","place"] [])(hr:cD (k+1) X.A)(Ct:gn cl X E)(BM:X.ex=[])(hg:Gl X x)(hm:X.mg x=some (.ref C))
  (ha:PA X [a,b] t)(BP:(x==("__debug__" :Str))=false:=by decide)(A':starEach [a,b] X.env=(false,eval a X.env)::starEach [b] X.env:=by rfl)(Bn:(backTo Bc (starEach [b] X.env)).any (·.1)=false:=by rfl) :
  PS X (.Raise (some (.Call (.Name x np) [a,b] [] Bc)) none pos) (Aq C E t):=by
 intro pins s σ H D I h;rw[arm_exec_Raise];refine aH (wpAny_standAt (v8 (C:=C) hr.hd (aH (m:=eval (.Call (.Name x np) [a,b] [] Bc) X.env) ?_)))
 refine wpAny_Call_Name_kw (fX I hg hm ?_ BP)
 refine PySem.W.callWith_K (h₀:=X.base) I.ok.mod.kin c.kp (thn (ha Bc pins s σ H _ I h) λus s1 ⟨vs,H1,I1,r,kv,pv,ev,q⟩=>⟨I1.kIn,?_⟩) A' Bn
 subst ev;cases r with
 | @cons _ u1 _ r1 rv1 rr1 =>
 cases rr1 with
 | @cons _ u2 _ r2 Ij rr2 =>
 cases rr2;obtain⟨N,mN,xa⟩:=c.at_ I1.kIn
 obtain⟨nm,q',bs,sn,sub,ab,col,dd,k0,k1,k2,k3,k5,hC⟩:=xa.obj
 have fn:=c.fn
 unfold PySem.W.isFn at fn;have Gk:=beq_iff_eq.mp fn
 unfold PySem.W.typeIn at Gk;obtain⟨oI,JU,Kc⟩:=gq.mp Gk
 obtain⟨hh,gg,dr,tt,oo⟩:=s1
 refine wpAny_call_exc_init PySem.F.excBase_Exception hC xa.ns xa.ini (I1.kIn _ _ JU) Kc (λh' e md=>?_) (by show 2<=sizeLine;decide)
 obtain⟨tu,e1,e2,e3⟩:=md.there
 have he:H1 e=none:=by
  cases z:H1 e with
  | none=>rfl
  | some w =>
   obtain⟨oz,hz⟩:=ie (I1.hok e w z)
   rw[md.new]at hz;cases hz
 have y:fQ X pins e:=gO I1 BM md.new
 have I2:Inv X pins σ (upd H1 e (XE e C none)) ⟨h',gg,dr,tt,oo⟩ :=
  jW (I1.kept (h':=h') (t':=tt) md.keeps) y he (qN e1 rfl rfl rfl ⟨rfl,rfl,by show 4<6;decide⟩)
 have Cn:lM C [.ref e,kv,pv] (upd H1 e (XE e C none)) (λv H'=>v =.non/\∃dx,dx≠e/\H' e=some (XE e C (some dx))/\H' dx=some (XD dx (kp kv pv))) E0 :=
  ⟨e,kv,pv,rfl,aC,λdx H' z1 z2 z3=>⟨rfl,dx,z1,z2,z3⟩⟩
 refine wpAny_call (codeAny_mono (F.run _ X.stack _ _ ⟨[.ref e,u1,u2],[]⟩ [.ref e,u1,u2] [.ref e,kv,pv] _ _ (hr.make C [u1,u2] []) (I2.env0.make C [u1,u2] []) ?_ (.cons rfl (.cons rv1 (.cons Ij .nil))) Cn) λr s' hq=>?_)
 .exact ES _ [.ref e,u1,u2] I2.kIn rfl
 .cases r with
  | error x=>exact hq.elim
  | ok fl =>
   cases fl with
   | next=>exact False.elim hq
   | brk=>exact False.elim hq
   | cont=>exact False.elim hq
   | ret u =>
    obtain⟨v,H',I3,rv,ev,dx,z1,z2,z3⟩:=I2.after hq
    subst ev;refine⟨rv,aH (wpAny_standAt (bM ?_))⟩
    obtain⟨N3,Y2,So⟩:=c.at_ I3.kIn
    obtain⟨S4,q3,XQ,SD,L8,X6,Oi,Ws,j0,j1,j2,j3,j5,V0⟩:=So.obj
    obtain⟨o,vs,ho,hc,hd,BB,h1⟩:=pw I3.hok z2
    refine⟨e,S4,q3,N3,XQ,SD,L8,X6,Oi,Ws,j0,j1,j2,j3,j5,o,vs,rfl,V0,ho,hc,BB,h1.1,?_⟩
    exact Ct pins σ (oZ H' e) s' e C dx (oW I3 z2) (.inl ⟨o,vs,ho,hc,hd,BB,h1.1,λξ=>h1.2.1⟩) iq y (q _ dx (by rw[fW z1];exact z3))
end
abbrev Xm(X:Cx)(v:Value)(xe:Value->Shared->Prop):Cx:={ X with A:=X.A.mark (some v),calm:=false,xe:=xe }
section
variable {X:Cx}{pins:List (Addr×Obj)}{σ:St}{H:Hp}{s:Shared}{v:Value}{xe:Value->Shared->Prop}
theorem ok_in(ok:X.Ok):(Xm X v xe).Ok :=
 ⟨ok.mod,ok.kind,ok.glob,ok.blt,ok.above,ok.inj,ok.has,ok.cab,λz=>Bool.noConfusion z,ok.frames,ok.stk,ok.exf,ok.bs,ok.bsz,ok.noex,ok.exfs,ok.funs,ok.frf⟩
theorem ow(I:Inv X pins σ H s):Inv (Xm X v xe) pins σ H s:=⟨ok_in I.ok,I.os,I.bare,I.base,I.loc,I.cell,I.free,I.freeC,I.pin,I.hok,I.len⟩
theorem qx(ok:X.Ok)(I:Inv (Xm X v xe) pins σ H s):Inv X pins σ H s:=⟨ok,I.os,I.bare,I.base,I.loc,I.cell,I.free,I.freeC,I.pin,I.hok,I.len⟩
def hW(X:Cx):St:=List.replicate X.N.length none
theorem tj(I:Inv X pins σ H s):Inv X pins (hW X) H s:=I.weak (by unfold hW;rw[gF,I.len]) λi v e=>by
 unfold hW at e;rw[gi]at e;split at e<;>cases e
theorem tf{h':Heap}{m':Str->Option Value}{t':Nat}(I:Inv X pins σ H s)(hn:h'.Ns X.env.locals m')(hs:Heap.SameBut X.env.locals s.heap h'):Inv X pins (hW X) H { s with heap:=h',toks:=t' }:=by
 have nl:∀b o,X.s_0.heap.get? b=some o->b≠X.env.locals:=λb o q=>bG (aR (aZ q) I.ok.above)
 refine⟨I.ok,I.os,I.bare,⟨λb o e n hb hx=>?_,λb o e n hb hx=>?_,I.base.free,λb o e hx=>?_,I.base.tups,I.base.frzs,I.base.tbls⟩,⟨m',hn,λj y v' e1 e2 e3=>?_⟩,λy c e=>?_,I.free,I.freeC,λp hp=>?_,λb o e=>?_,by unfold hW;rw[gF]⟩
 .exact(hs.2 b (nl b o e)).trans (I.base.keep b o e n hb hx)
 .obtain⟨sl,q⟩:=I.base.slot b o e n hb hx
  exact⟨sl,(hs.2 b (nl b o e)).trans q⟩
 .obtain⟨o',q⟩:=I.base.there b o e hx
  exact⟨o',(hs.2 b (nl b o e)).trans q⟩
 .unfold hW at e2;rw[gi]at e2;split at e2<;>cases e2
 .obtain⟨w',z⟩:=I.cell y c e
  exact⟨w',z.sameBut hs (I.cne y c e)⟩
 .obtain⟨e,n,ne,nf,d⟩:=I.pin p hp
  exact⟨(hs.2 p.1 ne).trans e,n,ne,nf,d⟩
 .refine(I.hok b o e).stay (λc w' hc q=>(hs.2 c ?_).trans q) (λξ q=>q) λξ ξ q=>q
  rintro rfl
  rcases hc with z | hc
  .rw[<-z,I.free]at e;cases e
  .rw[I.free]at hc;cases hc
end
abbrev Xt(X:Cx)(pn:List (Addr×Obj))(xe:Value->Shared->Prop):Cx:={ X with pn:=pn,xe:=xe }
section
variable {X:Cx}{pins BC:List (Addr×Obj)}{σ:St}{H:Hp}{s:Shared}{xe:Value->Shared->Prop}
theorem ok_t(ok:X.Ok){pn:List (Addr×Obj)}:(Xt X pn xe).Ok :=
 ⟨ok.mod,ok.kind,ok.glob,ok.blt,ok.above,ok.inj,ok.has,ok.cab,ok.hd,ok.frames,ok.stk,ok.exf,ok.bs,ok.bsz,ok.noex,ok.exfs,ok.funs,ok.frf⟩
theorem ok_u{pn:List (Addr×Obj)}(ok:(Xt X pn xe).Ok):X.Ok :=
 ⟨ok.mod,ok.kind,ok.glob,ok.blt,ok.above,ok.inj,ok.has,ok.cab,ok.hd,ok.frames,ok.stk,ok.exf,ok.bs,ok.bsz,ok.noex,ok.exfs,ok.funs,ok.frf⟩
theorem kT(I:Inv X pins σ H s):Inv (Xt X (X.pn++pins) xe) [] σ H s :=
 ⟨ok_t I.ok,I.os,I.bare,I.base,I.loc,I.cell,I.free,I.freeC,λp hp=>I.pin p (by simpa using hp),I.hok,I.len⟩
theorem gY(I:Inv (Xt X (X.pn++pins) xe) BC σ H s):Inv X pins σ H s :=
 ⟨ok_u I.ok,I.os,I.bare,I.base,I.loc,I.cell,I.free,I.freeC,λp hp=>I.pin p (aB _ hp),I.hok,I.len⟩
theorem gH{e:Addr}(y:fQ (Xt X (X.pn++pins) xe) BC e):fQ X pins e:=⟨y.new,y.loc,y.cel,λp hp=>y.pin p (aB _ hp),y.out⟩
theorem oP{D:js}{f:Flow}(ok:X.Ok)(h:SP (Xt X (X.pn++pins) xe) BC D f s):SP X pins D f s:=by
 cases f with
 | next=>obtain⟨σ',H',I,q⟩:=h;exact⟨σ',H',gY I,q⟩
 | brk=>obtain⟨σ',H',I,q⟩:=h;exact⟨σ',H',gY I,q⟩
 | cont=>obtain⟨σ',H',I,q⟩:=h;exact⟨σ',H',gY I,q⟩
 | ret u=>obtain⟨v,σ',H',I,r,q⟩:=h;exact⟨v,σ',H',gY I,r,q⟩
end
def txe(X:Cx)(pins:List (Addr×Obj))(D:js)(hs:List ExceptHandler):Value->Shared->Prop:=λe s1 =>
 wpAny (model X.prog X.w) X.A (noteFrame e X.env) (λξ s2=>wpAny (model X.prog X.w) X.A (setFlight e none) (λξ s3=>wpAny (model X.prog X.w) X.A (handleBy e X.env hs) (SP X pins D) X.xe s3) X.xe s2) X.xe s1
def Rt(D:js):js:={ nx:=λξ ξ=>False,rt:=D.rt }
theorem uL{X:Cx}{pins:List (Addr×Obj)}{v:Value}{xe:Value->Shared->Prop}{D:js}{f:Flow}{s:Shared}(ok:X.Ok)(h:SP (Xm X v xe) pins (Rt D) f s):SP X pins D f s:=by
 cases f with
 | next=>obtain⟨_,_,_,q⟩:=h;exact q.elim
 | brk=>obtain⟨_,_,_,q⟩:=h;exact q.elim
 | cont=>obtain⟨_,_,_,q⟩:=h;exact q.elim
 | ret u=>obtain⟨v,σ',H',I,r,q⟩:=h;exact⟨v,σ',H',qx ok I,r,q⟩
section
variable {cl:Prop}{X:Cx}{C fI:Addr}{x n:Str}{np CD pos:Pos}{body:List Stmt}{b0:Stmt}{Pw:List Stmt}{tb:XK->TS}{ts:TS}{i:Nat}
theorem vF{e dx:Addr}{pins:List (Addr×Obj)}{σ:St}{H:Hp}{s:Shared}{R:Result->Shared->Prop}(c:mj X.K C fI)(hg:Gl X x)(hm:X.mg x=some (.ref C))(BP:(x==("__debug__" :Str))=false)
  (I:Inv X pins σ H s)(ld:iF cl s.heap e C dx)(h:R (.ok .brk) s):codeAny (model X.prog X.w) (X.A.mark (some (.ref e))) (.handlers (.ref e) [.ExceptHandler (some (.Name x np)) none [] CD] X.env) R s:=by
 refine codeAny_handlers_test (fX (X:=Xm X (.ref e) λξ ξ=>False) (ow I) hg hm ?_ BP)
 obtain⟨N,mN,xa⟩:=c.at_ I.kIn
 obtain⟨nm,q',bs,sn,sub,ab,col,dd,k0,k1,k2,k3,k5,hC⟩:=xa.obj
 obtain⟨o,vs,T,oT,L7,he,hc,Bx,hd,h1,EV,hT,B6,h3⟩:=ld
 obtain⟨hh,gg,dr,tt,oo⟩:=s
 exact wpAny_excMatches_sub_self hC he hc (by decide +kernel) h
end
end L2.XC
namespace L2
open PySem PySem.Spec PyProof.Rows
theorem jL:bootBuiltins "reversed" =some (.type "reversed"):=by decide +kernel
section
variable {X:Cx}
theorem sR{tg:Expr}{pins:List (Addr×Obj)}{σ:St}{H:Hp}{s:Shared}{R:It->Hp->Prop}{J:It}{tn:Nat->Heap->Prop}{tk:Nat}(I:Inv X pins σ H s)(o:Obj)
  (T:Turn X.prog X.w X.K tg J [s.heap.objs.size] s.heap.objs.size tn)(st:tn 0 (s.heap.push o))(q:R J H):PIE X pins σ tg R (.ref s.heap.objs.size) { s with heap:=s.heap.push o,toks:=tk }:=by
 refine⟨s.heap.objs.size,[s.heap.objs.size],tn,J,H,rfl,I.kept λb ob e=>aL _ e,T,st,λb hb=>?_,q⟩
 have e:b=s.heap.objs.size:=by simpa using hb
 subst e;exact I.fpOk (aF _) (I.hok.fresh (aF _))
end
def Itv(K:Fg_)(a:Addr)(n:Nat):It :=
 ⟨λi H=>i<n/\∃(xs:List V)(x:V),SqL K H a xs/\xs[n-1-i]? =some x,λi H x H'=>H'=H/\∀xs,SqL K H a xs->xs[n-1-i]? =some x,λi ξ=>n<=i⟩
theorem vC{P:Program}{w:World}{K:Fg_}{tg:Expr}(a it:Addr)(n:Nat):Turn P w K tg (Itv K a n) [it] it (λi h=>i<=n/\h.IsRevIter it a ((n:Int)-1-(i:Nat))) where
 mem:=by simp
 obj:=λi h st b hb=>by
  have e:b=it:=by simpa using hb
  subst e;obtain⟨_,o,e,c,d⟩:=st
  exact⟨o,e,λv z=>by rw[d]at z;cases z⟩
 keep:=λi h h' st k=>⟨st.1,st.2.at λo e=>k it (by simp) o e⟩
 item:=by
  intro X hP hw hK hc i pins s σ H E I hf st hg;subst hP hw hK;obtain⟨Fd,xs,x,hq,hx⟩:=hg
  obtain⟨AX,rv,p,hz⟩:=I.list hq
  obtain⟨u,hu,ru⟩:=rv.get hx
  obtain⟨f0,f1,f2,f3,f4,f5⟩:=hf it (by simp)
  obtain⟨_,hit⟩:=st
  have e1:(n:Int)-1-((i:Nat):Int)=((n-1-i:Nat):Int):=by lia
  rw[e1]at hit;refine wpAny_pyNext_rev_item hit p.isList (x:=u) (by simpa using hu) λh' Ck sb=>?_
  have e2:((n-1-i:Nat):Int)-1=(n:Int)-1-((i+1:Nat):Int):=by lia
  rw[e2]at Ck
  have I1:Inv X pins σ H { s with heap:=h' }:=I.turned (t':=s.toks) (λb o hb e=>(sb.2 b hb).trans e) f0 f1 f3 f4 f5
  obtain⟨o,e,c,d⟩:=id Ck
  exact⟨u,rfl,go_of (s:={ s with heap:=h' }) e c d (by decide) ⟨x,H,I1,ru,⟨rfl,λys hy=>by rw[I.list_inj hy hq];exact hx⟩,⟨Fd,Ck⟩,λb hb=>(hf b hb).1⟩⟩
 done:=by
  intro X hP hw hK hc i pins s σ H E I hf st hg;subst hP hw hK;obtain⟨f0,f1,f2,f3,f4,f5⟩:=hf it (by simp)
  obtain⟨Fd,hit⟩:=st
  have Zf:n<=i:=hg
  have e1:(n:Int)-1-((i:Nat):Int) =-1:=by lia
  rw[e1]at hit;exact wpAny_pyNext_rev_end (I.ok.hd hc) hit λh' eb=>⟨rfl,I.turned (t':=s.toks) (λb o hb e=>eb b o hb e) f0 f1 f3 f4 f5⟩
 self:=λA i s Q E st h=>wpAny_pyIter_revIter st.2 h
def iRev(K:Fg_)(ta:TA):TI:=λσ H R=>ta σ H λvs H1=>∃(a:Addr)(xs:List V),vs=[.ref a]/\SqL K H1 a xs/\R (Itv K a xs.length) H1
section
variable {X:Cx}{tg:Expr}
theorem rC{e:Expr}{ta:TA}{p pos:Pos}(hg:Gl X "reversed")(hm:X.mg "reversed" =none)(ha:PA X [e] ta)(hs:starEach [e] X.env=[(false,eval e X.env)]:=by rfl):PI X tg (.Call (.Name "reversed" p) [e] [] pos) (iRev X.K ta):=by
 intro pins s σ H R I h;refine Call_ (jH I hg hm jL (PyProof.Rows.callWith_type1 (thn (ha pos pins s σ H _ I h) λus s1 A9=>?_) hs rfl))
 obtain⟨vs,H1,I1,r1,q1⟩:=A9
 obtain⟨a,xs,e,hq,q⟩:=q1
 subst e;cases r1 with
 | cons r rr =>
  cases rr;cases r;obtain⟨AX,rv,p',hz⟩:=I1.list hq
  have hl:=rv.length
  have e1:((AX.toArray.size:Nat):Int)-1=(xs.length:Int)-1-((0:Nat):Int):=by simp only[aU];lia
  refine call_reversed_list p'.isList (wpAny_pyIter_revIter (l:=a) (i:=((AX.toArray.size:Nat):Int)-1) ⟨_,bx _ rfl,rfl,rfl⟩ ?_)
  refine sR (tk:=s1.toks) I1 _ (vC a _ xs.length) ⟨aX _,?_⟩ q
  rw[<-e1];exact⟨_,bx _ rfl,rfl,rfl⟩
end
theorem yL{K:Fg_}{a:Addr}{xs:List V}{g:TG}{tb:TS}{D:js}{σ:St}{H:Hp}(Pv:Nat->St->Hp->Prop)(h0:Pv 0 σ H)(hl:∀i σ H,i<=xs.length->Pv i σ H->SqL K H a xs)
  (hs:∀i x σ H,i<xs.length->xs[xs.length-1-i]? =some x->Pv i σ H->g x σ H λσ2 H2=>tb { D with nx:=Pv (i+1),ct:=Pv (i+1),bk:=D.nx } σ2 H2)(hd:∀σ H,Pv xs.length σ H->D.nx σ H) :
  ∃W:Nat->Nat->St->Hp->Prop,(∃m,W 0 m σ H)/\∀i m σ H,W i m σ H ->
   ((Itv K a xs.length).stop i H/\D.nx σ H)\/((Itv K a xs.length).go i H/\∃N:St->Hp->Prop,(∀σ' H',N σ' H'->∃m',m'<m/\W (i+1) m' σ' H')/\∀x H',(Itv K a xs.length).yld i H x H'->g x σ H' λσ2 H2=>tb { D with nx:=N,ct:=N,bk:=D.nx } σ2 H2):=by
 refine⟨λi m σ H=>m=xs.length-i/\i<=xs.length/\Pv i σ H,⟨xs.length,by simp,aX _,h0⟩,?_⟩
 rintro i m σ H ⟨rfl,hi,p⟩
 have q:=hl i σ H hi p
 by_cases Bh:i<xs.length
 .refine .inr ⟨⟨Bh,xs,xs[xs.length-1-i],q,aO _⟩,Pv (i+1),λσ' H' p'=>⟨xs.length-(i+1),(df _ _ Bh),rfl,Bh,p'⟩,λx H' y=>?_⟩
  obtain⟨e,y⟩:=y
  subst e;exact hs i x σ _ Bh (y xs q) p
 .have e:i=xs.length:=(cu hi (bg Bh))
  subst e;exact .inl ⟨aF _,hd σ H p⟩
end L2
namespace HT
open PySem PyProof.Rows
open PySem.AutoSeq1 (wpAny_loadPart')
open PySem.MeetsSeq PySem.MeetsSeq2 PySem.MeetsSeq3
def lexB(q:Bool):List Int->List Int->Bool
 | [],[]=>q
 | [],_::_=>true
 | _::_,[]=>false
 | x::xs,y::ys=>if x=y then lexB q xs ys else decide (x<y)
abbrev oB(q:Bool):CmpOp:=match q with | true=>.LtE | false=>.Lt
theorem rcB{q:Bool}{A:Around}{s:Shared}{a c:Int}{t u:Tok}(n:¬a=c)(prog:Program)(w:World)(E:Value->Shared->Prop)(Q:Value->Shared->Prop)(h:Q (.bool (decide (a<c))) s) :
  wpAny (model prog w) A (richCompare (oB q) (.int a t) (.int c u)) Q E s:=by
 cases q
 .exact(PyProof.Rows.lt_int h:wpAny (model prog w) A (compareOp .Lt (.int a t) (.int c u)) Q E s)
 .exact(PyProof.Rows.le_int (by rw[decide_eq_decide.mpr (show a<=c↔a<c by omega)];exact h):wpAny (model prog w) A (compareOp .LtE (.int a t) (.int c u)) Q E s)
theorem qy:∀{vs:List Value}{ns:List Int}{i:Nat},IntsAre vs ns->i<ns.length->∃t,vs[i]? =some (.int (ns[i]?.getD 0) t)
 | _,_,0,.cons n t _,_=>⟨t,by simp⟩
 | _,_,i+1,.cons n t r,h=>by
  obtain⟨u,e⟩:=qy (i:=i) r (by simpa using h)
  exact⟨u,by simpa using e⟩
theorem yB{q:Bool}{n:Nat}{ms:List Int}(e:n<=ms.length):lexB q [] (ms.drop n)=(match q with | true=>decide (n<=ms.length) | false=>decide (n<ms.length)):=by
 cases hm:ms.drop n with
 | nil =>
  cases q
  .exact(ai (eB (List.drop_eq_nil_iff.mp hm))).symm
  .exact(ah e).symm
 | cons y ys =>
  cases q
  .exact(ah (dQ λz=>by rw[List.drop_eq_nil_iff.mpr z]at hm;cases hm)).symm
  .exact(ah e).symm
theorem yC(q:Bool)(l b:Addr)(items Bi:Array Value)(n n2:Nat)(ns ms:List Int)(hi:IntsAre items.toList ns)(hj:IntsAre Bi.toList ms)(k:Nat) :
  ∀i:Nat,i<=ns.length->i<=ms.length->ns.length-i=k->Meets (Builtin.«list.__eq__.loop» ⟨[.ref l,.ref b,rawInt i,rawInt (match q with | true=>1 | false=>0)],[]⟩)
   (λξ R s=>s.heap.get? l=some { cls:=.type "list",dict:=none,data:=.seq items n,slots:=#[] }/\s.heap.get? b=some { cls:=.type "list",dict:=none,data:=.seq Bi n2,slots:=#[] } /\
    R (.ok (.ret (.bool (lexB q (ns.drop i) (ms.drop i))))) s):=by
 have z1:items.size=ns.length:=by rw[<-hi.length];simp
 have z2:Bi.size=ms.length:=by rw[<-hj.length];simp
 induction k with
 | zero =>
  intro i b1 b2 hk prog w A R s h;obtain⟨hp,g,d,tk,os⟩:=s
  obtain⟨hl,hb,h⟩:=h
  have e0:i=ns.length:=cu b1 (Nat.le_of_sub_eq_zero hk)
  subst e0;have Vi:items[((ns.length:Nat):Int).toNat]? =none:=by simp;omega
  rw[fO,yB b2,<-z1,<-z2]at h;cases q <;>
  .wp_walk using wpAny_loadPart' hl,wpAny_loadPart' hb
   rw[Vi];wp_walk using wpAny_loadPart' hl,wpAny_loadPart' hb
   exact h
 | succ k ih =>
  intro i b1 b2 hk prog w A R s h;obtain⟨hp,g,d,tk,os⟩:=s
  obtain⟨hl,hb,h⟩:=h
  have l1:i<ns.length:=by omega
  obtain⟨t,e1⟩:=qy hi l1
  have f1:items[((i:Nat):Int).toNat]? =some (.int (ns[i]?.getD 0) t):=by
   rw[eV,<-dP];exact e1
  have d1:ns.drop i=ns[i]?.getD 0::ns.drop (i+1):=by rw[bW l1,aO l1];rfl
  rw[d1]at h;by_cases l2:i<ms.length
  .obtain⟨u,e2⟩:=qy hj l2
   have f2:Bi[((i:Nat):Int).toNat]? =some (.int (ms[i]?.getD 0) u):=by
    rw[eV,<-dP];exact e2
   rw[show ms.drop i=ms[i]?.getD 0::ms.drop (i+1)by rw[bW l2,aO l2];rfl]at h
   clear d1 e1 e2;generalize ns[i]?.getD 0=a at h f1;generalize ms[i]?.getD 0=c at h f2;replace h:R (.ok (.ret (.bool (if a=c then lexB q (ns.drop (i+1)) (ms.drop (i+1))else decide (a<c))))) ⟨hp,g,d,tk,os⟩:=h
   obtain⟨e,he,J5⟩:=wN A.in1 ⟨hp,g,d,tk,os⟩ a t c u
   cases e with
   | true =>
    rw[ax (J5.mp rfl)]at h;have z:codeAny _ _ (.builtin "list.__eq__.loop" _) R _:=codeAny_builtin entry_eq_loop (by
     rw[Around.under_plainId plain_eq_loop _];exact ih (i+1) l1 l2 (by omega) prog w A R _ ⟨hl,hb,h⟩)
    cases q <;>
    .wp_walk using wpAny_loadPart' hl,wpAny_loadPart' hb
     rw[f1,f2];refine aH (he prog w _ _ ?_)
     wp_walk
     exact⟨plainId_quiet plain_eq_loop _,z⟩
   | false =>
    have n:¬a=c:=λq=>aW (J5.mpr q) aT
    rw[ay n]at h;have UY:=rcB (q:=q) (A:=A.in1) (s:=⟨hp,g,d,tk,os⟩) (t:=t) (u:=u) n prog w
    cases q <;>
    .wp_walk using wpAny_loadPart' hl,wpAny_loadPart' hb
     rw[f1,f2];refine aH (he prog w _ _ ?_)
     wp_walk using wpAny_loadPart' hl,wpAny_loadPart' hb
     rw[f1,f2];wp_walk using UY
     exact h
  .have e2:i=ms.length:=cu b2 (bg l2)
   have Vh:Bi[((i:Nat):Int).toNat]? =none:=by simp;omega
   replace h:R (.ok (.ret (.bool false))) ⟨hp,g,d,tk,os⟩:=by rw[e2,fO]at h;exact h
   have y:¬items.size<=Bi.size:=by omega
   cases q <;>
   .wp_walk using wpAny_loadPart' hl,wpAny_loadPart' hb
    rw[f1,Vh];wp_walk using wpAny_loadPart' hl,wpAny_loadPart' hb
    first
     | exact(ai y▸h:R (.ok (.ret (.bool (decide (items.size<=Bi.size))))) _)
     | exact(ai (λz=>y (cq z))▸h:R (.ok (.ret (.bool (decide (items.size<Bi.size))))) _)
theorem list_le_ints(q:Bool)(l b:Addr)(items Bi:Array Value)(n n2:Nat)(ns ms:List Int)(hi:IntsAre items.toList ns)(hj:IntsAre Bi.toList ms) :
  Meets ((match q with | true=>Builtin.«list.__le__» | false=>Builtin.«list.__lt__») ⟨[.ref l,.ref b],[]⟩)
   (λξ R s=>s.heap.get? l=some { cls:=.type "list",dict:=none,data:=.seq items n,slots:=#[] }/\s.heap.get? b=some { cls:=.type "list",dict:=none,data:=.seq Bi n2,slots:=#[] } /\
    R (.ok (.ret (.bool (lexB q ns ms)))) s):=by
 intro prog w A R s h;obtain⟨hp,g,d,tk,os⟩:=s
 obtain⟨hl,hb,h⟩:=h
 have f3:=AutoSeq1.sub_list_list
 have z:=yC q l b items Bi n n2 ns ms hi hj _ 0 (aX _) (aX _) rfl prog w A R _ ⟨hl,hb,h⟩
 cases q <;>
 .wp_walk using wpAny_loadPart' hl,wpAny_loadPart' hb
  exact⟨plainId_quiet plain_eq_loop _,codeAny_builtin entry_eq_loop (by
   rw[Around.under_plainId plain_eq_loop _];exact z)⟩
end HT
namespace L2
open PySem PySem.Spec PyProof.Rows
section
variable {X:Cx}
def rB(q:Bool):R2:=λx y H Q=>∃a b ns ms,x =.ref a/\y =.ref b/\H a=some (.lst (ns.map V.int))/\H b=some (.lst (ms.map V.int))/\Q (.bl (HT.lexB q ns ms)) H
theorem wg(q:Bool)(hu:X.A.units<cLine):OpR X (compareOp (HT.oB q)) (rB q):=by
 intro pins s σ H x y v u Q I rx ry h;obtain⟨a,b,ns,ms,rfl,rfl,ha,hb,k⟩:=h
 cases rx;cases ry;obtain⟨z,AX,n,r,hl,e⟩:=I.lstM ha
 obtain⟨z2,BJ,n2,r2,B5,e2⟩:=I.lstM hb
 have i1:=ox r
 have i2:=ox r2
 cases q
 .show wpAny (model X.prog X.w) X.A (richCompare .Lt (.ref a) (.ref b)) _ _ s
  exact richCompare_meets_room (op:=.Lt) ⟨_,e,rfl⟩ ⟨_,e2,rfl⟩ PySem.F.slot_list_lt PySem.F.entry_list_lt (PySem.F.args_list_lt_2 _ _) (HT.list_le_ints false a b AX.toArray BJ.toArray n n2 ns ms i1 i2) ⟨e,e2,(λz=>nomatch z),⟨.bl (HT.lexB false ns ms),H,I,rfl,k⟩⟩ hu
 .show wpAny (model X.prog X.w) X.A (richCompare .LtE (.ref a) (.ref b)) _ _ s
  exact richCompare_meets_room (op:=.LtE) ⟨_,e,rfl⟩ ⟨_,e2,rfl⟩ PySem.F.slot_list_le PySem.F.entry_list_le (PySem.F.args_list_le_2 _ _) (HT.list_le_ints true a b AX.toArray BJ.toArray n n2 ns ms i1 i2) ⟨e,e2,(λz=>nomatch z),⟨.bl (HT.lexB true ns ms),H,I,rfl,k⟩⟩ hu
end
def Its(x:Str):It:=⟨λi ξ=>i<x.cps.size,λi H v H'=>H'=H/\∃c,x.cps[i]? =some c/\v =.str ⟨#[c]⟩,λi ξ=>x.cps.size<=i⟩
theorem qT{P:Program}{w:World}{K:Fg_}{tg:Expr}(it:Addr)(x:Str)(t:Tok)(ty:String)(F8:ty = "str_ascii_iterator"\/ty = "str_iterator") :
  Turn P w K tg (Its x) [it] it (λi h=>h.IsStrIter it ty x t i) where
 mem:=by simp
 obj:=λi h st b hb=>by
  have e:b=it:=by simpa using hb
  subst e;obtain⟨o,e,c,d⟩:=st
  exact⟨o,e,λv z=>by rw[d]at z;cases z⟩
 keep:=λi h h' st k=>let ⟨o,ho,r⟩:=st;⟨o,k it (by simp) o ho,r⟩
 item:=by
  intro X hP hw hK hc i pins s σ H E I hf st hg;subst hP hw hK;obtain⟨f0,f1,f2,f3,f4,f5⟩:=hf it (by simp)
  have W:Walks X.prog X.w X.A it [it] [it] x.cps.size (SignAt x) (λi h=>h.IsStrIter it ty x t i):=by
   rcases F8 with e | e
   .rw[e];exact Walks.strAscii (I.ok.hd hc) it x t
   .rw[e];exact Walks.strWide (I.ok.hd hc) it x t
  have D8:["enumerate","zip","dict_itemiterator","dict_reverseitemiterator","odict_iterator","itertools.zip_longest","itertools.pairwise"].contains ty=false:=by
   rcases F8 with e | e
   .rw[e];decide
   .rw[e];decide
  refine W.item i s _ _ hg st λv h' tk hv Ck kk=>?_
  obtain⟨c,u,BQ,rfl⟩:=hv
  have I1:Inv X pins σ H { s with heap:=h',toks:=tk }:=I.turned (λb o hb e=>kk b o (by simpa using hb) e) f0 f1 f3 f4 f5
  obtain⟨oi,e,cc,dd⟩:=id Ck
  exact⟨_,rfl,go_of (s:={ s with heap:=h',toks:=tk }) e cc dd D8 ⟨.str ⟨#[c]⟩,H,I1,⟨u,rfl⟩,⟨rfl,c,BQ,rfl⟩,Ck,λb hb=>(hf b hb).1⟩⟩
 done:=by
  intro X hP hw hK hc i pins s σ H E I hf st hg;subst hP hw hK;obtain⟨f0,f1,f2,f3,f4,f5⟩:=hf it (by simp)
  have hx:x.cps[i]? =none:=Array.getElem?_eq_none hg
  rcases F8 with e | e
  .rw[e]at st;exact wpAny_pyNext_ascii_end (I.ok.hd hc) st hx λh' eb=>⟨rfl,I.turned (t':=s.toks) (λb o hb e=>eb b o hb e) f0 f1 f3 f4 f5⟩
  .rw[e]at st;exact wpAny_pyNext_wide_end (I.ok.hd hc) st hx λh' eb=>⟨rfl,I.turned (t':=s.toks) (λb o hb e=>eb b o hb e) f0 f1 f3 f4 f5⟩
 self:=λA i s Q E st h=>by
  rcases F8 with e | e
  .rw[e]at st;exact wpAny_pyIter_striter_ascii st h
  .rw[e]at st;exact wpAny_pyIter_striter_wide st h
def iStr(te:TE):TI:=λσ H R=>te σ H λv H1=>∃x,v =.str x/\R (Its x) H1
theorem Ay{X:Cx}{tg e:Expr}{te:TE}(he:PE X e te):PI X tg e (iStr te):=by
 intro pins s σ H R I h;refine thn (he pins s σ H _ I h) λv s1 A9=>?_
 obtain⟨y,H1,I1,r1,x,ex,q⟩:=A9
 subst ex;obtain⟨t,rfl⟩:=r1
 cases ha:x.cps.all (· < 128)
 .exact wpAny_pyIter_wide ha (sR (tk:=s1.toks) I1 _ (qT _ x t "str_iterator" (.inr rfl)) ⟨_,bx _ rfl,rfl,rfl⟩ q)
 .exact wpAny_pyIter_ascii ha (sR (tk:=s1.toks) I1 _ (qT _ x t "str_ascii_iterator" (.inl rfl)) ⟨_,bx _ rfl,rfl,rfl⟩ q)
abbrev xo(h:Heap)(c:Addr)(v:Option Value):Prop:=h.IsCell c v
def relS(scope sc:Scope):Scope :=
 { scope with names:=scope.names.map λ(n,k)=>if(k==.free&&sc.kind==.function&&sc.names.lookup n==some .cell)then(n,.cell)else(n,k) }
def dW(cells:List (Str×Addr)):List (Str×NameKind)->List (Str×Addr)->List (Str×Addr)
 | [],acc=>acc
 | (n,k)::r,acc=>if k==.free then dW cells r ((n,(cells.lookup n).getD 0)::acc)else dW cells r acc
theorem lp(env:Env)(f:Str×NameKind->List (Str×Addr)->Sem (ForInStep (List (Str×Addr))))
  (hf:∀n k c,f (n,k) c=if k==.free then(do let a ←cellOf env n;pure (.yield ((n,a)::c)))else pure (.yield c)) :
  ∀(names:List (Str×NameKind))(acc:List (Str×Addr)),(∀y∈names,y.2 =.free->∃c,env.cells.lookup y.1=some c)->forIn names acc f=pure (dW env.cells names acc)
 | [],acc,_=>by rw[List.forIn_nil];rfl
 | (n,k)::r,acc,h=>by
  rw[List.forIn_cons,hf];have ih:=λacc=>lp env f hf r acc λy hy=>h y (aA _ hy)
  unfold dW;by_cases hk:(k==NameKind.free)=true
  .rw[ax hk,ax hk];obtain⟨c,hc⟩:=h (n,k) a7 (by simpa using hk)
   have e:cellOf env n=pure c:=by unfold cellOf;rw[hc]
   rw[e];have e2:(env.cells.lookup n).getD 0=c:=by rw[hc];rfl
   rw[e2];exact ih _
  .rw[ay hk,ay hk];exact ih _
theorem tG{scope:Scope}{env:Env}(h:∀y∈scope.names,y.2 =.free->∃c,env.cells.lookup y.1=some c):closureFor scope env=pure (dW env.cells scope.names []):=by
 simp only[closureFor];rw[lp env _ (λn k c=>rfl) scope.names [] h]
 rfl
theorem j8{α:Type}:∀{l:List (Str×α)}{n:Str}{c:α},(n,c)∈l->∃c',l.lookup n=some c'
 | (k,v)::r,n,c,h=>by
  rw[eC];cases hb:n==k with
  | true=>exact⟨_,rfl⟩
  | false =>
   rcases aI.mp h with e | h
   .cases e;simp at hb
   .exact j8 h
theorem iM{cells:List (Str×Addr)}:∀{names:List (Str×NameKind)}{acc:List (Str×Addr)}{n:Str}{c:Addr},(n,c)∈dW cells names acc->(n,c)∈acc\/((n,.free)∈names/\c=(cells.lookup n).getD 0)
 | [],_,_,_,h=>.inl h
 | (m,k)::r,acc,n,c,h=>by
  unfold dW at h;split at h
  .rename_i hk
   have hk:k =.free:=by simpa using hk
   rcases iM h with h | ⟨h1,h2⟩
   .rcases aI.mp h with e | h
    .cases e;exact .inr ⟨hk▸a7,rfl⟩
    .exact .inl h
   .exact .inr ⟨aA _ h1,h2⟩
  .rcases iM h with h | ⟨h1,h2⟩
   .exact .inl h
   .exact .inr ⟨aA _ h1,h2⟩
theorem jK{cells:List (Str×Addr)}:∀{names:List (Str×NameKind)}{acc:List (Str×Addr)}{p:Str×Addr},p∈acc->p∈dW cells names acc
 | [],_,_,h=>h
 | (m,k)::r,acc,p,h=>by
  unfold dW;split
  .exact jK (aA _ h)
  .exact jK h
theorem jJ{cells:List (Str×Addr)}:∀{names:List (Str×NameKind)}{acc:List (Str×Addr)}{n:Str},(n,.free)∈names->(n,(cells.lookup n).getD 0)∈dW cells names acc
 | (m,k)::r,acc,n,h=>by
  unfold dW;rcases aI.mp h with e | h
  .cases e;exact jK a7
  .split
   .exact jJ h
   .exact jJ h
theorem ja:∀{names:List (Str×NameKind)}{h:Heap}{acc:List (Str×Addr)}{x:Str}{c:Addr},(x,c)∈cellsFrom h.objs.size names acc ->
  (x,c)∈acc\/((x,.cell)∈names/\h.objs.size<=c/\xo (pushCells h names) c none)
 | [],_,_,_,_,h=>.inl h
 | (n,k)::r,h,acc,x,c,hm=>by
  unfold cellsFrom at hm;unfold pushCells;split at hm
  .rename_i hk
   rw[ax hk];have hk:k =.cell:=by simpa using hk
   rw[<-Heap.size_push h { cls:=.type "cell",data:=.cell none }]at hm
   rcases ja hm with hm | ⟨h1,h2,h3⟩
   .rcases aI.mp hm with e | hm
    .cases e;exact .inr ⟨hk▸a7,aF _,_,pushCells_keeps r _ _ _ (bx _ rfl),rfl⟩
    .exact .inl hm
   .rw[Heap.size_push]at h2;exact .inr ⟨aA _ h1,gv h2,h3⟩
  .rename_i hk
   rw[ay hk];rcases ja hm with hm | ⟨h1,h2,h3⟩
   .exact .inl hm
   .exact .inr ⟨aA _ h1,h2,h3⟩
theorem jU:∀{names:List (Str×NameKind)}{n:Nat}{acc:List (Str×Addr)}{p:Str×Addr},p∈acc->p∈cellsFrom n names acc
 | [],_,_,_,h=>h
 | (m,k)::r,n,acc,p,h=>by
  unfold cellsFrom;split
  .exact jU (aA _ h)
  .exact jU h
theorem mf:∀{names:List (Str×NameKind)}{n:Nat}{acc:List (Str×Addr)}{x:Str},(x,.cell)∈names->∃c,(x,c)∈cellsFrom n names acc
 | (m,k)::r,n,acc,x,h=>by
  unfold cellsFrom;rcases aI.mp h with e | h
  .cases e;exact⟨n,jU a7⟩
  .split
   .exact mf h
   .exact mf h
theorem me:∀{names:List (Str×NameKind)}{h:Heap}{acc:List (Str×Addr)}{x y:Str}{c:Addr},(∀p∈acc,p.2<h.objs.size)->(∀x y c,(x,c)∈acc->(y,c)∈acc->x=y) ->
  (x,c)∈cellsFrom h.objs.size names acc->(y,c)∈cellsFrom h.objs.size names acc->x=y
 | [],_,_,_,_,_,_,hi,h1,h2=>hi _ _ _ h1 h2
 | (n,k)::r,h,acc,x,y,c,hl,hi,h1,h2=>by
  unfold cellsFrom at h1 h2;split at h1
  .rename_i hk
   rw[ax hk]at h2;rw[<-Heap.size_push h { cls:=.type "cell",data:=.cell none }]at h1 h2
   refine me (h:=h.push _) (λp hp=>?_) (λx y c a b=>?_) h1 h2
   .rw[Heap.size_push];rcases aI.mp hp with rfl | hp
    .exact je _
    .exact iO (hl p hp)
   .rcases aI.mp a with e | a<;>rcases aI.mp b with e' | b
    .cases e;cases e';rfl
    .cases e;exact aW (hl _ b) (cw _)
    .cases e';exact aW (hl _ a) (cw _)
    .exact hi _ _ _ a b
  .rename_i hk
   rw[ay hk]at h2;exact me hl hi h1 h2
theorem rJ{M:Model}{A:Around}{E:Value->Shared->Prop}{s:Shared}{scope:Scope}{globals:Addr}{closure:List (Str×Addr)}{qual:Str}{func:Option Addr}{code:Value}{around:Env}{builtins:Addr}{Q:Env->Shared->Prop}
  (h:Q (newEnv scope s.heap.objs.size globals (cellsFrom (s.heap.objs.size+1) scope.names closure) qual func code (some around) builtins)
   { s with heap:=pushCells (s.heap.push { cls:=.type "dict",data:=.dict #[] }) scope.names }) :
  wpAny M A (newFunctionEnv scope globals closure [] qual func code (some around) builtins) Q E s:=by
 simp only[newFunctionEnv,Option.isSome_some,if_true];refine aH (wpAny_alloc ?_)
 refine aH (wpAny_layCells _ (λn k c=>rfl) scope.names closure _ _ ?_)
 rw[show({ s with heap:=s.heap.push { cls:=.type "dict",data:=.dict #[] } }:Shared).heap.objs.size=s.heap.objs.size+1 from Heap.size_push ..]
 rw[List.forIn_nil];exact aH (bM (bM h))
theorem jF{sc:Scope}:∀{names:List (Str×NameKind)}{x:Str}{k:NameKind},
  (names.map λ(n,k)=>if(k==NameKind.free&&sc.kind==.function&&sc.names.lookup n==some .cell)then(n,NameKind.cell)else(n,k)).lookup x=some k ->
  ∃k',names.lookup x=some k'/\(k=k'\/(k' =.free/\k =.cell))
 | [],_,_,h=>by simp at h
 | (n,k₀)::r,x,k,h=>by
  have ih:=@jF sc r x k
  have h':List.lookup x ((if(k₀==NameKind.free&&sc.kind==.function&&sc.names.lookup n==some .cell)=true then(n,NameKind.cell)else(n,k₀))::(r.map _))=some k:=h
  cases hx:x==n with
  | true =>
   simp only[eC,hx];by_cases hc:(k₀==NameKind.free&&sc.kind==.function&&sc.names.lookup n==some .cell)=true
   .rw[ax hc]at h'
    simp only[eC,hx]at h';cases h'
    simp only[aE,beq_iff_eq]at hc;exact⟨k₀,rfl,.inr ⟨hc.1.1,rfl⟩⟩
   .rw[ay hc]at h'
    simp only[eC,hx]at h';cases h'
    exact⟨_,rfl,.inl rfl⟩
  | false =>
   simp only[eC,hx];by_cases hc:(k₀==NameKind.free&&sc.kind==.function&&sc.names.lookup n==some .cell)=true
   .rw[ax hc]at h'
    simp only[eC,hx]at h';exact ih h'
   .rw[ay hc]at h'
    simp only[eC,hx]at h';exact ih h'
structure uC(N:List Str)(sc scope:Scope)(own:List (Str×Nat)):Prop where
 kind:scope.kind =.function
 uniq:∀y∈scope.names,scope.names.lookup y.1=some y.2
 ix:∀p∈own,N[p.2]? =some p.1
 free:∀y∈scope.names,y.2 =.free->sc.names.lookup y.1=some .cell\/sc.names.lookup y.1=some .free
 own:∀y∈scope.names,y.2 =.local\/y.2 =.cell->y.1∈own.map (·.1)\/y.1∉N
def fu(σ:St):List Nat->St
 | []=>σ
 | v::vs=>(fu σ vs).set v none
theorem jz(σ:St):∀vs:List Nat,(fu σ vs).length=σ.length
 | []=>rfl
 | v::vs=>by unfold fu;rw[List.length_set,jz σ vs]
theorem lF{σ:St}{i:Nat}{x:V}:∀{vs:List Nat},(fu σ vs)[i]? =some (some x)->σ[i]? =some (some x)/\i∉vs
 | [],h=>⟨h,by simp⟩
 | v::vs,h=>by
  unfold fu at h;by_cases hi:v=i
  .subst hi;by_cases hv:v<(fu σ vs).length
   .rw[gy hv]at h;cases h
   .rw[gG (by simpa using hv)]at h;cases h
  .rw[hJ hi]at h;obtain⟨h1,h2⟩:=lF h
   exact⟨h1,by simp only[aI,not_or];exact⟨λe=>hi e.symm,h2⟩⟩
abbrev Cx.blk(X:Cx)(s:Shared)(H:Hp)(scope:Scope)(Bg:Env)(fp:List Addr):Cx:={ X with s_0:=s,H_0:=H,env:=Bg,outer:=X.stack,ex:=fp,fn:=λx=>scope.names.lookup x==some .cell,pn:=[],xe:=λξ ξ=>False }
section
variable {X:Cx}{pins:List (Addr×Obj)}{σ:St}{H:Hp}{s:Shared}
theorem rZ{scope:Scope}{own:List (Str×Nat)}{fp:List Addr}(I:Inv X pins σ H s)(ok:uC X.N X.env.scope scope own)(hN:X.N.Nodup)(Gf:∀b∈fp,mW X pins H b/\b<s.heap.objs.size) :
  Inv (X.blk s H scope (compEnvC scope (cellsFrom (s.heap.objs.size+1) scope.names (dW X.env.cells scope.names [])) s.heap.objs.size X.env) fp) [] (fu σ (own.map (·.2))) H { s with heap:=pushCells (s.heap.push { cls:=.type "dict",data:=.dict #[] }) scope.names }:=by
 have Cs:∀y∈scope.names,y.2 =.free->∃c,X.env.cells.lookup y.1=some c:=λy hy e=>by
  rcases ok.free y hy e with k | k
  .exact I.ok.has _ (.inl k)
  .exact I.ok.has _ (.inr k)
 generalize Dh:compEnvC scope (cellsFrom (s.heap.objs.size+1) scope.names (dW X.env.cells scope.names [])) s.heap.objs.size X.env=Bg;have kp:∀b o,s.heap.get? b=some o->(pushCells (s.heap.push { cls:=.type "dict",data:=.dict #[] }) scope.names).get? b=some o:=λb o e=>pushCells_keeps _ _ _ _ (aL _ e)
 have hL:Bg.locals=s.heap.objs.size:=by rw[<-Dh];rfl
 have CI:Bg.cells=cellsFrom (s.heap.objs.size+1) scope.names (dW X.env.cells scope.names []):=by rw[<-Dh];rfl
 have Hl:Bg.scope=relS scope X.env.scope:=by rw[<-Dh];rfl
 rw[<-Heap.size_push s.heap { cls:=.type "dict",data:=.dict #[] }]at CI
 have cm:∀{y c},(y,c)∈dW X.env.cells scope.names []->X.env.cells.lookup y=some c/\c<s.heap.objs.size:=λ{y c} hm=>by
  rcases iM hm with hm | ⟨h1,rfl⟩
  .cases hm
  .obtain⟨c,hc⟩:=Cs _ h1 rfl
   rw[hc];obtain⟨w,z⟩:=I.cell _ _ hc
   exact⟨rfl,z.lt⟩
 have mem:∀{y c},Bg.cells.lookup y=some c->(X.env.cells.lookup y=some c/\c<s.heap.objs.size)\/(s.heap.objs.size+1<=c/\xo (pushCells (s.heap.push { cls:=.type "dict",data:=.dict #[] }) scope.names) c none):=λ{y c} e=>by
  rw[CI]at e;rcases ja (bT e)with hm | ⟨_,h2,h3⟩
  .exact .inl (cm hm)
  .rw[Heap.size_push]at h2;exact .inr ⟨h2,h3⟩
 have look:∀{y},scope.names.lookup y=some .free->∃c,Bg.cells.lookup y=some c/\X.env.cells.lookup y=some c:=λ{y} hl=>by
  have hy:(y,NameKind.free)∈scope.names:=bT hl
  obtain⟨c',e'⟩:=j8 (jU (names:=scope.names) (n:=(s.heap.push { cls:=.type "dict",data:=.dict #[] }).objs.size) (jJ (cells:=X.env.cells) (acc:=[]) hy))
  rw[<-CI]at e'
  refine⟨c',e',?_⟩
  rw[CI]at e'
  rcases ja (bT e')with hm | ⟨h1,_,_⟩
  .exact(cm hm).1
  .have:=ok.uniq _ h1
   rw[hl]at this;cases this
 have SX:(X.blk s H scope Bg fp).Ok:=by
  refine⟨I.ok.mod,by show Bg.scope.kind=_;rw[Hl];exact ok.kind,by show Bg.globals=_;rw[<-Dh];exact I.ok.glob,by show Bg.builtins=_;rw[<-Dh];exact I.ok.blt,by show s.heap.objs.size<=Bg.locals;rw[hL];exact aF _,
   λy z c e1 e2=>?_,λy hy=>?_,λy c z e=>?_,I.ok.hd,I.ok.frames,.inl rfl,λb hb=>⟨?_,λy c e z=>?_⟩,I.bs,bH I.ok.bsz I.sz,λb o e hb=>?_,λb hb z=>?_,I.stack,I.stkFree⟩
  .have e1:Bg.cells.lookup y=some c:=e1
   have e2:Bg.cells.lookup z=some c:=e2
   rw[CI]at e1 e2;refine me (λp hp=>?_) (λy z c a b=>I.ok.inj y z c (cm a).1 (cm b).1) (bT e1) (bT e2)
   rw[Heap.size_push];exact iO (cm (y:=p.1) (c:=p.2) hp).2
  .show ∃c,Bg.cells.lookup y=some c
   have key:∀k,Bg.kindOf y=some k->(k =.cell\/k =.free)->∃c,Bg.cells.lookup y=some c:=λk hk Nk=>by
    unfold Env.kindOf at hk;rw[Hl]at hk;obtain⟨k',e,r⟩:=jF hk
    have:k' =.cell\/k' =.free:=by
     rcases r with rfl | ⟨rfl,_⟩
     .exact Nk
     .exact .inr rfl
    rcases this with rfl | rfl
    .obtain⟨c,hm⟩:=mf (n:=(s.heap.push { cls:=.type "dict",data:=.dict #[] }).objs.size) (acc:=dW X.env.cells scope.names []) (bT e)
     obtain⟨c',e'⟩:=j8 hm
     exact⟨c',by rw[CI];exact e'⟩
    .obtain⟨c,h1,_⟩:=look e
     exact⟨c,h1⟩
   rcases hy with hy | hy
   .exact key _ hy (.inl rfl)
   .exact key _ hy (.inr rfl)
  .have z:(scope.names.lookup y==some NameKind.cell)=true:=z
   have z:scope.names.lookup y=some .cell:=by simpa using z
   have e:Bg.cells.lookup y=some c:=e
   rw[CI]at e;rcases ja (bT e)with hm | ⟨_,h2,_⟩
   .rcases iM hm with hm | ⟨h1,_⟩
    .cases hm
    .have q:=ok.uniq _ h1
     rw[z]at q;cases q
   .rw[Heap.size_push]at h2;exact gv h2
  .show b≠Bg.locals
   rw[hL];exact bG (Gf b hb).2
  .have e:Bg.cells.lookup y=some c:=e
   rcases mem e with⟨h1,_⟩ | ⟨h1,_⟩
   .exact(Gf b hb).1.2.2.2.2.1 y c h1 z
   .have h2:s.heap.objs.size+1<=b:=by rw[<-z];exact h1
    exact aW (aR (Gf b hb).2 (gv h2)) (cw _)
  .rcases(Gf b hb).1.2.2.2.1 with z | z
   .exact I.ok.noex b o e z
   .exact aW (aR (aZ e) (bH I.ok.bsz z)) (cw _)
  .rcases aI.mp (I.stkSub b z)with z | z
   .exact(Gf b hb).1.2.1 z
   .exact(Gf b hb).1.2.2.1 z
 refine⟨SX,rfl,I.bare,Un.kept kp,⟨λξ=>none,?_,λi y av e1 e2 e3=>?_⟩,λy c e=>?_,?_,λy c e=>?_,λp hp=>?_,I.hok.kept kp,by rw[jz];exact I.len⟩
 .show Heap.Ns _ Bg.locals _
  rw[hL];exact Heap.Ns.keeps (Heap.Ns.new ..) λb o e=>pushCells_keeps _ _ _ _ e
 .obtain⟨e2,BH⟩:=lF e2
  have Bk:scope.names.lookup y=some .free/\(Bg.kindOf y=some .cell\/Bg.kindOf y=some .free):=by
   have key:∀k,Bg.scope.names.lookup y=some k->k =.local\/k =.cell\/k =.free->scope.names.lookup y=some .free/\(Bg.kindOf y=some .cell\/Bg.kindOf y=some .free):=λk hk Nk=>by
    have QI:=hk
    rw[Hl]at hk;obtain⟨k',e,r⟩:=jF hk
    have no:¬(k' =.local\/k' =.cell):=λhh=>by
     rcases ok.own _ (bT e) hh with e' | e'
     .obtain⟨p,hp,U2⟩:=dX.mp e'
      have e3:=ok.ix p hp
      have:p.1=y:=U2
      rw[this]at e3;exact BH (dX.mpr ⟨p,hp,oe hN e3 e1⟩)
     .exact e' (di e1)
    rcases r with rfl | ⟨rfl,rfl⟩
    .rcases Nk with rfl | rfl | rfl
     .exact aW (.inl rfl) no
     .exact aW (.inr rfl) no
     .exact⟨e,.inr QI⟩
    .exact⟨e,.inl QI⟩
   have e3:Vis Bg.scope y:=e3
   rcases e3 with e3 | e3 | e3
   .exact key _ e3 (.inl rfl)
   .exact key _ e3 (.inr (.inl rfl))
   .exact key _ e3 (.inr (.inr rfl))
  obtain⟨m,hn,hl⟩:=I.loc
  have MQ:Vis X.env.scope y:=(ok.free _ (bT Bk.1) rfl).elim (λk=>.inr (.inl k)) (λk=>.inr (.inr k))
  obtain⟨w,r,q⟩:=hl i y av e1 e2 MQ
  refine⟨w,r,.inr ⟨Bk.2,?_⟩⟩
  obtain⟨c,h1,h2⟩:=look Bk.1
  rcases q with⟨k,_⟩ | ⟨_,c',e',z⟩
  .have k:X.env.scope.names.lookup y=some .local:=k
   rcases ok.free _ (bT Bk.1) rfl with k' | k'<;>rw[show X.env.scope.names.lookup y=_ from k']at k<;>cases k
  .rw[h2]at e';cases e'
   exact⟨c,h1,z.keeps kp⟩
 .have e:Bg.cells.lookup y=some c:=e
  rcases mem e with⟨h1,_⟩ | ⟨_,z⟩
  .obtain⟨w,z⟩:=I.cell y c h1
   exact⟨w,z.keeps kp⟩
  .exact⟨_,z⟩
 .show H Bg.locals=none
  rw[hL];exact I.hok.fresh (aF _)
 .have e:Bg.cells.lookup y=some c:=e
  rcases mem e with⟨h1,_⟩ | ⟨h1,_⟩
  .exact I.freeC y c h1
  .exact I.hok.fresh (gv h1)
 .exact aW (show p∈([]:List (Addr×Obj))++[]from hp) (by simp)
theorem AU{E:Value->Shared->Prop}{D:Addr}{xs:List V}{y:V}{v:Value}{Q:Value->Shared->Prop}(I:Inv X pins σ H s)(hD:H D=some (.lst xs))(hz:xs.length<sizeLine)(r:dw y v)
  (h:∀s',Inv X pins σ (upd H D (.lst (xs++[y]))) s'->Q .none s'):wpAny (model X.prog X.w) X.A (call (.builtin "list.append") [.ref D,v]) Q E s:=by
 obtain⟨Jz,AX,n,ri,e⟩:=I.hok D _ hD
 have hl:=ri.length
 refine append_at (hsz:=by rw[aU];lia) e λh' sb Ce=>?_
 refine h { s with heap:=h' } (I.write (t':=s.toks) (by rw[hD];trivial) (.inl rfl) (λb u hb q=>(sb.2 b hb).trans q) ⟨_,Ce⟩ ⟨by rw[ae];exact hz,AX++[v],n+1,ri.append (.cons r .nil),?_⟩)
 rw[Ce];simp
def PTs(X:Cx)(ifs:List Expr)(t:TT):Prop :=
 ∀(pins:List (Addr×Obj))(s:Shared)(σ:St)(H:Hp)(Q:Bool->Hp->Prop),Inv X pins σ H s->t σ H Q ->
  wpAny (model X.prog X.w) X.A (forIn ifs true λc r=>if r=true then do let ok ←isTrue c X.env (eval c X.env);pure (ForInStep.yield ok)else pure (ForInStep.yield r)) (TP X pins σ Q) X.xe s
def zr:TT:=λξ H Q=>Q true H
theorem jR:PTs X [] zr:=λξ ξ ξ H ξ I h=>wpAny_tests_nil ⟨H,I,h⟩
end
theorem vE{α:Type}{t:Sem α}{Q Q':α->Shared->Prop}{M:Model}{A:Around}{E:Value->Shared->Prop}{s:Shared}(h:wpAny M A t Q (λξ ξ=>False) s)(hQ:∀a s,Q a s->Q' a s):wpAny M A t Q' E s:=wpAny_mono h hQ λξ ξ z=>False.elim z
theorem qE{prog:Program}{w:World}{A:Around}{R:Result->Shared->Prop}{s:Shared}{elt target iter:Expr}{ifs:List Expr}{scope:Scope}{pos:Pos}{it acc:Value}{env:Env}(I:Nat->Shared->Prop)
  (turn:∀n s,I n s->wpAny (model prog w) A (pyNext it) (λr s₁=>match r with
   | none=>R (.ok .next) s₁
   | some v=>wpAny (model prog w) A (letOwnedTupleGo target it v) (λξ Pu=>wpAny (model prog w) A (assign target env v) (λ_ s₂ =>
     wpAny (model prog w) A (forIn ifs true λc r=>if r=true then do let ok ←isTrue c env (eval c env);pure (ForInStep.yield ok)else pure (ForInStep.yield r)) (λok s₃ =>
      if ok=true then wpAny (model prog w) A (eval elt env) (λx s₄ =>
       wpAny (model prog w) A (call (.builtin "list.append") [acc,x]) (λξ s₅=>∃m,m<n/\I m s₅) (notedBy (model prog w) A env λe s'=>R (.error e) s') s₄) (notedBy (model prog w) A env λe s'=>R (.error e) s') s₃
      else ∃m,m<n/\I m s₃) (notedBy (model prog w) A env λe s'=>R (.error e) s') s₂) (notedBy (model prog w) A env λe s'=>R (.error e) s') Pu) (notedBy (model prog w) A env λe s'=>R (.error e) s') s₁) (notedBy (model prog w) A env λe s'=>R (.error e) s') s)
  (n:Nat) (h:I n s) :
  codeAny (model prog w) A (.compLoop (.ListComp elt [⟨target,iter,ifs,0⟩] scope pos) 0 it acc env) R s:=by
 refine codeAny_loop rfl I (λn s hI=>?_) n h
 show wpAny _ A ((compTurn (.ListComp elt [⟨target,iter,ifs,0⟩] scope pos) 0 it acc env).onRaise (λx=>do noteFrame x env;theTreesLotGoes x)) _ _ s
 refine wpAny_noted ?_
 rw[compTurn_list];refine aH (wpAny_standAt (aH (wpAny_mono (turn n s hI) (λr s₁ h₁=>?_) λξ ξ h'=>h')))
 cases r with
 | none=>exact bM h₁
 | some v =>
  refine aH (wpAny_mono h₁ (λξ Pu UF=>?_) λξ ξ h'=>h')
  refine aH (wpAny_mono UF (λξ s₂ h₂=>aH (wpAny_mono h₂ (λok s₃ h₃=>?_) λξ ξ h'=>h')) λξ ξ h'=>h')
  cases ok with
  | false=>exact bM ⟨rfl,h₃⟩
  | true =>
   exact aH (aH (wpAny_mono h₃ (λx s₄ h₄=>aH (wpAny_mono h₄ (λξ s₅ h₅=>bM (bM ⟨rfl,h₅⟩)) λξ ξ h'=>h')) λξ ξ h'=>h'))
section
variable {X:Cx}
def tLc(wi:TI)(g:TG)(tt:TT)(te:TE)(vs:List Nat):TE:=λσ H Q=>wi σ H λJ H1=>∀D,H1 D=none->∃W:Nat->Nat->Hp->Prop,(∃m,W 0 m (upd H1 D (.lst [])))/\∀i m H,W i m H ->
 (J.stop i H/\Q (.ref D) H)\/(J.go i H/\∃Nx:Hp->Prop,(∀H',Nx H'->∃m',m'<m/\W (i+1) m' H')/\∀x H',J.yld i H x H'->g x (fu σ vs) H' λσ2 H2=>fu σ2 vs=fu σ vs/\tt σ2 H2 λb H3 =>
  if b=true then te σ2 H3 λy H4=>∃acc,H4 D=some (.lst acc)/\acc.length<sizeLine/\Nx (upd H4 D (.lst (acc++[y])))else Nx H3)
end
theorem qu{K:Fg_}{a:Addr}{xs:List V}{g:TG}{tt:TT}{te:TE}{vs:List Nat}{σ:St}{H1:Hp}{D:Addr}{Qd:Hp->Prop}(Pv:Nat->Hp->Prop)(h0:Pv 0 (upd H1 D (.lst [])))(hl:∀i H,i<=xs.length->Pv i H->SqL K H a xs)
  (hs:∀i x H,xs[i]? =some x->Pv i H->g x (fu σ vs) H λσ2 H2=>fu σ2 vs=fu σ vs/\tt σ2 H2 λb H3 =>
   if b=true then te σ2 H3 λy H4=>∃acc,H4 D=some (.lst acc)/\acc.length<sizeLine/\Pv (i+1) (upd H4 D (.lst (acc++[y])))else Pv (i+1) H3) (hd:∀H,Pv xs.length H->Qd H) :
  ∃W:Nat->Nat->Hp->Prop,(∃m,W 0 m (upd H1 D (.lst [])))/\∀i m H,W i m H ->
   ((Itl K a).stop i H/\Qd H)\/((Itl K a).go i H/\∃Nx:Hp->Prop,(∀H',Nx H'->∃m',m'<m/\W (i+1) m' H')/\∀x H',(Itl K a).yld i H x H'->g x (fu σ vs) H' λσ2 H2=>fu σ2 vs=fu σ vs/\tt σ2 H2 λb H3 =>
    if b=true then te σ2 H3 λy H4=>∃acc,H4 D=some (.lst acc)/\acc.length<sizeLine/\Nx (upd H4 D (.lst (acc++[y])))else Nx H3):=by
 refine⟨λi m H=>m=xs.length-i/\i<=xs.length/\Pv i H,⟨xs.length,by simp,aX _,h0⟩,?_⟩
 rintro i m H ⟨rfl,hi,p⟩
 have q:=hl i H hi p
 by_cases Bh:i<xs.length
 .refine .inr ⟨⟨xs,xs[i],q,by simp[Bh]⟩,Pv (i+1),λH' p'=>⟨xs.length-(i+1),(df _ _ Bh),rfl,Bh,p'⟩,λx H' y=>?_⟩
  obtain⟨e,y⟩:=y
  subst e;exact hs i x _ (y xs q) p
 .have e:i=xs.length:=(cu hi (bg Bh))
  subst e;exact .inl ⟨⟨xs,q,aF _⟩,hd H p⟩
theorem AG{K:Fg_}{a:Addr}{xs:List V}{g:TG}{tt:TT}{te:TE}{vs:List Nat}{σ:St}{H1:Hp}{D:Addr}{Qd:Hp->Prop}(Pv:Nat->Hp->Prop)(h0:Pv 0 (upd H1 D (.lst [])))(hl:∀i H,i<=xs.length->Pv i H->SqT K H a xs)
  (hs:∀i x H,xs[i]? =some x->Pv i H->g x (fu σ vs) H λσ2 H2=>fu σ2 vs=fu σ vs/\tt σ2 H2 λb H3 =>
   if b=true then te σ2 H3 λy H4=>∃acc,H4 D=some (.lst acc)/\acc.length<sizeLine/\Pv (i+1) (upd H4 D (.lst (acc++[y])))else Pv (i+1) H3) (hd:∀H,Pv xs.length H->Qd H) :
  ∃W:Nat->Nat->Hp->Prop,(∃m,W 0 m (upd H1 D (.lst [])))/\∀i m H,W i m H ->
   ((Itt K a).stop i H/\Qd H)\/((Itt K a).go i H/\∃Nx:Hp->Prop,(∀H',Nx H'->∃m',m'<m/\W (i+1) m' H')/\∀x H',(Itt K a).yld i H x H'->g x (fu σ vs) H' λσ2 H2=>fu σ2 vs=fu σ vs/\tt σ2 H2 λb H3 =>
    if b=true then te σ2 H3 λy H4=>∃acc,H4 D=some (.lst acc)/\acc.length<sizeLine/\Nx (upd H4 D (.lst (acc++[y])))else Nx H3):=by
 refine⟨λi m H=>m=xs.length-i/\i<=xs.length/\Pv i H,⟨xs.length,by simp,aX _,h0⟩,?_⟩
 rintro i m H ⟨rfl,hi,p⟩
 have q:=hl i H hi p
 by_cases Bh:i<xs.length
 .refine .inr ⟨⟨xs,xs[i],q,by simp[Bh]⟩,Pv (i+1),λH' p'=>⟨xs.length-(i+1),(df _ _ Bh),rfl,Bh,p'⟩,λx H' y=>?_⟩
  obtain⟨e,y⟩:=y
  subst e;exact hs i x _ (y xs q) p
 .have e:i=xs.length:=(cu hi (bg Bh))
  subst e;exact .inl ⟨⟨xs,q,aF _⟩,hd H p⟩
def blkC(N:List Str)(sc scope:Scope)(own:List (Str×Nat)):Bool :=
 (match scope.kind with | .function=>true | _=>false)&&(scope.names.all λy=>decide (scope.names.lookup y.1=some y.2))&&(own.all λp=>decide (N[p.2]? =some p.1)) &&
  (scope.names.all λy=>match y.2 with
   | .free=>(match sc.names.lookup y.1 with | some .cell=>true | some .free=>true | _=>false)
   | .local=>decide (y.1∈own.map (·.1))||decide (y.1∉N)
   | .cell=>decide (y.1∈own.map (·.1))||decide (y.1∉N)
   | _=>true)
theorem jb{N:List Str}{sc scope:Scope}{own:List (Str×Nat)}(h:blkC N sc scope own=true):uC N sc scope own:=by
 unfold blkC at h;simp only[aE,dU,bw]at h;obtain⟨⟨⟨h1,h2⟩,h3⟩,h4⟩:=h
 refine⟨?_,h2,h3,λy hy e=>?_,λy hy e=>?_⟩
 .split at h1
  .assumption
  .cases h1
 .have q:=h4 y hy
  simp only[e]at q;split at q<;>first | exact .inl (by assumption) | exact .inr (by assumption) | cases q
 .have q:=h4 y hy
  rcases e with e | e<;>(simp only[e,dN,bw]at q;exact q)
mutual
inductive Dp(K:Fg_)(H:Hp):V->PyData->Prop
 | non:Dp K H .non .none
 | bl (b:Bool):Dp K H (.bl b) (.bool b)
 | int (i:Int):Dp K H (.int i) (.int i)
 | str (x:Str):Dp K H (.str x) (.str x)
 | lst {a:Addr} {xs:List V} {ds:List PyData}:SqL K H a xs->DpAll K H xs ds->Dp K H (.ref a) (.list ds)
 | tup {a:Addr} {xs:List V} {ds:List PyData}:SqT K H a xs->DpAll K H xs ds->Dp K H (.ref a) (.tuple ds)
inductive DpAll(K:Fg_)(H:Hp):List V->List PyData->Prop
 | nil:DpAll K H [] []
 | cons {v:V} {vs:List V} {d:PyData} {ds:List PyData}:Dp K H v d->DpAll K H vs ds->DpAll K H (v::vs) (d::ds)
end
section
variable {X:Cx}{pins:List (Addr×Obj)}{σ:St}{H:Hp}{s:Shared}
mutual
theorem Dp.reads(I:Inv X pins σ H s):∀(d:PyData)(v:V)(u:Value),Dp X.K H v d->dw v u->∃as,Reads s.heap u d as
 | .none,_,_,h,r=>by
  cases h;cases r;exact⟨_,Reads.none⟩
 | .bool b,_,_,h,r=>by
  cases h;cases r;exact⟨_,Reads.bool b⟩
 | .int i,_,_,h,r=>by
  cases h;obtain⟨t,rfl⟩:=r
  exact⟨_,Reads.int i t⟩
 | .str x,_,_,h,r=>by
  cases h;obtain⟨t,rfl⟩:=r
  exact⟨_,Reads.str x t⟩
 | .list ds,_,_,h,r=>by
  cases h with
  | lst hs ha =>
   cases r;obtain⟨AX,rv,⟨o,n,ho,hc,_,hd⟩,_⟩:=I.list hs
   obtain⟨as,hr⟩:=Dp.readsAll I ds _ AX ha rv
   exact⟨_,Reads.list ho hc hd hr⟩
 | .tuple ds,_,_,h,r=>by
  cases h with
  | tup hs ha =>
   cases r;obtain⟨AX,rv,⟨o,ho,hc,n,hd⟩,_⟩:=I.tuple hs
   obtain⟨as,hr⟩:=Dp.readsAll I ds _ AX ha rv
   exact⟨_,Reads.tuple ho hc hd hr⟩
 | .dict _,_,_,h,_=>by cases h
theorem Dp.readsAll(I:Inv X pins σ H s):∀(ds:List PyData)(vs:List V)(us:List Value),DpAll X.K H vs ds->cJ vs us->∃as,ReadsAll s.heap us ds as
 | [],_,_,h,r=>by
  cases h;cases r;exact⟨_,ReadsAll.nil⟩
 | d::ds,_,_,h,r=>by
  cases h with
  | cons h1 h2 =>
   cases r with
   | cons r1 r2 =>
    obtain⟨as,q1⟩:=Dp.reads I d _ _ h1 r1
    obtain⟨bs,q2⟩:=Dp.readsAll I ds _ _ h2 r2
    exact⟨_,ReadsAll.cons q1 q2⟩
end
end
section
variable {X:Cx}
def rEqD(K:Fg_):R2:=λx y H Q=>∃d e,Dp K H x d/\Dp K H y e/\SeqAt.shaped d=true/\SeqAt.shaped e=true/\Q (.bl (PyData.eqv d e)) H
theorem wj(hu:X.A.units+64<cLine):OpR X (compareOp .Eq) (rEqD X.K):=by
 intro pins s σ H x y v u Q I rx ry h;obtain⟨d,e,hd,he,sd,se,q⟩:=h
 obtain⟨as,r1⟩:=Dp.reads I d x v hd rx
 obtain⟨bs,r2⟩:=Dp.reads I e y u he ry
 exact SeqAt.compareEq_shaped r1 r2 sd se hu ⟨.bl _,H,I,rfl,q⟩
end
section
variable {X:Cx}{pins:List (Addr×Obj)}{σ:List (Option V)}{H H':Hp}{s:Shared}{h':Heap}
theorem Inv.turnedNew{t':Nat}{ch:List Addr}{T:Addr}{ob:HO}(I:Inv X pins σ H s)(k:∀b o,b∉ch->s.heap.get? b=some o->h'.get? b=some o)(hf:∀b∈ch,mW X pins H b)(hT:s.heap.objs.size<=T)
  (new:fe X.prog X.w (upd H T ob) h' T ob):Inv X pins σ (upd H T ob) { s with heap:=h',toks:=t' }:=by
 have hn:H T=none:=I.hok.fresh hT
 have Jo:∀b u,H b=some u->b∉ch:=λb u e z=>by
  have q:=(hf b z).1
  rw[q]at e;cases e
 refine I.step (g':=s.gens) (d':=s.drawn) (ch:=ch) (λb hb=>⟨(hf b hb).2.2.2.1,(hf b hb).2.1,(hf b hb).2.2.2.2.1,(hf b hb).2.2.2.2.2⟩) (λb o ξ ξ hc e ξ=>k b o hc e) (λb o ξ ξ hc e ξ=>⟨o.slots,k b o hc e⟩)
  (λb o ξ e n=>?_) (λb o hc e=>⟨o,k b o hc e⟩) (λb xs e=>?_) (λb o u e=>?_) (λb ps e=>⟨#[],?_⟩) (λm hm=>?_) (λb u e=>?_) I.bare
 .rw[aj (bG (aR (aZ e) hT))];exact n
 .rw[aj (ag e hn)];exact e
 .rw[aj (ag e hn)];exact e
 .rw[aj (ag e hn),e];simp
 .obtain⟨o,es,ep,ho,r⟩:=hm
  exact⟨o,es,ep,k _ o (λz=>(hf _ z).2.1 rfl) ho,r⟩
 .by_cases hb:b=T
  .subst hb;rw[aC]at e;cases e;exact new
  .rw[aj hb]at e;refine(I.hok b u e).stay (λc v hc q=>k c v ?_ q) (λc q=>by rw[aj (ag q hn)];exact q) λc xs q=>by rw[aj (ag q hn)];exact q
   rcases hc with z | z
   .rw[z];exact Jo b u e
   .exact Jo c _ z
end
def Ite(K:Fg_)(a:Addr):It :=
 ⟨λi H=>∃(xs:List V)(x:V),SqL K H a xs/\xs[i]? =some x,λi H v H'=>∃T x,v =.ref T/\H T=none/\H'=upd H T (.tup [.int (i:Nat),x])/\∀xs,SqL K H a xs->xs[i]? =some x,λi H=>∃xs:List V,SqL K H a xs/\xs.length<=i⟩
theorem uI{P:Program}{w:World}{K:Fg_}{elts:List Expr}{kk:Nat}{Em:Pos}(a e it:Addr) :
  Turn P w K (.Tuple elts kk Em) (Ite K a) [e,it] e (λi h=>(∃old,IsEnum h e it ((i:Nat):Int) old)/\h.IsListIter it a i/\e≠it) where
 mem:=by simp
 obj:=λi h st b hb=>by
  obtain⟨⟨old,he⟩,⟨o,ho,hc,hd⟩,_⟩:=st
  have e':b=e\/b=it:=by simpa using hb
  rcases e' with z | z
  .rw[z];exact⟨_,he,λv q=>nomatch q⟩
  .rw[z];exact⟨o,ho,λv q=>by rw[hd]at q;cases q⟩
 keep:=λi h h' st k=>let ⟨⟨old,he⟩,hi,BH⟩:=st;⟨⟨old,k e (by simp) _ he⟩,hi.at λo q=>k it (by simp) o q,BH⟩
 item:=by
  intro X hP hw hK hc i pins s σ H E I hf st hg;subst hP hw hK;obtain⟨⟨old,he⟩,hit,BH⟩:=st
  obtain⟨xs,x,hq,hx⟩:=hg
  obtain⟨AX,rv,p,hz⟩:=I.list hq
  obtain⟨u,hu,ru⟩:=rv.get hx
  have QM:e<s.heap.objs.size:=aZ he
  have Fe:it<s.heap.objs.size:=by obtain⟨_,q,_⟩:=hit;exact aZ q
  refine wpAny_pyNext_enum_item he hit p.isList (x:=u) (by simpa using hu) BH λh' ho Nm hT hsz hk=>?_
  refine⟨_,rfl,wpAny_letOwnedTupleGo_enum (s:={ s with heap:=h',toks:=s.toks+1 }) ho λLO Vr sb=>?_⟩
  have VH:LO.get? s.heap.objs.size=some { cls:=.type "tuple",data:=.seq #[.int i s.toks,u] }:=(sb.2 _ (fj QM)).trans hT
  have new:fe X.prog X.w (upd H s.heap.objs.size (.tup [.int (i:Nat),x])) LO s.heap.objs.size (.tup [.int (i:Nat),x]) :=
   ⟨by show 2<=sizeLine;decide,[.int i s.toks,u],.cons ⟨_,rfl⟩ (.cons ru .nil),⟨_,VH,rfl,_,rfl⟩⟩
  have I1:Inv X pins σ (upd H s.heap.objs.size (.tup [.int (i:Nat),x])) { s with heap:=LO,toks:=s.toks+1 } :=
   I.turnedNew (ch:=[e,it]) (λb ob hb q=>(sb.2 b (λz=>hb (by simp[z]))).trans (hk b ob (λz=>hb (by simp[z])) (λz=>hb (by simp[z])) q)) hf (aF _) new
  refine⟨.ref s.heap.objs.size,_,I1,rfl,⟨_,x,rfl,I.hok.fresh (aF _),rfl,λys hy=>by rw[I.list_inj hy hq];exact hx⟩,⟨⟨u,?_⟩,Nm.at λo q=>(sb.2 it (ba BH)).trans q,BH⟩,λb hb=>?_⟩
  .have e1:((i+1:Nat):Int)=(i:Int)+1:=rfl
   rw[e1];exact Vr
  .have Ej:b<s.heap.objs.size:=by
    have e':b=e\/b=it:=by simpa using hb
    rcases e' with z | z
    .rw[z];exact QM
    .rw[z];exact Fe
   rw[aj (bG Ej)];exact(hf b hb).1
 done:=by
  intro X hP hw hK hc i pins s σ H E I hf st hg;subst hP hw hK;obtain⟨⟨old,he⟩,hit,BH⟩:=st
  obtain⟨xs,hq,hx⟩:=hg
  obtain⟨AX,rv,p,hz⟩:=I.list hq
  obtain⟨f0,f1,f2,f3,f4,f5⟩:=hf it (by simp)
  have hl:=rv.length
  exact wpAny_pyNext_enum_end (I.ok.hd hc) he hit p.isList (by simp;exact leL hl hx) λh' eb=>⟨rfl,I.turned (t':=s.toks) (λb o hb q=>eb b o hb q) f0 f1 f3 f4 f5⟩
 self:=λA i s Q E st h=>let ⟨⟨_,he⟩,_⟩:=st;wpAny_pyIter_enum he h
def iEnum(K:Fg_)(ta:TA):TI:=λσ H R=>ta σ H λvs H1=>∃a xs,vs=[.ref a]/\SqL K H1 a xs/\R (Ite K a) H1
theorem ub{X:Cx}{e:Expr}{ta:TA}{p pos Em:Pos}{elts:List Expr}{kk:Nat}(hg:Gl X "enumerate")(hm:X.mg "enumerate" =none)(ha:PA X [e] ta)(hs:starEach [e] X.env=[(false,eval e X.env)]:=by rfl) :
  PI X (.Tuple elts kk Em) (.Call (.Name "enumerate" p) [e] [] pos) (iEnum X.K ta):=by
 intro pins s σ H R I h;refine Call_ (jH I hg hm boot_enumerate (PyProof.Rows.callWith_type1 (thn (ha pos pins s σ H _ I h) λus s1 A9=>?_) hs rfl))
 obtain⟨vs,H1,I1,r1,q1⟩:=A9
 obtain⟨a,xs,ex,hq,q⟩:=q1
 subst ex;cases r1 with
 | cons r rr =>
  cases rr;cases r;obtain⟨AX,rv,p',hz⟩:=I1.list hq
  refine call_enumerate_list p'.isList λh' he hit hsz hk=>wpAny_pyIter_enum he ?_
  have I2:Inv X pins σ H1 { s1 with heap:=h' }:=I1.kept (t':=s1.toks) hk
  refine⟨s1.heap.objs.size+1,[s1.heap.objs.size+1,s1.heap.objs.size],_,_,H1,rfl,I2,uI a (s1.heap.objs.size+1) s1.heap.objs.size,⟨⟨.none,he⟩,hit,Nat.succ_ne_self _⟩,λb hb=>?_,q⟩
  have e':b=s1.heap.objs.size+1\/b=s1.heap.objs.size:=by simpa using hb
  have hle:s1.heap.objs.size<=b:=by
   rcases e' with z | z
   .rw[z];exact b8 _ _
   .rw[z];exact aF _
  exact I1.fpOk hle (I1.hok.fresh hle)
end L2
namespace L2.XC
open PySem PySem.Spec PyProof.Rows
open Builtin Builtin.ObjectAttr
abbrev bmU(U:Addr):List Value:=.ref U::bmE
theorem lr{C U:Addr}{T:String}(hT:bmE.contains (.type T)=true):(Value.ref C::bmU U).contains (.type T)=true:=by
 rw[fk,fk,hT,Bool.or_true,Bool.or_true]
theorem wW{C U:Addr}{T:String}(hT:bmE.contains (.type T)=false):(Value.ref C::bmU U).contains (.type T)=false:=by
 rw[fk,fk,hT];rfl
structure fm(K:Fg_)(U C fI:Addr):Prop where
 ob:∃(nm q:Str)(N:Addr)(bs:List Value)(sn:List Str)(sub:List Value)(ab:Bool)(col:Option Bool)(dd:Option Addr)(k0 k1 k2 k3 k5:Option Value),
  K.lookup C=some (excClassObj nm q C N bs (bmU U) true sn sub ab col dd k0 k1 k2 k3 k5 "Exception.__new__")
 ini:PySem.W.findIn K (.ref C) "__init__" =some (some (.ref fI))
 fn:PySem.W.isFn K (.ref fI)=true
 kp:PySem.W.keepIn K (.ref C)=true
 sa:PySem.W.findIn K (.ref C) "__setattr__" =some (some (.builtin "object.__setattr__"))
 ga:PySem.W.findIn K (.ref C) "__getattribute__" =some (some (.builtin "BaseException.__getattribute__"))
 gr:PySem.W.findIn K (.ref C) "__getattr__" =some none
 an:PySem.W.findIn K (.ref C) "answer" =some none
section
variable {prog:Program}{w:World}{A:Around}{E:Value->Shared->Prop}{h:Heap}{g:Array GenState}{d:Drawn}{t:Nat}{os:OsState}
variable {nm q:Str}{C N U x dx:Addr}{bs:List Value}{sn:List Str}{sub:List Value}{ab:Bool}{col:Option Bool}{dd:Option Addr}
variable {k0 k1 k2 k3 k5:Option Value}{name:Str}{v:Value}{o:Obj}{mA:Str->Option Value}
theorem vy{M:Model}{T:String}(hC:h.get? C=some (excClassObj nm q C N bs (bmU U) true sn sub ab col dd k0 k1 k2 k3 k5 "Exception.__new__"))(hx:h.get? x=some o)(hc:o.cls =.ref C)(hT:bmE.contains (.type T)=true) :
  PySem.W.Looks M h (isInstance (.ref x) (.type T)) true:=by
 intro A Q E s k z;obtain⟨hh,g,d,t,os⟩:=s
 have Hg:=k _ _ hx
 have NQ:=k _ _ hC
 have hb:=lr (C:=C) (U:=U) hT
 unfold isInstance;repeat (first
  | (with_reducible refine wpAny_loadPart_at Hg ?_;rw[hc])
  | (with_reducible refine wpAny_isSubtype_exc NQ ?_;rw[hb])
  | wp_step)
 exact z
theorem qS{M:Model}{rest:List Value}{Q:Unit->Shared->Prop}(hC:h.get? C=some (excClassObj nm q C N bs (bmU U) true sn sub ab col dd k0 k1 k2 k3 k5 "Exception.__new__"))(z:Q () ⟨h,g,d,t,os⟩) :
  wpAny M A (checkBuiltinCall "Exception.__new__" ⟨.ref C::rest,[]⟩) Q E ⟨h,g,d,t,os⟩:=by
 have F:=PySem.F.excBase_Exception
 have hb:=lr (C:=C) (U:=U) (T:="Exception") (by decide +kernel)
 have A':=F.noStar
 simp only[F.newRow,F.newKind,F.newSplit,checkBuiltinCall];repeat (first
  | refine wpAny_loadPart_at hC ?_
  | (refine wpAny_isSubtype_exc hC ?_;rw[hb])
  | refine wpAny_staticBase_exc hC ?_
  | refine wpAny_madeBy_exc hC ?_
  | simp only[if_false,Bool.false_eq_true,bne_self_eq_false]
  | wp_step)
 exact z
theorem u_new{R:Result->Shared->Prop}{rest:List Value}(hC:h.get? C=some (excClassObj nm q C N bs (bmU U) true sn sub ab col dd k0 k1 k2 k3 k5 "Exception.__new__"))
  (z:R (.ok (.ret (.ref (h.objs.size+1)))) ⟨(h.push { cls:=.type "tuple",data:=.seq rest.toArray }).push { cls:=.ref C,data:=.fields #[.ref h.objs.size,.none,.none,.none,.bool false,.none] },g,d,t,os⟩)(hl:rest.length<=sizeLine) :
  codeAny (model prog w) A (.builtin "Exception.__new__" ⟨.ref C::rest,[]⟩) R ⟨h,g,d,t,os⟩:=by
 have F:=PySem.F.excBase_Exception
 have he:=F.ends
 have hB:=lr (C:=C) (U:=U) (T:="Exception") (by decide +kernel)
 have hA:=wW (C:=C) (U:=U) (T:="AttributeError") (by decide +kernel)
 have hN:=wW (C:=C) (U:=U) (T:="NameError") (by decide +kernel)
 refine codeAny_builtinAt F.entry ?_
 unfold Builtin.«BaseException.__new__»
 refine PySem.wpAt_bind ?_
 show PySem.wpAt _ _ _ (stack >>=_) _ _ _
 refine PySem.wpAt_bind (PySem.wpAt_stack λp below=>PySem.wpAt_of_wpAny ?_)
 wp_walk
 refine PySem.wpAt_of_wpAny ?_
 rw[F.owner];repeat (first
  | with_reducible refine wpAny_madeHere_exc F.canon hC ?_
  | with_reducible refine wpAny_loadPart_at hC ?_
  | (with_reducible refine wpAny_isSubtype_exc hC ?_;first | rw[hB] | rw[hA] | rw[hN])
  | wp_step)
 show R _ _
 rw[Heap.size_push];exact z
theorem qP{rest:List Value}{fI:Addr}{oI:Obj}{Q:Fin->Shared->Prop}(hC:h.get? C=some (excClassObj nm q C N bs (bmU U) true sn sub ab col dd k0 k1 k2 k3 k5 "Exception.__new__"))
  (hL:PySem.W.Looks (model prog w) h (typeLookup (.ref C) "__init__") (some (.ref fI)))(hI:h.get? fI=some oI)(NK:oI.cls =.type "function")
  (z:∀h' e,Heap.MadeExcOf h h' e (.ref C) rest->wpAny (model prog w) A (call (.ref fI) (.ref e::rest)) (λr s'=>r =.none/\Q (.done (.ret (.ref e))) s') E ⟨h',g,d,t,os⟩)(hl:rest.length<=sizeLine) :
  wpAny (model prog w) A (Builtin.«type.__call__» ⟨.ref C::rest,[]⟩) Q E ⟨h,g,d,t,os⟩:=by
 have F:=PySem.F.excBase_Exception
 repeat (first
  | with_reducible refine wpAny_loadPart_at hC ?_
  | with_reducible refine wpAny_madeBy_exc hC ?_
  | wp_step)
 refine codeAny_call_builtin_code (Code.quiet_builtin _ F.quiet) (qS hC ?_)
 refine u_new hC ?_ hl
 show wpAny _ _ _ _ _ _
 generalize hP:((h.push { cls:=.type "tuple",data:=.seq rest.toArray }).push { cls:=.ref C,data:=.fields #[.ref h.objs.size,.none,.none,.none,.bool false,.none] })=hh
 have up:∀b u,h.get? b=some u->hh.get? b=some u:=λb u e=>by
  rw[<-hP];exact aL _ (aL _ e)
 have got:hh.get? (h.objs.size+1)=some { cls:=.ref C,data:=.fields #[.ref h.objs.size,.none,.none,.none,.bool false,.none] }:=by
  rw[<-hP];heap_get
 have NT:hh.get? h.objs.size=some { cls:=.type "tuple",data:=.seq rest.toArray }:=by
  rw[<-hP];exact aL _ (Heap.get?_push_at rfl rfl)
 have NQ:=up _ _ hC
 have JI:(Value.ref C::bmU U).contains (.ref C)=true:=by simp
 unfold isInstance;repeat (first
  | with_reducible refine wpAny_loadPart_at got ?_
  | (with_reducible refine wpAny_isSubtype_exc NQ ?_;rw[JI])
  | wp_step)
 show wpAny _ _ (typeLookup (.ref C) _) _ _ _
 refine hL _ _ _ _ up ?_
 refine wpAny_holding (aH ?_)
 unfold bindSpecial;refine aH (wpAny_typeOf (T:="function") ⟨_,up _ _ hI,NK⟩ ?_)
 rw[ax (by decide)]
 refine bM (aH (wpAny_mono (z hh (h.objs.size+1) ⟨up,Heap.get?_none_of_le (Nat.le_succ _),h.objs.size,got,Heap.get?_none_of_le (aF _),NT⟩) (λr s' hr=>?_) λξ ξ y=>y))
 obtain⟨rfl,hQ⟩:=hr
 wp_walk
 exact hQ
theorem vA{rest:List Value}{fI:Addr}{oI:Obj}{Q:Value->Shared->Prop}(hC:h.get? C=some (excClassObj nm q C N bs (bmU U) true sn sub ab col dd k0 k1 k2 k3 k5 "Exception.__new__"))
  (hL:PySem.W.Looks (model prog w) h (typeLookup (.ref C) "__init__") (some (.ref fI)))(hI:h.get? fI=some oI)(NK:oI.cls =.type "function")
  (z:∀h' e,Heap.MadeExcOf h h' e (.ref C) rest->wpAny (model prog w) (A.under (.builtin "type.__call__" ⟨.ref C::rest,[]⟩)) (call (.ref fI) (.ref e::rest)) (λr s'=>r =.none/\Q (.ref e) s') E ⟨h',g,d,t,os⟩)(hl:rest.length<=sizeLine) :
  wpAny (model prog w) A (call (.ref C) rest) Q E ⟨h,g,d,t,os⟩:=by
 have f1:=tc_lookup
 have f2:=tc_bind (.ref C)
 have ht:(⟨h,g,d,t,os⟩:Shared).TypeIs (.ref C) "type":=⟨_,hC,rfl⟩
 refine wpAny_call (codeAny_of_tree ?_)
 show wpAny _ _ (callAny (.ref C) _) _ _ _
 repeat (any_goals (first
  | assumption
  | with_reducible refine wpAny_loadPart_at hC ?_
  | wp_step))
 refine⟨rfl,?_⟩
 refine codeAny_call_builtin_at (Code.quiet_builtin _ (by decide +kernel)) entry_typeCall (wpAny_check_type_call_sub hC (qP hC hL hI NK (λh' e hm=>?_) hl))
 exact z h' e hm
theorem qQ{tk:Tok}{Q:Fin->Shared->Prop}(hC:h.get? C=some (excClassObj nm q C N bs (bmU U) true sn sub ab col dd k0 k1 k2 k3 k5 "Exception.__new__"))
  (hL:PySem.W.Looks (model prog w) h (typeLookup (.ref C) name) none)(hx:h.get? x=some o)(hc:o.cls =.ref C)(BO:o.dict=none)(Dc:∀c,o.data≠.cls c)
  (z:∀h' FT,h'.get? x=some { o with dict:=some h.objs.size }->h'.Ns1 h.objs.size (λy=>if y=name then some v else none) ->
   (∀b u,b≠x->h.get? b=some u->h'.get? b=some u)->Q (.done (.ret .none)) ⟨h',g,d,FT,os⟩) :
  wpAny (model prog w) A (Builtin.«object.__setattr__» ⟨[.ref x,.str name tk,v],[]⟩) Q E ⟨h,g,d,t,os⟩:=by
 have hp:=PySem.F.store_Exception.passes (.ref x)
 have Hc:x≠h.objs.size:=bG (aZ hx)
 unfold Builtin.«object.__setattr__»
 repeat (first
  | rw[refuse_eq]
  | rw[refuseLoop_ref,refuseLoop_ref,hp]
  | (with_reducible refine wpAny_loadPart_at hx ?_;rw[hc])
  | with_reducible refine wpAny_mroOf_exc hC ?_
  | (with_reducible refine hL.at ?_)
  | wp_step)
 rw[BO,ay (by simp[typeHasDict])]
 split
 .rename_i y
  cases y
 split
 .rename_i c y
  exact aW y (Dc c)
 .have Hg:(h.push { cls:=.type "dict",data:=.dict #[] }).get? x=some o:=aL _ hx
  refine aH (wpAny_alloc' (aH (wpAny_update' Hg (bM ?_))))
  generalize hU:((h.push { cls:=.type "dict",data:=.dict #[] }).update x λo=>{ cls:=o.cls,dict:=some h.objs.size,data:=o.data,slots:=o.slots })=hh
  have e1:hh.get? h.objs.size=some { cls:=.type "dict",data:=.dict #[] }:=by
   rw[<-hU];exact(Heap.get?_update_ne _ _ _ _ Hc.symm).trans (Heap.get?_push_at rfl rfl)
  have e2:hh.get? x=some { o with dict:=some h.objs.size }:=by
   rw[<-hU];refine Heap.get?_update_self _ Hg ?_
   have Bk:=(Heap.get?_some_iff.mp hx).2
   obtain⟨oc,od,Ml,Ee⟩:=o
   cases Ml<;>first | rfl | exact Bk
  have e3:∀b u,b≠x->h.get? b=some u->hh.get? b=some u:=λb u hb ER=>by
   rw[<-hU];exact(Heap.get?_update_ne _ _ _ _ hb).trans (aL _ ER)
  have e4:hh.Ns h.objs.size (λξ=>none):=⟨_,#[],_,e1,rfl,λe he=>aW he (by simp),λξ=>rfl⟩
  show wpAny _ _ (storeInDict h.objs.size (.str name tk) name v) _ _ _
  unfold storeInDict newKeyGuard;refine aH (bM (aH (wpAny_nsSet1 (Heap.Ns1.of_empty e4) λh' n1 sb=>?_)))
  obtain⟨oD,N4,N7,Hv,HG,HK⟩:=n1.count (Within.cons name v Within.nil)
  refine aH (wpAny_lookBehind Hv (by rw[HG];exact pastItsLine_dict (bH HK (by rw[ao,dB,sizeLine_eq];exact a8 _ _))) ?_)
  wp_walk
  exact z h' _ ((sb.2 x Hc).trans e2) n1 λb u hb ER=>(sb.2 b (bG (aZ ER))).trans (e3 b u hb ER)
theorem su{R:Result->Shared->Prop}{tk:Tok}(hC:h.get? C=some (excClassObj nm q C N bs (bmU U) true sn sub ab col dd k0 k1 k2 k3 k5 "Exception.__new__"))
  (hx:h.get? x=some o)(hc:o.cls =.ref C)
  (z:∀(A:Around)(T:Fin->Shared->Prop)(E:Value->Shared->Prop),(∀s',R (.ok (.ret .none)) s'->T (.done (.ret .none)) s') ->
   wpAny (model prog w) A (Builtin.«object.__setattr__» ⟨[.ref x,.str name tk,v],[]⟩) T E ⟨h,g,d,t,os⟩) :
  codeAny (model prog w) A (.call (.builtin "object.__setattr__") ⟨[.ref x,.str name tk,v],[]⟩) R ⟨h,g,d,t,os⟩:=by
 have SF:=PySem.F.store_Exception
 refine codeAny_call_builtin SF.slot.plain SF.entry (@PySem.W.check_slot (model prog w) _ _ ⟨h,g,d,t,os⟩ "object.__setattr__" "object" "__setattr__" (.ref x) [.str name tk,v] [] _ SF.kind SF.split (vy hC hx hc (by decide +kernel)) (SF.args (.ref x) (.str name tk) v) ?_)
 refine z _ _ _ ?_
 intro s' y
 exact y
theorem sv{Q:Unit->Shared->Prop}(hL:PySem.W.Looks (model prog w) h (typeLookup (.ref C) "__setattr__") (some (.builtin "object.__setattr__")))(hx:h.get? x=some o)(hc:o.cls =.ref C)
  (z:∀(A:Around)(R:Result->Shared->Prop)(tk t':Nat),(∀s',Q () s'->R (.ok (.ret .none)) s') ->
   codeAny (model prog w) A (.call (.builtin "object.__setattr__") ⟨[.ref x,.str name tk,v],[]⟩) R ⟨h,g,d,t',os⟩) :
  wpAny (model prog w) A (setAttr (.ref x) name v) Q E ⟨h,g,d,t,os⟩:=by
 have f3:=PySem.F.store_Exception.slot.bind (.ref x)
 unfold setAttr callSpecial? specialOf
 repeat (any_goals (first
  | assumption
  | (with_reducible refine wpAny_loadPart_at hx ?_;rw[hc])
  | (with_reducible refine hL.at ?_)
  | wp_step))
 refine z _ _ _ _ λs' y=>?_
 obtain⟨hh,gg,Wt,tt,oo⟩:=s'
 repeat (any_goals (first | (with_reducible assumption) | wp_step))
theorem qR{tk:Tok}{Q:Fin->Shared->Prop}(hC:h.get? C=some (excClassObj nm q C N bs (bmU U) true sn sub ab col dd k0 k1 k2 k3 k5 "Exception.__new__"))
  (hL:PySem.W.Looks (model prog w) h (typeLookup (.ref C) name) none)
  (hx:h.get? x=some o)(hc:o.cls =.ref C)(Dc:∀c,o.data≠.cls c)(BO:o.dict=some dx)(DQ:h.Ns1 dx mA)(hv:mA name=some v)(z:Q (.done (.ret v)) ⟨h,g,d,t,os⟩) :
  wpAny (model prog w) A (Builtin.«object.__getattribute__» ⟨[.ref x,.str name tk],[]⟩) Q E ⟨h,g,d,t,os⟩:=by
 unfold Builtin.«object.__getattribute__»
 repeat (first
  | (with_reducible refine wpAny_loadPart_at hx ?_;rw[hc])
  | (with_reducible refine hL.at ?_)
  | wp_step)
 split
 .rename_i c y
  exact aW y (Dc c)
 unfold instanceDict;repeat (first
  | (with_reducible refine wpAny_loadPart_at hx ?_;rw[hc])
  | with_reducible refine wpAny_loadPart_at hC ?_
  | wp_step)
 rw[BO];repeat (first | (with_reducible refine wpAny_nsGet DQ.ns ?_;rw[hv]) | wp_step)
 exact z
theorem sx{tk:Tok}{R:Result->Shared->Prop}(hC:h.get? C=some (excClassObj nm q C N bs (bmU U) true sn sub ab col dd k0 k1 k2 k3 k5 "Exception.__new__"))
  (hL:PySem.W.Looks (model prog w) h (typeLookup (.ref C) name) none)
  (hx:h.get? x=some o)(hc:o.cls =.ref C)(Dc:∀c,o.data≠.cls c)(BO:o.dict=some dx)(DQ:h.Ns1 dx mA)(hv:mA name=some v)(z:R (.ok (.ret v)) ⟨h,g,d,t,os⟩) :
  codeAny (model prog w) A (.call (.builtin "BaseException.__getattribute__") ⟨[.ref x,.str name tk],[]⟩) R ⟨h,g,d,t,os⟩ :=
 codeAny_call_builtin PySem.F.attrBase_Exception.ga.plain PySem.F.entry_bexc_ga
  (@PySem.W.check_slot (model prog w) _ _ ⟨h,g,d,t,os⟩ "BaseException.__getattribute__" "BaseException" "__getattribute__" (.ref x) [.str name tk] [] _ (by decide +kernel) (by decide +kernel) (vy hC hx hc (by decide +kernel)) (PySem.F.args_bexc_ga (.ref x) (.str name tk))
   (qR hC hL hx hc Dc BO DQ hv z))
theorem vz{tk:Tok}{fill expr:Bool}{Q:Value->Shared->Prop}(hC:h.get? C=some (excClassObj nm q C N bs (bmU U) true sn sub ab col dd k0 k1 k2 k3 k5 "Exception.__new__"))
  (hL:PySem.W.Looks (model prog w) h (typeLookup (.ref C) name) none)(Kg:PySem.W.Looks (model prog w) h (typeLookup (.ref C) "__getattribute__") (some (.builtin "BaseException.__getattribute__")))(NJ:PySem.W.Looks (model prog w) h (typeLookup (.ref C) "__getattr__") none)
  (hx:h.get? x=some o)(hc:o.cls =.ref C)(Dc:∀c,o.data≠.cls c)(BO:o.dict=some dx)(DQ:h.Ns1 dx mA)(hv:mA name=some v)(hh:handedOut v=pure v)(z:Q v ⟨h,g,d,t,os⟩) :
  wpAny (model prog w) A (getAttrBy (.ref x) (.str name tk) fill expr) Q E ⟨h,g,d,t,os⟩:=by
 have f3:=PySem.F.attrBase_Exception.ga.bind (.ref x)
 have z0:(expr&&onTheHeap (Value.builtin "BaseException.__getattribute__"))=false:=by cases expr<;>rfl
 have z2:(Value.builtin "BaseException.__getattribute__"==Value.builtin "object.__getattribute__")=false:=by decide +kernel
 have z1:(onTheHeap (Value.ref C)&&Value.builtin "BaseException.__getattribute__"==Value.builtin "object.__getattribute__")=false:=by rw[z2];rfl
 repeat (any_goals (first
  | assumption
  | (with_reducible refine wpAny_loadPart_at hx ?_;rw[hc])
  | (with_reducible refine Kg.at ?_)
  | (with_reducible refine NJ.at ?_)
  | wp_step))
 refine sx hC hL hx hc Dc BO DQ hv ?_
 repeat (any_goals (first | assumption | wp_step))
 all_goals (first | (rw[hh];exact bM z) | exact z)
theorem sA{expr:Bool}{Q:Value->Shared->Prop}(hC:h.get? C=some (excClassObj nm q C N bs (bmU U) true sn sub ab col dd k0 k1 k2 k3 k5 "Exception.__new__"))
  (hL:PySem.W.Looks (model prog w) h (typeLookup (.ref C) name) none)(Kg:PySem.W.Looks (model prog w) h (typeLookup (.ref C) "__getattribute__") (some (.builtin "BaseException.__getattribute__")))(NJ:PySem.W.Looks (model prog w) h (typeLookup (.ref C) "__getattr__") none)
  (hx:h.get? x=some o)(hc:o.cls =.ref C)(Dc:∀c,o.data≠.cls c)(BO:o.dict=some dx)(DQ:h.Ns1 dx mA)(hv:mA name=some v)(hh:handedOut v=pure v)(z:Q v ⟨h,g,d,t+1,os⟩) :
  wpAny (model prog w) A (getAttr (.ref x) name expr) Q E ⟨h,g,d,t,os⟩:=by
 unfold getAttr;refine aH (wpAny_mkText ?_)
 exact vz hC hL Kg NJ hx hc Dc BO DQ hv hh z
end
section
variable {X:Cx}{pins:List (Addr×Obj)}{σ:St}{H:Hp}{s:Shared}{e C U fI dx:Addr}{v:V}{u:Value}{E:Value->Shared->Prop}{A:Around}
theorem xp{Q:Unit->Shared->Prop}(I:Inv X pins σ H s)(c:fm X.K U C fI)(he:H e=some (XE e C none))(rv:dw v u)
  (h:∀dx s',H dx=none->dx≠e->Inv X pins σ (upd (upd H dx (XD dx [("answer",v)])) e (XE e C (some dx))) s'->Q () s'):wpAny (model X.prog X.w) A (setAttr (.ref e) "answer" u) Q E s:=by
 obtain⟨nm,q,N,bs,sn,sub,ab,col,dd,k0,k1,k2,k3,k5,lC⟩:=c.ob
 have hC:=I.kIn _ _ lC
 obtain⟨o,vs,ho,hc,hd,BB,h1⟩:=pw I.hok he
 have Dc:∀c,o.data≠.cls c:=λc z=>by rw[BB]at z;cases z
 have KX:=I.kIn
 obtain⟨hh,gg,dr,tt,oo⟩:=s
 refine sv (PySem.W.looks_findIn KX c.sa) ho hc λA R tk t' hR=>?_
 refine su hC ho hc λA T E' hT=>?_
 refine qQ hC (PySem.W.looks_findIn KX c.an) ho hc hd Dc λh' FT e1 e2 e3=>hT _ (hR _ ?_)
 have Bk:H hh.objs.size=none:=I.hok.fresh (aF _)
 have Mr:hh.objs.size≠e:=λz=>by rw[z,he]at Bk;cases Bk
 refine h hh.objs.size _ Bk Mr ?_
 have nE:∀b w,H b=some w->(∀φ,w≠.ext φ)->b≠e:=λb w q nw=>dC q he (nw _)
 have nS:∀b w,H b=some w->b≠hh.objs.size:=λb w q=>ag q Bk
 have at_:∀b w,H b=some w->(∀φ,w≠.ext φ)->upd (upd H hh.objs.size (XD hh.objs.size [("answer",v)])) e (XE e C (some hh.objs.size)) b=some w:=λb w q nw=>by
  rw[aj (nE b w q nw),aj (nS b w q)];exact q
 have un:Un X.fs [] H (upd (upd H hh.objs.size (XD hh.objs.size [("answer",v)])) e (XE e C (some hh.objs.size))) hh h':=by
  refine⟨λb w q n ξ ξ=>e3 b w (λz=>by rw[z,he]at n;cases n) q,λb w q n ξ ξ=>⟨w.slots,e3 b w (λz=>by rw[z,he]at n;cases n) q⟩,λb w q n ξ=>?_,λb w q ξ=>?_,
   λb xs q=>at_ b _ q (λξ z=>nomatch z),λb w xs q=>at_ b _ q (λξ z=>nomatch z),λb ps q=>⟨#[],by rw[at_ b _ q (λξ z=>nomatch z)];simp⟩⟩
  .rw[aj (λz=>by rw[z,he]at n;cases n),aj (bG (aZ q))];exact n
  .by_cases z:b=e
   .exact⟨_,by rw[z];exact e1⟩
   .exact⟨w,e3 b w z q⟩
 refine I.un (h':=h') un λb w q=>?_
 by_cases z:b=e
 .subst z;rw[aC]at q;cases q;exact qN e1 hc rfl BB h1
 .rw[aj z]at q;by_cases z2:b=hh.objs.size
  .subst z2;rw[aC]at q;cases q;refine vv e2 (λg=>?_) λg hg=>?_
   .show jN (List.lookup g [("answer",v)]) (if g = "answer" then some u else none)
    by_cases y:g = "answer"
    .have hb:(g==("answer" :Str))=true:=beq_iff_eq.mpr y
     simp only[List.lookup,hb,ax y];exact rv
    .have hb:(g==("answer" :Str))=false:=bu.mpr y
     simp only[List.lookup,hb,ay y];trivial
   .by_cases y:g = "answer"
    .simp[y]
    .exact aW (show(if g = "answer" then some u else none)=none from ay y) hg
  .rw[aj z2]at q;refine(I.hok b w q).stay (λb' v' hc' r=>e3 b' v' ?_ r) (λb' r=>at_ b' _ r (λξ z=>nomatch z)) λb' xs r=>at_ b' _ r (λξ z=>nomatch z)
   rcases hc' with y | y
   .rw[y];exact z
   .exact nE b' _ y (λξ z=>nomatch z)
theorem zm{Q:Value->Shared->Prop}{b:Bool}(I:Inv X pins σ H s)(c:fm X.K U C fI)(he:H e=some (XL e C dx))(hd:H dx=some (XD dx [("answer",v)]))
  (h:∀u s',Inv X pins σ H s'->dw v u->Q u s'):wpAny (model X.prog X.w) A (getAttr (.ref e) "answer" b) Q E s:=by
 obtain⟨nm,q,N,bs,sn,sub,ab,col,dd,k0,k1,k2,k3,k5,lC⟩:=c.ob
 have hC:=I.kIn _ _ lC
 obtain⟨o,vs,ho,hc,Ny,BB⟩:=xl_of I.hok he
 obtain⟨mA,n1,rl,wi⟩:=y0 I.hok hd
 have Dc:∀c,o.data≠.cls c:=λc z=>by rw[BB]at z;cases z
 obtain⟨u,hu,ru⟩:=jN.some_of (v:=v) (o:=mA "answer") (rl "answer")
 have KX:=I.kIn
 obtain⟨hh,gg,dr,tt,oo⟩:=s
 exact sA hC (PySem.W.looks_findIn KX c.an) (PySem.W.looks_findIn KX c.ga) (PySem.W.looks_findIn KX c.gr) ho hc Dc Ny n1 hu (PySem.W.handedOut_of (pU ru)) (h u _ (I.tok _) ru)
end
section
variable {X:Cx}{U:Addr}{o value e:Expr}{pos pos':Pos}{ta tv:TE}
def sU1(K:Fg_)(U:Addr)(ta tv:TE):TS:=λD σ H=>tv σ H λy H1=>ta σ H1 λx H2=>∃e C fI,x =.ref e/\fm K U C fI/\H2 e=some (XE e C none)/\∀dx,H2 dx=none->dx≠e->D.nx σ (upd (upd H2 dx (XD dx [("answer",y)])) e (XE e C (some dx)))
def tUf(K:Fg_)(U:Addr)(ta:TE):TE:=λσ H Q=>ta σ H λx H1=>∃e C fI dx v,x =.ref e/\fm K U C fI/\H1 e=some (XL e C dx)/\H1 dx=some (XD dx [("answer",v)])/\Q v H1
theorem zd(ha:PE X o ta)(hv:PE X value tv)(hs:swapsWith value (some (.Attribute o "answer" pos')) pos.line X.env=pure false):PS X (.Assign [.Attribute o "answer" pos'] value pos) (sU1 X.K U ta tv):=by
 intro pins s σ H D I h;refine plainObj_wpAny_Assign_Attribute (thn (hv pins s σ H _ I h) λu s1 ⟨y,H1,I1,ry,q⟩=>thn (ha pins s1 σ H1 _ I1 q) λov s2 A9=>?_) hs
 obtain⟨x,H2,I2,rx,a,C,fI,ex,c,ea,q2⟩:=A9
 subst ex;obtain rfl:ov=Value.ref a:=rx
 exact xp I2 c ea ry λdx s3 n ne I3=>⟨σ,_,I3,q2 dx n ne⟩
theorem pe_uf{K:Fg_}(hK:X.K=K)(he:PE X e ta)(hb:attributeBase e "answer" X.env (eval e X.env)=eval e X.env):PE X (.Attribute e "answer" pos) (tUf K U ta):=by
 subst hK;intro pins s σ H Q I h;refine uA hb (thn (he pins s σ H _ I h) λu s1 A9=>?_)
 obtain⟨x,H1,I1,rx,a,C,fI,dx,v,ex,c,ea,ed,q⟩:=A9
 subst ex;obtain rfl:u=Value.ref a:=rx
 exact zm I1 c ea ed λu' s2 I2 ru=>⟨v,H1,I2,ru,q⟩
end
section
variable {X:Cx}{CX:CXT}{k:Nat}{f U:Addr}{fd:FuncData}{ps:List Str}{sp:Sp}{BW:List V}{ds:List Value}{E:XK}{x m:Str}{p pos apos:Pos}{e:Expr}{es:List Expr}{t:TA}
structure lD(K:Fg_)(U:Addr)(m:Str)(f:Addr):Prop where
 rd:PySem.W.readsIn K U (.type "type")=true
 fc:PySem.W.findCls K (.ref U) (.type "type") m=some (.val (.ref f))
 sg:PySem.W.specialIn K (.ref U) "__getattribute__" =some (some (.builtin "type.__getattribute__"))
 kp:PySem.W.keepIn K (.ref f)=true
theorem qh{pl:Sem Bool}(hg:Gl X x)(hm:X.mg x=some (.ref U))(c:lD X.K U m f)(F:bQ X.prog X.w X.K X.mg X.base CX k f fd ps sp)(hr:cD k X.A)(hb:bZ X.K fd ps ds)(hd:cJ BW ds)(hx:hZ CX X E)(ha:PA X (e::es) t)
  (BP:(x==("__debug__" :Str))=false:=by decide)(A':starEach (e::es) X.env=(false,eval e X.env)::starEach es X.env:=by rfl)(Bn:(backTo pos (starEach es X.env)).any (·.1)=false:=by rfl)
  (ht:eval (.Call (.Attribute (.Name x p) m apos) (e::es) [] pos) X.env=(do
   let ov ←eval (.Name x p) X.env
   standAt apos.atName
   let (f,first) ←holding [ov] (getMethod ov m pl)
   callWith pos f first (backTo pos (starEach (e::es) X.env)) (backToKw pos (keywordEach [] X.env))):=by rfl) :
  PE X (.Call (.Attribute (.Name x p) m apos) (e::es) [] pos) (vH sp BW E t):=by
 intro pins s σ H Q I h;refine PySem.W.methodCall_KW (pl:=pl) (fX I hg hm ?_ BP) ht
 refine PySem.W.method_cls I.kIn c.sg (PySem.W.cls_value I.kIn c.rd c.fc rfl ?_)
 refine PySem.W.callWith_K (first:=[]) (h₀:=X.base) I.ok.mod.kin c.kp (thn (ha pos pins _ σ H _ (I.tok _) h) λus s2 ⟨vs,H2,I2,r,q2⟩=>⟨I2.kIn,?_⟩) A' Bn
 exact qd (us:=us) F hr hb hd hx I2 r q2
end
def gp(E:XK)(C:Addr)(ans:List V):Prop:=∀H' dx a,H' dx=some (XD dx [("answer",.ref a)])->H' a=some (.lst ans)->E (.ref C) (some dx) H'
def fK(C:Addr)(n:Nat)(ans:List V->List V):Sp:=λvs H Q ξ=>∃e rest,vs =.ref e::rest/\rest.length=n/\H e=some (XE e C none) /\
 ∀dx a H',dx≠e->H' e=some (XE e C (some dx))->H' dx=some (XD dx [("answer",.ref a)])->H' a=some (.lst (ans rest))->Q .non H'
def t8(C:Addr)(E:XK)(n:Nat)(ans:List V->List V)(t:TA):TS:=λξ σ H=>t σ H λvs ξ=>vs.length=n/\gp E C (ans vs)
def zj(X:Cx)(U C:Addr)(v:Value)(s1:Shared):Prop:=∃(e:Addr)(nm q:Str)(N:Addr)(bs:List Value)(sn:List Str)(sub:List Value)(ab:Bool)(col:Option Bool)(dd:Option Addr)(k0 k1 k2 k3 k5:Option Value)(o:Obj)(vs:Array Value),
 v =.ref e/\s1.heap.get? C=some (excClassObj nm q C N bs (bmU U) true sn sub ab col dd k0 k1 k2 k3 k5 "Exception.__new__")/\s1.heap.get? e=some o/\o.cls =.ref C/\o.data =.fields vs/\XV vs/\X.xe (.ref e) s1
section
variable {cl:Prop}{X:Cx}{U C fI:Addr}{fd:FuncData}{x:Str}{np Bc pos:Pos}{a:Expr}{E:XK}{t:TA}{k n:Nat}{ps:List Str}{ans:List V->List V}
theorem pI{s:Shared}{m:Sem Value}{Q:Flow->Shared->Prop}(hh:X.A.handled=none)(h:wpAny (model X.prog X.w) X.A m (zj X U C) X.xe s) :
  wpAny (model X.prog X.w) X.A (raiseStmt X.env (some m) none) Q X.xe s:=by
 have IK:=lr (C:=C) (U:=U) (T:="BaseException") (by decide +kernel)
 unfold raiseStmt;refine aH (wpAny_mono h (λv s1 h1=>?_) λξ ξ z=>z)
 obtain⟨e,nm,q,N,bs,sn,sub,ab,col,dd,k0,k1,k2,k3,k5,o,vs,rfl,hC,he,hc,hd,hv,hE⟩:=h1
 have hv:=And.left hv
 obtain⟨hp,g,d,tk,os⟩:=s1
 repeat (first
  | (with_reducible refine wpAny_loadPart_at he ?_;rw[hc])
  | (with_reducible refine wpAny_loadPart_at he ?_)
  | with_reducible refine wpAny_loadPart_at hC ?_
  | (with_reducible refine wpAny_isSubtype_exc hC ?_;rw[IK])
  | with_reducible refine wpAny_field he hd hv ?_
  | wp_step)
 exact wpAny_raiseNew_none hh hE
theorem nW{pins:List (Addr×Obj)}{σ:St}{H1:Hp}{s1:Shared}{us:List Value}{vs:List V}{Qv:Value->Shared->Prop}(c:fm X.K U C fI)(F:bQ X.prog X.w X.K X.mg X.base CX0 k fI fd ps (fK C n ans))(ES:bZ X.K fd ps [])(DA:ps.length=n+1)
  (hr:cD (k+1) X.A)(Ct:gn cl X E)(BM:X.ex=[])(I1:Inv X pins σ H1 s1)(r:cJ vs us)(hn:vs.length=n)(hsz:us.length<=sizeLine)(q:gp E C (ans vs))(hQ:∀v s',zj X U C v s'->Qv v s') :
  wpAny (model X.prog X.w) X.A (call (.ref C) us) Qv X.xe s1:=by
 obtain⟨nm,q',N,bs,sn,sub,ab,col,dd,k0,k1,k2,k3,k5,lC⟩:=c.ob
 have KX:=I1.kIn
 have hC:=KX _ _ lC
 have fn:=c.fn
 unfold PySem.W.isFn at fn;have Gk:=beq_iff_eq.mp fn
 unfold PySem.W.typeIn at Gk;obtain⟨oI,JU,Kc⟩:=gq.mp Gk
 obtain⟨hh,gg,dr,tt,oo⟩:=s1
 refine vA hC (PySem.W.looks_findIn KX c.ini) (KX _ _ JU) Kc (λh' e md=>?_) hsz
 obtain⟨tu,e1,e2,e3⟩:=md.there
 have he:H1 e=none:=by
  cases z:H1 e with
  | none=>rfl
  | some w =>
   obtain⟨oz,hz⟩:=ie (I1.hok e w z)
   rw[md.new]at hz;cases hz
 have y:fQ X pins e:=gO I1 BM md.new
 have I2:Inv X pins σ (upd H1 e (XE e C none)) ⟨h',gg,dr,tt,oo⟩ :=
  jW (I1.kept (h':=h') (t':=tt) md.keeps) y he (qN e1 rfl rfl rfl ⟨rfl,rfl,by show 4<6;decide⟩)
 have Cn:fK C n ans (.ref e::vs) (upd H1 e (XE e C none)) (λv H'=>v =.non/\∃dx a,dx≠e/\H' e=some (XE e C (some dx))/\H' dx=some (XD dx [("answer",.ref a)])/\H' a=some (.lst (ans vs))) E0 :=
  ⟨e,vs,rfl,hn,aC,λdx a H' z1 z2 z3 z4=>⟨rfl,dx,a,z1,z2,z3,z4⟩⟩
 have hl:(Value.ref e::us).length=ps.length:=by rw[ao,<-r.length,hn,DA]
 refine wpAny_call (codeAny_mono (F.run _ X.stack _ _ ⟨.ref e::us,[]⟩ (.ref e::us) (.ref e::vs) _ _ (hr.make C us []) (I2.env0.make C us []) ?_ (.cons rfl r) Cn) λr s' hq=>?_)
 .have:=ES ⟨h',gg,dr,tt,oo⟩ (.ref e::us) I2.kIn (by rw[bJ];exact hl)
  rw[bJ]at this;exact this
 .cases r with
  | error x=>exact hq.elim
  | ok fl =>
   cases fl with
   | next=>exact False.elim hq
   | brk=>exact False.elim hq
   | cont=>exact False.elim hq
   | ret u =>
    obtain⟨v,H',I3,rv,ev,dx,a,z1,z2,z3,z4⟩:=I2.after hq
    subst ev;refine⟨rv,hQ _ _ ?_⟩
    obtain⟨o,vs,ho,hc,hd,BB,h1⟩:=pw I3.hok z2
    refine⟨e,nm,q',N,bs,sn,sub,ab,col,dd,k0,k1,k2,k3,k5,o,vs,rfl,I3.kIn _ _ lC,ho,hc,BB,h1,?_⟩
    exact Ct pins σ (oZ H' e) s' e C dx (oW I3 z2) (.inl ⟨o,vs,ho,hc,hd,BB,h1.1,λξ=>h1.2.1⟩) iq y (q _ dx a (by rw[fW z1];exact z3) (by rw[fW (dC z4 z2 (by intro y;cases y))];exact z4))
theorem iw(c:fm X.K U C fI)(F:bQ X.prog X.w X.K X.mg X.base CX0 k fI fd ps (fK C n ans))(ES:bZ X.K fd ps [])(DA:ps.length=n+1)(hr:cD (k+1) X.A)(Ct:gn cl X E)(BM:X.ex=[])(hg:Gl X x)(hm:X.mg x=some (.ref C))
  (ha:PA X [a] t)(hn:n<=100)(BP:(x==("__debug__" :Str))=false:=by decide)(A':starEach [a] X.env=(false,eval a X.env)::starEach [] X.env:=by rfl)(Bn:(backTo Bc (starEach [] X.env)).any (·.1)=false:=by rfl) :
  PS X (.Raise (some (.Call (.Name x np) [a] [] Bc)) none pos) (t8 C E n ans t):=by
 intro pins s σ H D I h;rw[arm_exec_Raise];refine aH (wpAny_standAt (pI (U:=U) (C:=C) hr.hd (aH (m:=eval (.Call (.Name x np) [a] [] Bc) X.env) ?_)))
 refine wpAny_Call_Name_kw (fX I hg hm ?_ BP)
 refine PySem.W.callWith_K (h₀:=X.base) I.ok.mod.kin c.kp (thn (ha Bc pins s σ H _ I h) λus s1 ⟨vs,H1,I1,r,hv,q⟩=>⟨I1.kIn,?_⟩) A' Bn
 refine nW c F ES DA hr Ct BM I1 r hv (by rw[ft,<-r.length,hv,sizeLine_eq];lia) q λv s' z=>?_
 exact aH (wpAny_standAt (bM z))
theorem jl(c:fm X.K U C fI)(F:bQ X.prog X.w X.K X.mg X.base CX0 k fI fd ps (fK C 0 ans))(ES:bZ X.K fd ps [])(DA:ps.length=1)(hr:cD (k+1) X.A)(Ct:gn cl X E)(BM:X.ex=[])(hg:Gl X x)(hm:X.mg x=some (.ref C))
  (BP:(x==("__debug__" :Str))=false:=by decide) :
  PS X (.Raise (some (.Call (.Name x np) [] [] Bc)) none pos) (t8 C E 0 ans xt):=by
 intro pins s σ H D I h;rw[arm_exec_Raise];refine aH (wpAny_standAt (pI (U:=U) (C:=C) hr.hd (aH (m:=eval (.Call (.Name x np) [] [] Bc) X.env) ?_)))
 refine wpAny_Call_Name_kw (fX I hg hm ?_ BP)
 have h:([]:List V).length=0/\gp E C (ans []):=h
 refine PySem.W.callWith_K0 I.kIn c.kp ?_
 refine nW (us:=[]) (vs:=[]) c F ES DA hr Ct BM I .nil rfl (by show 0<=sizeLine;decide) h.2 λv s' z=>?_
 exact aH (wpAny_standAt (bM z))
end
structure pq(K:Fg_)(CF U C:Addr):Prop where
 no:PySem.W.exmOne K (.ref C) (.ref CF)=some false
 yes:PySem.W.exmOne K (.ref C) (.ref U)=some true
def w2(X:Cx)(CF U:Addr)(i:Nat)(FS FR:TS)(D:js):XK:=λc od H'=>(c =.ref CF/\FS (Rt D) (hW X) H') \/
 ∃C dx,c =.ref C/\pq X.K CF U C/\od=some dx/\∀e,H' e=none->FR (Rt D) ((hW X).set i (some (.ref e))) (upd H' e (XL e C dx))
def tTry2(X:Cx)(CF U:Addr)(i:Nat)(tb:XK->TS)(FS FR:TS):TS:=λD σ H=>tb (w2 X CF U i FS FR D) D σ H
section
variable {cl:Prop}{X:Cx}{CF U fI:Addr}{x1 x2 n:Str}{Ef PK Ga F' pos:Pos}{body:List Stmt}{b1 b2:Stmt}{Cz Cy:List Stmt}{tb:XK->TS}{FS FR:TS}{i:Nat}
theorem mY{x:Str}{np CD:Pos}{e C T dx:Addr}{b:Bool}{pins:List (Addr×Obj)}{σ:St}{H:Hp}{s:Shared}{R:Result->Shared->Prop}(hx:PySem.W.exmOne X.K (.ref C) (.ref T)=some b)(hg:Gl X x)(hm:X.mg x=some (.ref T))(BP:(x==("__debug__" :Str))=false)
  (I:Inv X pins σ H s)(ld:iF cl s.heap e C dx)(h:R (.ok (if b=true then .brk else .next)) s):codeAny (model X.prog X.w) (X.A.mark (some (.ref e))) (.handlers (.ref e) [.ExceptHandler (some (.Name x np)) none [] CD] X.env) R s:=by
 refine codeAny_handlers_test (fX (X:=Xm X (.ref e) λξ ξ=>False) (ow I) hg hm ?_ BP)
 obtain⟨o,vs,T',oT,L7,he,hc,Bx,hd,h1,EV,hT,B6,h3⟩:=ld
 have LT:PySem.W.Looks (model X.prog X.w) s.heap (typeOf (.ref e)) (.ref C):=by
  have:=(PySem.W.Looks.ld (M:=model X.prog X.w) (part:=none) he).andThen (f:=λo=>pure o.cls) (b:=o.cls) .now
  rw[hc]at this;exact this
 exact(PySem.W.exm_one I.kIn LT hx).here h
theorem yN{D:js}{pins:List (Addr×Obj)}(c:mj X.K CF fI)(Ei:Gl X x1)(BD:X.mg x1=some (.ref CF))(Do:Gl X x2)(CG:X.mg x2=some (.ref U))(FD:(x1==("__debug__" :Str))=false)(HF:(x2==("__debug__" :Str))=false)
  (hf:X.env.frame=some X.env.locals)(A':∃outer,X.stack=X.env::outer)(hN:X.N.Nodup)(hi:X.N[i]? =some n)(hl:X.env.scope.names.lookup n=some .local)
  (JL:∀v,PSs (Xm X v λξ ξ=>False) (b1::Cz) FS)(Dk:∀v,PSs (Xm X v λξ ξ=>False) (b2::Cy) FR) :
  gn cl (Xt X (X.pn++pins) (txe X pins D [.ExceptHandler (some (.Name x1 Ef)) none (b1::Cz) Ga,.ExceptHandler (some (.Name x2 PK)) (some n) (b2::Cy) F'])) (w2 X CF U i FS FR D):=by
 intro BC σ H s e C' dx I0 fl hn y q
 have I:=gY I0
 obtain⟨outer,A'⟩:=A'
 have Bk:X.A.frames=some (X.env::outer):=by rw[<-A'];exact I.ok.frames
 have DE:s.heap.FunFrames X.base (X.env::outer):=by rw[<-A'];exact I.stack
 refine k9 Bk DE hf fl λh' ld k=>?_
 rw[<-A']at k;have y':=gH y
 have I1:Inv X pins (hW X) H { s with heap:=h' }:=tj (gm I hn y' k)
 rcases q with⟨ec,q⟩ | ⟨C,Cc,ec,sub,ed,q⟩
 .cases ec;refine wpAny_handleBy_cons (vF c Ei BD FD I1 ld ?_) (by intro z;cases z)
  refine codeAny_handlers_suite (jo ld ?_)
  refine wpAny_mono (JL (.ref e) pins _ (hW X) H (Rt D) (ow I1) q) (λf s2 z=>?_) λξ ξ z=>z.elim
  exact uL I.ok z
 .cases ec;cases ed;refine wpAny_handleBy_cons (mY sub.no Ei BD FD I1 ld ?_) (by intro z;cases z)
  refine wpAny_handleBy_cons (mY sub.yes Do CG HF I1 ld ?_) (by intro z;cases z)
  refine codeAny_handlers_suite_as (jo ld ?_)
  obtain⟨o,vs,T,oT,L7,he,hc,Bx,hd,h1,_⟩:=ld
  have I2:Inv X pins (hW X) (upd H e (XL e C' dx)) { s with heap:=h' }:=jW I1 y' hn (xl_ok he hc Bx hd)
  refine kI (X:=Xm X (.ref e) λξ ξ=>False) (v:=.ref e) (ow I2) hN hi (.inl hl) rfl (λs3 I3=>?_) (.inr hl)
  refine wpAny_mono (Dk (.ref e) pins _ _ _ (Rt D) I3 (q e hn)) (λf s2 z=>?_) λξ ξ z=>z.elim
  show wpAny _ _ _ _ _ _
  cases f with
  | next=>obtain⟨_,_,_,z⟩:=z;exact z.elim
  | brk=>obtain⟨_,_,_,z⟩:=z;exact z.elim
  | cont=>obtain⟨_,_,_,z⟩:=z;exact z.elim
  | ret u =>
   obtain⟨v,σ4,H4,I4,rv,z⟩:=z
   have I5:=qx I.ok I4
   obtain⟨m,ID,_⟩:=id I5.loc
   have HJ:(X.env.scope.kind==.class||(X.env.scope.kind==.module&&X.env.locals !=X.env.globals))=false:=by rw[I.ok.kind];rfl
   exact wpAny_nameGoes hl ID HJ λh5 m5 n5 SK=>⟨v,hW X,H4,tf I5 n5 SK,rv,z⟩
theorem yf(c:mj X.K CF fI)(Ei:Gl X x1)(BD:X.mg x1=some (.ref CF))(Do:Gl X x2)(CG:X.mg x2=some (.ref U))(hf:X.env.frame=some X.env.locals)(A':∃outer,X.stack=X.env::outer)(hN:X.N.Nodup)(hi:X.N[i]? =some n)(hl:X.env.scope.names.lookup n=some .local)
  (hb:∀pn xe E,gn cl (Xt X pn xe) E->PSs (Xt X pn xe) body (tb E))(JL:∀v,PSs (Xm X v λξ ξ=>False) (b1::Cz) FS)(Dk:∀v,PSs (Xm X v λξ ξ=>False) (b2::Cy) FR)
  (FD:(x1==("__debug__" :Str))=false:=by decide)(HF:(x2==("__debug__" :Str))=false:=by decide) :
  PS X (.Try body [.ExceptHandler (some (.Name x1 Ef)) none (b1::Cz) Ga,.ExceptHandler (some (.Name x2 PK)) (some n) (b2::Cy) F'] [] [] pos) (tTry2 X CF U i tb FS FR):=by
 intro pins s σ H D I h;refine wpAny_Try_except (wpAny_mono (hb _ _ _ (yN (pins:=pins) (D:=D) c Ei BD Do CG FD HF hf A' hN hi hl JL Dk) [] s σ H D (kT I) h) (λf s1 z=>?_) λe s1 z=>z)
 have z':=oP I.ok z
 cases f with
 | next=>exact wpAny_execs_nil z'
 | brk=>exact z'
 | cont=>exact z'
 | ret u=>exact z'
end
theorem yw{e:Value}{env KY:Env}(h:env.frame=KY.frame):noteFrame e env=noteFrame e KY:=by
 unfold noteFrame PySem.frameOf;rw[h]
def uD(cl:Prop)(h:Heap)(e C dx T:Addr):Prop :=
 ∃o vs oT ts,h.get? e=some o/\o.cls =.ref C/\o.dict=some dx/\o.data =.fields vs/\vs[1]? =some (.ref T)/\T≠e/\h.get? T=some oT/\oT.data =.fields ts/\3<ts.size/\(cl->vs[2]? =some .none)
def oX(cl:Prop)(X:Cx)(E:XK):Prop:=∀(pins:List (Addr×Obj))(σ:St)(H:Hp)(s:Shared)(e C dx T:Addr),Inv X pins σ H s->uD cl s.heap e C dx T->H e=none->H T=none->fQ X pins e->fQ X pins T->E (.ref C) (some dx) H->X.xe (.ref e) s
section
variable {M:Model}{A:Around}{E E':Value->Shared->Prop}{s:Shared}{cl:Prop}
theorem oH{base:Heap}{env:Env}{outer:List Env}{L e C dx:Addr}{o:Obj}{vs:Array Value}{head:Value}{NH:Bool}{Q:Unit->Shared->Prop}
  (Bk:A.frames=some (env::outer))(hl:s.heap.FunFrames base (env::outer))(hf:env.frame=some L)
  (he:s.heap.get? e=some o)(hc:o.cls =.ref C)(Bx:o.dict=some dx)(hd:o.data =.fields vs)(hsz:1<vs.size)(BQ:cl->vs[2]? =some .none)
  (h:∀h' T,uD cl h' e C dx T->s.heap.get? T=none->vp (frs (env::outer)) e s.heap h'->Q () { s with heap:=h' }) :
  wpAny M A (do
   let fo ←PySem.frameOf env
   let pl ←entryPlaceOf L NH
   let b ←EntryCells.newEntry head fo .none (rawInt L) .none pl
   setField (.ref e) 1 b) Q E' s:=by
 have Jp:e∉frs (env::outer):=λhm=>by
  obtain⟨_,ob,ho,M9⟩:=hl.mem hm
  rw[he]at ho;cases ho;exact M9 vs hd
 refine aH (wpAny_frameOf_fun Bk hl hf λh1 hs=>?_)
 refine aH (wpAny_entryPlaceOf λpl Bn=>?_)
 unfold EntryCells.newEntry newFields;refine aH (wpAny_newObj_type ?_ (Bn.sizeOk5 _ _ _ _ _))
 generalize hX:({ cls:=.type "traceback",dict:=none,data:=.fields ([head,.ref L,.none,rawInt L,.none]++(if pl.isEmpty then List.replicate 6 Value.none else pl)).toArray }:Obj)=Xo
 have e1:h1.get? e=some o:=(hs.2.1 e Jp).trans he
 have e2:(h1.push Xo).get? e=some o:=aL _ e1
 refine wpAny_setField e2 hd hsz ?_
 have nT:h1.objs.size≠e:=fj (aZ e1)
 have d3:=Obj.data_mapFields hd (·.setIfInBounds 1 (Value.ref h1.objs.size))
 have e3:=Heap.get?_update_self (Obj.mapFields (·.setIfInBounds 1 (Value.ref h1.objs.size))) e2 (Obj.isFreed_of_fields d3)
 have xf:∃ts:Array Value,Xo.data =.fields ts/\3<ts.size:=by
  rw[<-hX];exact⟨_,rfl,by simp only[aU,ae,ao,dB];exact cq (b8 _ _)⟩
 obtain⟨ts,xd,x3⟩:=xf
 have xn:Xo.isFreed=false:=Obj.isFreed_of_fields xd
 have t3:((h1.push Xo).update e (Obj.mapFields (·.setIfInBounds 1 (Value.ref h1.objs.size)))).get? h1.objs.size=some Xo :=
  (Heap.get?_update_other _ _ (ba nT)).trans (bx h1 xn)
 refine h _ h1.objs.size ?_ (Heap.get?_none_of_le (by rw[hs.1];exact aF _)) ⟨λb ob nb ne hb=>?_,λb ob nb hb=>?_⟩
 .refine⟨_,_,_,ts,e3,?_,?_,d3,by simp[hsz],nT,t3,xd,x3,λz=>?_⟩
  .rw[Obj.cls_mapFields];exact hc
  .obtain⟨c1,c2,c3,c4⟩:=o
   cases hd;exact Bx
  .rw[eX (by decide)]
   exact BQ z
 .have q:h1.get? b=some ob:=(hs.2.1 b nb).trans hb
  rw[Heap.get?_update_other _ _ (ba ne)];exact aL _ q
 .obtain⟨sl,q⟩:=hs.2.2 b ob hb
  have ne:b≠e:=λz=>Jp (z▸nb)
  refine⟨sl,?_⟩
  rw[Heap.get?_update_other _ _ (ba ne)];exact aL _ q
theorem wK{base:Heap}{env:Env}{outer:List Env}{L e C dx:Addr}{Q:Unit->Shared->Prop}
  (Bk:A.frames=some (env::outer))(hl:s.heap.FunFrames base (env::outer))(hf:env.frame=some L)(x:Fly cl s.heap e C dx)
  (h:∀h' T,uD cl h' e C dx T->s.heap.get? T=none->vp (frs (env::outer)) e s.heap h'->Q () { s with heap:=h' }) :
  wpAny M A (noteFrame (.ref e) env) Q E' s:=by
 unfold noteFrame;simp only[hf];rcases x with⟨o,vs,he,hc,Bx,hd,h1,BQ⟩ | ⟨o,vs,T,oT,ts,he,hc,Bx,hd,h1,EV,hT,B6,h3,BQ⟩
 .refine aH (wpAny_field he hd h1 ?_)
  rw[ay (by decide)]
  exact oH Bk hl hf he hc Bx hd (cA.mp h1).1 BQ h
 .refine aH (wpAny_field he hd h1 ?_)
  rw[ax (show(Value.ref T !=Value.none)=true from by simp)]
  refine aH (wpAny_field hT B6 h3 ?_)
  rw[ay (show ¬((Value.none==rawInt L)=true)from by simp[rawInt])]
  refine aH (wpAny_setField hT B6 (cA.mp h3).1 ?_)
  rw[Heap.update_setField_same s.heap T oT ts 3 .none hT B6 h3];exact oH Bk hl hf he hc Bx hd (cA.mp h1).1 BQ h
end
section
variable {X:Cx}{pins:List (Addr×Obj)}{σ:St}{H:Hp}{s:Shared}{e C dx T:Addr}{E:XK}{cl:Prop}
theorem rM{z:Value}{oT:Obj}{ts:Array Value}(I:Inv X pins σ H s)(hn:H T=none)(y:fQ X pins T)(hT:s.heap.get? T=some oT)(hd:oT.data =.fields ts) :
  Inv X pins σ H { s with heap:=s.heap.update T (Obj.mapFields (·.setIfInBounds 3 z)) }:=by
 refine gm I hn y ⟨λb o ξ ne hb=>?_,λb o hm hb=>?_⟩
 .rw[Heap.get?_update_other _ _ (ba ne)];exact hb
 .have ne:b≠T:=λq=>by
   subst q;rcases aI.mp (I.stkSub b hm)with q | q
   .exact y.loc q
   .exact y.out q
  refine⟨o.slots,?_⟩
  rw[Heap.get?_update_other _ _ (ba ne)];exact hb
theorem tJ{outer:List Env}{Q:Unit->Shared->Prop}{E1:Value->Shared->Prop}(I:Inv X pins σ H s)(A':X.stack=X.env::outer)(hf:X.env.frame=some X.env.locals)(al:uD cl s.heap e C dx T)(hn:H e=none)(IB:H T=none)(y:fQ X pins e)(yT:fQ X pins T)
  (h:∀h',iF cl h' e C dx->Inv X pins σ H { s with heap:=h' }->Q () { s with heap:=h' }):wpAny (model X.prog X.w) X.A (leaving X.env (.ref e)) Q E1 s:=by
 obtain⟨o,vs,oT,ts,he,hc,Bx,hd,h1,EV,hT,B6,h3,BQ⟩:=al
 have Bk:X.A.frames=some (X.env::outer):=by rw[<-A'];exact I.ok.frames
 have I1:=rM (z:=Value.none) I IB yT hT B6
 have dT:=Obj.data_mapFields B6 (·.setIfInBounds 3 Value.none)
 have gT:=Heap.get?_update_self (Obj.mapFields (·.setIfInBounds 3 Value.none)) hT (Obj.isFreed_of_fields dT)
 have ge:(s.heap.update T (Obj.mapFields (·.setIfInBounds 3 Value.none))).get? e=some o:=(Heap.get?_update_other _ _ EV).trans he
 have hz:ts[3]? =some ts[3]:=eH h3
 unfold leaving noteFrame;simp only[hf];refine aH (aH (wpAny_field he hd h1 ?_))
 rw[ax (show(Value.ref T !=Value.none)=true from by simp)]
 refine aH (wpAny_field hT B6 hz ?_)
 by_cases q:(ts[3]==rawInt X.env.locals)=true
 .rw[ax q];refine bM ?_
  unfold setFlight;refine aH (wpAny_field he hd h1 ?_)
  rw[ax (show(Value.ref T !=Value.none)=true from by simp)]
  refine wpAny_setField hT B6 h3 (h _ ?_ I1)
  exact⟨o,vs,T,_,_,ge,hc,Bx,hd,h1,EV,gT,dT,by simp[h3],BQ⟩
 .rw[ay q];refine aH (wpAny_setField hT B6 h3 ?_)
  have Fb:(s.heap.update T (Obj.mapFields (·.setIfInBounds 3 Value.none))).FunFrames X.base (X.env::outer):=by
   have:=I1.stack
   rw[A']at this;exact this
  refine kj (s:={ s with heap:=s.heap.update T (Obj.mapFields (·.setIfInBounds 3 Value.none)) }) Bk Fb hf ge hc Bx hd (cA.mp h1).1 BQ λh' ld k=>?_
  rw[<-A']at k;exact h h' ld (gm (s:={ s with heap:=s.heap.update T (Obj.mapFields (·.setIfInBounds 3 Value.none)) }) I1 hn y k)
theorem pW{P:Program}{w:World}{K:Fg_}{mg:Str->Option Value}{base:Heap}{N:List Str}{qual:Str}{scope:Scope}{f:Addr}{cd:Value}{A:Around}{outer:List Env}{s:Shared}{H:Hp}{E:XK} :
  oX cl (cW (CXG cl P w) P w K mg base N qual scope f cd A outer s H E) E:=by
 intro pins σ H1 s1 e C dx T I al hn IB y yT q;refine tJ (outer:=outer) I rfl rfl al hn IB y yT λh' ld I'=>?_
 exact⟨e,C,dx,H1,rfl,I'.os,I'.bare,I'.base,I'.hok,ld,y.new,hn,q⟩
def txc(X:Cx)(use:Option (Value->Sem Unit))(Qf:Value->Shared->Prop)(D:Value)(C:Addr)(ce:Env):Value->Shared->Prop :=
 notedBy (model X.prog X.w) X.A ce λe s'=>compPost (model X.prog X.w) X.A X.xe use Qf D C (.error e) s'
theorem vg{H3:Hp}{s3:Shared}{scope:Scope}{ce:Env}{fp:List Addr}{pn:List (Addr×Obj)}{use:Option (Value->Sem Unit)}{Qf:Value->Shared->Prop}{D:Value}(I3:Inv X pins σ H3 s3)(cL:ce.locals=s3.heap.objs.size)(cF:ce.frame=X.env.frame)
  (f3:∀b∈fp,mW X pins H3 b/\b<s3.heap.objs.size)(J8:oX cl X E)(BM:X.ex=[])(A':∃outer,X.stack=X.env::outer)(hf:X.env.frame=some X.env.locals) :
  gn cl (Xt (X.blk s3 H3 scope ce fp) pn (txc X use Qf D s3.heap.objs.size ce)) E:=by
 intro BC σ' H' s' e C dx I' fl hn y q
 obtain⟨outer,A'⟩:=A'
 have I7:Inv X pins σ H' s':=I3.call' (ch:=fp) I'.os I'.base I'.hok I'.bare λb hb=>⟨(f3 b hb).1.2.2.2.1,(f3 b hb).1.2.1,(f3 b hb).1.2.2.2.2.1,(f3 b hb).1.2.2.2.2.2⟩
 have ye:fQ X pins e:=gO I3 BM y.new
 have Bk:X.A.frames=some (X.env::outer):=by rw[<-A'];exact I7.ok.frames
 have DE:s'.heap.FunFrames X.base (X.env::outer):=by rw[<-A'];exact I7.stack
 show wpAny _ _ (noteFrame (.ref e) ce) _ _ _
 rw[yw cF];refine wK Bk DE hf fl λh' T al hT k=>?_
 rw[<-A']at k;have IB:H' T=none:=by
  cases z:H' T with
  | none=>rfl
  | some w =>
   obtain⟨oz,hz⟩:=ie (I7.hok T w z)
   rw[hT]at hz;cases hz
 have yT:fQ X pins T:=gO I7 BM hT
 have I8:Inv X pins σ H' { s' with heap:=h' }:=gm I7 hn ye k
 have Ib:=gm I' hn y k
 have nC:H' s3.heap.objs.size=none:=by
  have z:H' ce.locals=none:=I'.free
  rw[cL]at z;exact z
 obtain⟨m,DC,_⟩:=Ib.loc
 have DC:h'.Ns ce.locals m:=DC
 have F5:e≠s3.heap.objs.size:=by
  have:e≠ce.locals:=y.loc
  rw[cL]at this;exact this
 have Tg:T≠s3.heap.objs.size:=λz=>by
  obtain⟨m',⟨o',_,_,Ce,_⟩,_⟩:=I'.loc
  have Ce:s'.heap.get? ce.locals=some o':=Ce
  rw[cL,<-z,hT]at Ce
  cases Ce
 rw[cL]at DC;refine⟨m,DC,λh3 sb Bg CI=>?_⟩
 obtain⟨f0,f1,f2,Wa,f4,f5⟩:=I3.fpOk (H':=H') (aF _) nC
 have I9:Inv X pins σ H' { s' with heap:=h3 }:=I8.turned (t':=s'.toks) (λb o hb e=>(sb.2 b hb).trans e) f0 f1 Wa f4 f5
 obtain⟨o,vs,oT,ts,he,hc,Bx,hd,h1,EV,VF,B6,JK,BQ⟩:=al
 have Nu:h3.get? e=some o:=(sb.2 e F5).trans he
 have NI:h3.get? T=some oT:=(sb.2 T Tg).trans VF
 unfold PySem.passOn;refine aH (wpAny_field (s:={ s' with heap:=h3 }) Nu hd h1 ?_)
 rw[ay (show ¬((Value.ref T==Value.none)=true)from by simp)]
 refine aH ?_
 unfold setFlight;refine aH (wpAny_field (s:={ s' with heap:=h3 }) Nu hd h1 ?_)
 rw[ax (show(Value.ref T !=Value.none)=true from by simp)]
 refine wpAny_setField (s:={ s' with heap:=h3 }) NI B6 JK (wpAny_throw ?_)
 have Oz:=rM (z:=Bg.frame.elim Value.none λf=>rawInt f) I9 IB yT NI B6
 have dT:=Obj.data_mapFields B6 (·.setIfInBounds 3 (Bg.frame.elim Value.none λf=>rawInt f))
 refine J8 pins σ H' _ e C dx T Oz ⟨o,vs,_,_,(Heap.get?_update_other _ _ EV).trans Nu,hc,Bx,hd,h1,EV,Heap.get?_update_self _ NI (Obj.isFreed_of_fields dT),dT,?_,BQ⟩ hn IB ye yT q
 simp[JK]
theorem tM(I:Inv X pins σ H s)(hp:∀b∈X.ex,∃o,(b,o)∈X.pn)(he:s.heap.get? e=none):fQ X pins e:=by
 have S7:e∉X.ex:=λz=>by
  obtain⟨o,hm⟩:=hp e z
  have:=(I.pin (e,o) (aB _ hm)).1
  have this:s.heap.get? e=some o:=this
  rw[he]at this;cases this
 refine⟨?_,?_,λx c q z=>?_,λp hp z=>?_,λz=>?_⟩
 .cases q:X.s_0.heap.get? e with
  | none=>rfl
  | some o =>
   obtain⟨o',r⟩:=I.base.there e o q S7
   rw[he]at r;cases r
 .intro z;obtain⟨m,⟨o,_,_,ho,_⟩,_⟩:=I.loc
  rw[<-z,he]at ho;cases ho
 .obtain⟨v,o,ho,_⟩:=I.cell x c q
  rw[z,he]at ho;cases ho
 .obtain⟨a,_⟩:=I.pin p hp
  rw[z,he]at a;cases a
 .obtain⟨_,o,ho,_⟩:=I.funs.mem z
  rw[he]at ho;cases ho
theorem oa(hf:gn cl X E)(hp:∀b∈X.ex,∃o,(b,o)∈X.pn):hZ (CXG cl X.prog X.w) X E:=by
 rintro pins σ H s e s' I ⟨e',C,dx,H',rfl,os,bare,un,hok,ld,new,hn,q⟩
 exact hf pins σ H' s' e' C dx (I.call' os un hok bare (ch:=[]) λb z=>aW z (by simp)) (.inr ld) hn (tM I hp new) q
end
open Builtin Builtin.ObjectAttr
structure jc(k:Nat)(A:Around):Prop where
 dp:A.depth+3*k+5<recursionLimit
 un:A.units+16*k+200<cLine
theorem jc.off{k:Nat}{A:Around}(r:jc k A):cD k { A with handled:=none }:=⟨rfl,r.dp,r.un⟩
theorem jc.of{k:Nat}{A:Around}(r:cD k A)(v:Option Value):jc k (A.mark v):=⟨r.dp,r.un⟩
theorem jc.make{k:Nat}{A:Around}(r:jc (k+1) A)(C:Addr)(us:List Value)(kw:List (Str×Value)):jc k (A.under (.builtin "type.__call__" ⟨.ref C::us,kw⟩)) :=
 ⟨by have:=r.dp;rw[oq];lia,by have:=r.un;rw[om];lia⟩
def cxN(P:Program)(w:World)(K:Fg_)(mg:Str->Option Value)(base:Heap)(N:List Str)(qual:Str)(scope:Scope)(f:Addr)(cd:Value)(A:Around)(outer:List Env)(s:Shared)(H:Hp):Cx :=
 { cW CX0 P w K mg base N qual scope f cd { A with handled:=none } outer s H E0 with A:=A.deeper (envOfC qual scope s.heap.objs.size f cd),calm:=false,xe:=λξ ξ=>False }
structure FnN(P:Program)(w:World)(K:Fg_)(mg:Str->Option Value)(base:Heap)(k:Nat)(f:Addr)(fd:FuncData)(ps:List Str)(sp:Sp):Prop where
 run:∀(A:Around)(outer:List Env)(s:Shared)(H:Hp)(args:Args)(us:List Value)(vs:List V)(Q:VK),jc k A->sj P w K mg base A outer s H->BindsTo s fd args (ps.zip us)->cJ vs us->vs.length=ps.length->sp vs H Q E0 ->
  codeAny (model P w) A (.call (.ref f) args) (CR CX0 outer P w H s Q E0) s
theorem yM{P:Program}{w:World}{K:Fg_}{mg:Str->Option Value}{base:Heap}{x qual:Str}{st:Stmt}{f:Addr}{fd:FuncData}{N ps:List Str}{k:Nat}{sp:Sp}(F:Fun K x qual st f fd)(S:bq N ps (aS st))
  (B7:∀(AY:Value)(A:Around)(outer:List Env)(s:Shared)(H:Hp)(vs:List V)(Q:VK),jc k (A.deeper (envOfC qual (aS st) s.heap.objs.size f AY))->vs.length=ps.length->sp vs H Q E0 ->
   ∃t,PSs (cxN P w K mg base N qual (aS st) f AY A outer s H) (fY st) t/\t { nx:=λξ H'=>Q .non H',rt:=Q } (iU N vs) H):FnN P w K mg base (k+1) f fd ps sp:=by
 obtain⟨oc,od,kV,doc,pm,an,AY,ct,Ee,rfl,lk,Ea⟩:=F.ex
 refine⟨λA outer s H args us vs Q hr e0 hb r hl Cn=>?_⟩
 have KX:K.In s.heap:=e0.mod.kin.keeps λb o e=>(e0.bs b o e).1
 have lim:s.heap.NoLimit:=e0.mod.nolimit.keeps λb o e=>(e0.bs b o e).1
 have EN:∀y∈ps.zip us,(aS st).names.lookup y.1=some .local\/((aS st).names.lookup y.1=some .cell/\((cellsFrom (s.heap.objs.size+1) (aS st).names []).lookup y.1).isSome=true):=λ⟨n,v⟩ hy=>by
  rcases S.par n (ia hy).1 with q | q
  .exact .inl q
  .exact .inr ⟨q,PySem.W.cellsFrom_some _ _ _ (.inl q)⟩
 refine codeAny_call_function hr.off.depth (KX _ _ lk) rfl S.co S.gen rfl (PySem.W.codeRec_of KX Ea) (hb _ _ _ _ ?_)
 refine wpAny_newFunctionEnv_cells S.kind EN λenv he s1 x=>?_
 subst he;refine⟨lim.keeps x.toInCall.keep,codeAny_func ?_⟩
 have Ez:jc k (A.deeper (envOfC qual (aS st) s.heap.objs.size f AY)):=by
  have:=(hr.off).deeper (envOfC qual (aS st) s.heap.objs.size f AY)
  exact⟨this.dp,this.un⟩
 obtain⟨t,ht,hq⟩:=B7 AY A outer s H vs Q Ez hl Cn
 have I0:Inv (cW CX0 P w K mg base N qual (aS st) f AY { A with handled:=none } outer s H E0) [] (iU N vs) H s1:=pT S rfl ⟨e0.frames,e0.mod,e0.bs,e0.bsz,e0.funs,e0.frf,e0.hok,e0.bare⟩ hl r x
 have ok:=I0.ok
 have I:Inv (cxN P w K mg base N qual (aS st) f AY A outer s H) [] (iU N vs) H s1 :=
  ⟨⟨ok.mod,ok.kind,ok.glob,ok.blt,ok.above,ok.inj,ok.has,ok.cab,λz=>Bool.noConfusion z,Around.frames_deeper e0.frames,ok.stk,ok.exf,ok.bs,ok.bsz,ok.noex,ok.exfs,ok.funs,ok.frf⟩,I0.os,I0.bare,I0.base,I0.loc,I0.cell,I0.free,I0.freeC,I0.pin,I0.hok,I0.len⟩
 refine wpAny_mono (ht [] s1 (iU N vs) H _ I hq) (λfl s' hs=>?_) λe s' hs=>hs.elim
 have fin:∀{σ':St}{H':Hp}{v:V}{u:Value},Inv (cxN P w K mg base N qual (aS st) f AY A outer s H) [] σ' H' s'->dw v u->Q v H'->CE outer P w H s Q u s' :=
  λ{σ' H' v u} J rv q=>⟨v,H',J.os,J.bare,J.base,J.hok,rv,q⟩
 cases fl with
 | ret u =>
  obtain⟨v,σ',H',J,rv,q⟩:=hs
  exact fin J rv q
 | next =>
  obtain⟨σ',H',J,q⟩:=hs
  exact fin (v:=V.non) (u:=Value.none) J rfl q
 | brk =>
  obtain⟨_,_,_,q⟩:=hs
  exact False.elim q
 | cont =>
  obtain⟨_,_,_,q⟩:=hs
  exact False.elim q
section
variable {X:Cx}{U f:Addr}{fd:FuncData}{ps:List Str}{sp:Sp}{k:Nat}{x m:Str}{p apos pos:Pos}{e:Expr}{es:List Expr}{t:TA}
theorem nZ{pl:Sem Bool}(hg:Gl X x)(hm:X.mg x=some (.ref U))(c:lD X.K U m f)(F:FnN X.prog X.w X.K X.mg X.base k f fd ps sp)(hr:jc k X.A)(hb:bZ X.K fd ps [])(ha:PA X (e::es) t)
  (hlen:(e::es).length=ps.length)
  (BP:(x==("__debug__" :Str))=false:=by decide)(A':starEach (e::es) X.env=(false,eval e X.env)::starEach es X.env:=by rfl)(Bn:(backTo pos (starEach es X.env)).any (·.1)=false:=by rfl)
  (ht:eval (.Call (.Attribute (.Name x p) m apos) (e::es) [] pos) X.env=(do
   let ov ←eval (.Name x p) X.env
   standAt apos.atName
   let (f,first) ←holding [ov] (getMethod ov m pl)
   callWith pos f first (backTo pos (starEach (e::es) X.env)) (backToKw pos (keywordEach [] X.env))):=by rfl) :
  PE X (.Call (.Attribute (.Name x p) m apos) (e::es) [] pos) (λσ H Q=>t σ H λvs H1=>vs.length=ps.length/\sp vs H1 Q E0):=by
 intro pins s σ H Q I h;refine PySem.W.methodCall_KW (pl:=pl) (fX I hg hm ?_ BP) ht
 refine PySem.W.method_cls I.kIn c.sg (PySem.W.cls_value I.kIn c.rd c.fc rfl ?_)
 refine PySem.W.callWith_K (first:=[]) (h₀:=X.base) I.ok.mod.kin c.kp (thn (ha pos pins _ σ H _ (I.tok _) h) λus s2 ⟨vs,H2,I2,r,hl,q2⟩=>⟨I2.kIn,?_⟩) A' Bn
 have Vc:us.length=ps.length:=by rw[<-r.length];exact hl
 refine wpAny_call (codeAny_mono (F.run X.A X.stack s2 H2 ⟨us,[]⟩ us vs Q hr I2.env0 ?_ r hl q2) λr s' hq=>?_)
 .have:=hb s2 us I2.kIn (by rw[bJ];exact Vc)
  rw[bJ]at this;exact this
 .cases r with
  | error e=>exact hq.elim
  | ok fl =>
   cases fl with
   | ret u=>exact I2.after hq
   | next=>exact False.elim hq
   | brk=>exact False.elim hq
   | cont=>exact False.elim hq
end
open Builtin Builtin.ObjectAttr
def vt(h h':Heap)(e C:Addr)(d:Option Addr):Prop:=(∃o vs,h'.get? e=some o/\o.cls =.ref C/\o.dict=d/\o.data =.fields vs/\vs[1]? =some .none/\4<vs.size)/\∀b ob,b≠e->h.get? b=some ob->h'.get? b=some ob
theorem qJ{h h':Heap}{e C:Addr}{d:Option Addr}{i:Nat}{x:Value}(a:vt h h' e C d)(hi:i≠1):vt h (h'.update e (Obj.mapFields (·.setIfInBounds i x))) e C d:=by
 obtain⟨⟨o,vs,h1,h2,h3,h4,h5,h6⟩,k⟩:=a
 have d3:=Obj.data_mapFields h4 (·.setIfInBounds i x)
 have e3:=Heap.get?_update_self (Obj.mapFields (·.setIfInBounds i x)) h1 (Obj.isFreed_of_fields d3)
 refine⟨⟨_,_,e3,?_,?_,d3,?_,by rw[Array.size_setIfInBounds];exact h6⟩,λb ob hb q=>(Heap.get?_update_other _ _ (ba hb)).trans (k b ob hb q)⟩
 .rw[Obj.cls_mapFields];exact h2
 .obtain⟨c1,c2,c3,c4⟩:=o
  cases h4;exact h3
 .rw[eX hi];exact h5
theorem pj:entryFor table "proto.unchain" =some Builtin.«proto.unchain»:=entryFor_of_tree (by kernel_rfl)
theorem sr{P:Program}{w:World}{A:Around}{s:Shared}{e e0:Addr}{o:Obj}{vs:Array Value}{Q:Value->Shared->Prop}{E:Value->Shared->Prop}(h0:s.heap.get? e0=some o)(hd:o.data =.fields vs)(h2:vs[2]? =some .none)(hQ:Q .none s) :
  wpAny (model P w) A (runValue (.builtin "proto.unchain" ⟨[.ref e,.ref e0,.ref e0,.bool false],[]⟩)) Q E s:=by
 refine wpAny_runValue (codeAny_builtin pj ?_)
 unfold Builtin.«proto.unchain»
 refine aH (wpAny_field h0 hd h2 ?_)
 rw[ax (by rfl)]
 show wpAny _ _ (ret .none) _ _ _
 exact bM hQ
theorem rm{P:Program}{w:World}{A:Around}{s:Shared}{e e0 C:Addr}{d:Option Addr}{h:Heap}{o0:Obj}{Ek:Array Value}{Q:Flow->Shared->Prop}{E:Value->Shared->Prop}(hh:A.handled=some (.ref e0))(ne:e0≠e)(a:vt h s.heap e C d)(h0:s.heap.get? e0=some o0)(hd:o0.data =.fields Ek)(h2:Ek[2]? =some .none)
  (hE:∀h',vt h h' e C d->E (.ref e) { s with heap:=h' }):wpAny (model P w) A (raiseNew (.ref e):Sem Flow) Q E s:=by
 unfold raiseNew;refine aH (wpAny_handled ?_)
 rw[hh];obtain⟨⟨o,vs,h1,_,_,h4,_,h6⟩,_⟩:=id a
 show wpAny _ _ (if(Value.ref e0 !=Value.ref e)=true then _ else _) _ _ _
 rw[ax (by simp[ne])]
 refine aH (wpAny_holding (sr h0 hd h2 ?_))
 refine aH ?_
 unfold updateField;refine aH (wpAny_load h1 ?_)
 rw[h4];show wpAny _ _ (if 2<vs.size then _ else _) _ _ _
 rw[ax (by lia)]
 refine wpAny_update h1 ?_
 exact wpAny_throw (hE _ (qJ a (by decide)))
section
variable {X:Cx}{U C:Addr}
def zi(X:Cx)(U C e0:Addr)(v:Value)(s1:Shared):Prop:=∃(e:Addr)(nm q:Str)(N:Addr)(bs:List Value)(sn:List Str)(sub:List Value)(ab:Bool)(col:Option Bool)(dd:Option Addr)(k0 k1 k2 k3 k5:Option Value)(o:Obj)(vs:Array Value)(o0:Obj)(Ek:Array Value),
 v =.ref e/\s1.heap.get? C=some (excClassObj nm q C N bs (bmU U) true sn sub ab col dd k0 k1 k2 k3 k5 "Exception.__new__")/\s1.heap.get? e=some o/\o.cls =.ref C/\o.data =.fields vs/\XV vs/\e0≠e/\C≠e/\s1.heap.get? e0=some o0/\o0.data =.fields Ek/\Ek[2]? =some .none /\
 ∀h',vt s1.heap h' e C o.dict->X.xe (.ref e) { s1 with heap:=h' }
theorem uR{e0:Addr}{s:Shared}{m c:Sem Value}{Q:Flow->Shared->Prop}(hh:X.A.handled=some (.ref e0))(Vy:∀(Q:Value->Shared->Prop)(s:Shared),Q .none s->wpAny (model X.prog X.w) X.A c Q X.xe s)(h:wpAny (model X.prog X.w) X.A m (zi X U C e0) X.xe s) :
  wpAny (model X.prog X.w) X.A (raiseStmt X.env (some m) (some c)) Q X.xe s:=by
 have IK:=lr (C:=C) (U:=U) (T:="BaseException") (by decide +kernel)
 unfold raiseStmt;refine aH (wpAny_mono h (λv s1 h1=>?_) λξ ξ z=>z)
 obtain⟨e,nm,q,N,bs,sn,sub,ab,col,dd,k0,k1,k2,k3,k5,o,vs,o0,Ek,rfl,hC,he,hc,hd,hv,ne,nC,h0,NA,MR,hE⟩:=h1
 refine aH (wpAny_holding (Vy _ _ (aH (bM ?_))))
 have UN:=And.left hv
 have hsz:4<vs.size:=hv.2.2
 have a0:vt s1.heap s1.heap e C o.dict:=⟨⟨o,vs,he,hc,rfl,hd,UN,hsz⟩,λξ ξ ξ z=>z⟩
 obtain⟨hp,g,dr,tk,os⟩:=s1
 unfold excFromValue isExcClass;repeat (first
  | (with_reducible refine wpAny_loadPart_at he ?_;rw[hc])
  | (with_reducible refine wpAny_loadPart_at he ?_)
  | with_reducible refine wpAny_loadPart_at hC ?_
  | (with_reducible refine wpAny_isSubtype_exc hC ?_;rw[IK])
  | wp_step)
 rw[hd];show wpAny _ _ (if 3<vs.size then _ else _) _ _ _
 rw[ax (by lia)]
 refine wpAny_update he ?_
 have a1:=qJ (i:=3) (x:=.none) a0 (by decide)
 obtain⟨⟨o1,YT,e1,c1,d1,f1,v1,z1⟩,Y7⟩:=id a1
 refine aH (wpAny_setField e1 f1 z1 ?_)
 have a2:=qJ (i:=4) (x:=.bool true) a1 (by decide)
 dsimp only at a2 |-;generalize ((hp.update e (Obj.mapFields λx=>x.setIfInBounds 3 Value.none)).update e (Obj.mapFields λx=>x.setIfInBounds 4 (Value.bool true)))=h2 at a2 |-
 obtain⟨⟨o2,YS,e2,c2,d2,f2,v2,z2⟩,Qe⟩:=id a2
 have Rb:=Qe _ _ nC hC
 have V2:=Qe _ _ ne h0
 repeat (first
  | (with_reducible refine wpAny_loadPart_at e2 ?_;rw[c2])
  | (with_reducible refine wpAny_loadPart_at e2 ?_)
  | with_reducible refine wpAny_loadPart_at Rb ?_
  | (with_reducible refine wpAny_isSubtype_exc Rb ?_;rw[IK])
  | with_reducible refine wpAny_field e2 f2 v2 ?_
  | wp_step)
 exact rm hh ne a2 V2 NA MR λh' a=>hE h' a
end
section
variable {X:Cx}{pins:List (Addr×Obj)}{σ:St}{H:Hp}{s:Shared}{e:Addr}{o:Obj}
theorem yY(I:Inv X pins σ H s)(he:s.heap.get? e=some o)(hn:H e=none)(y:fQ X pins e)(hd:∀v,o.data≠.cell v):Inv X ((e,o)::pins) σ H s :=
 ⟨I.ok,I.os,I.bare,I.base,I.loc,I.cell,I.free,I.freeC,λp hp=>by
  rcases aM.mp hp with q | q
  .exact I.pin p (aB _ q)
  .rcases aI.mp q with rfl | q
   .exact⟨he,hn,y.loc,y.out,hd⟩
   .exact I.pin p (aq _ q),I.hok,I.len⟩
theorem vq(I:Inv X ((e,o)::pins) σ H s):Inv X pins σ H s :=
 ⟨I.ok,I.os,I.bare,I.base,I.loc,I.cell,I.free,I.freeC,λp hp=>by
  rcases aM.mp hp with q | q
  .exact I.pin p (aB _ q)
  .exact I.pin p (aq _ (aA _ q)),I.hok,I.len⟩
end
section
variable {X:Cx}{U C fI:Addr}{fd:FuncData}{E:XK}{k n:Nat}{ps:List Str}{ans:List V->List V}
theorem sO{pins:List (Addr×Obj)}{σ:St}{H1:Hp}{s1:Shared}{us:List Value}{vs:List V}{Qv:Value->Shared->Prop}{e0:Addr}{o0:Obj}{Ek:Array Value}(c:fm X.K U C fI)(F:FnN X.prog X.w X.K X.mg X.base k fI fd ps (fK C n ans))(ES:bZ X.K fd ps [])(DA:ps.length=n+1)
  (hr:jc (k+1) X.A)(BM:X.ex=[])(I1:Inv X ((e0,o0)::pins) σ H1 s1)(r:cJ vs us)(hn:vs.length=n)(hsz:us.length<=sizeLine)(NA:o0.data =.fields Ek)(MR:Ek[2]? =some .none)(q:gp E C (ans vs))
  (Ct:∀(H:Hp)(s:Shared)(e dx:Addr),Inv X ((e0,o0)::pins) σ H s->Fly False s.heap e C dx->H e=none->fQ X ((e0,o0)::pins) e->E (.ref C) (some dx) H->X.xe (.ref e) s)(hQ:∀v s',zi X U C e0 v s'->Qv v s') :
  wpAny (model X.prog X.w) X.A (call (.ref C) us) Qv X.xe s1:=by
 obtain⟨nm,q',N,bs,sn,sub,ab,col,dd,k0,k1,k2,k3,k5,lC⟩:=c.ob
 have KX:=I1.kIn
 have hC:=KX _ _ lC
 have fn:=c.fn
 unfold PySem.W.isFn at fn;have Gk:=beq_iff_eq.mp fn
 unfold PySem.W.typeIn at Gk;obtain⟨oI,JU,Kc⟩:=gq.mp Gk
 have Qs:=(I1.pin (e0,o0) (aq _ a7)).1
 obtain⟨hh,gg,dr,tt,oo⟩:=s1
 refine vA hC (PySem.W.looks_findIn KX c.ini) (KX _ _ JU) Kc (λh' e md=>?_) hsz
 obtain⟨tu,e1,e2,e3⟩:=md.there
 have new:hh.get? e=none:=md.new
 have S9:e0≠e:=λz=>by rw[z,new]at Qs;cases Qs
 have F5:C≠e:=λz=>by rw[z,new]at hC;cases hC
 have he:H1 e=none:=by
  cases z:H1 e with
  | none=>rfl
  | some w =>
   obtain⟨oz,hz⟩:=ie (I1.hok e w z)
   rw[md.new]at hz;cases hz
 have y:fQ X ((e0,o0)::pins) e:=gO I1 BM md.new
 have I2:Inv X ((e0,o0)::pins) σ (upd H1 e (XE e C none)) ⟨h',gg,dr,tt,oo⟩ :=
  jW (I1.kept (h':=h') (t':=tt) md.keeps) y he (qN e1 rfl rfl rfl ⟨rfl,rfl,by show 4<6;decide⟩)
 have Cn:fK C n ans (.ref e::vs) (upd H1 e (XE e C none)) (λv H'=>v =.non/\∃dx a,dx≠e/\H' e=some (XE e C (some dx))/\H' dx=some (XD dx [("answer",.ref a)])/\H' a=some (.lst (ans vs))) E0 :=
  ⟨e,vs,rfl,hn,aC,λdx a H' z1 z2 z3 z4=>⟨rfl,dx,a,z1,z2,z3,z4⟩⟩
 have hl:(Value.ref e::us).length=ps.length:=by rw[ao,<-r.length,hn,DA]
 have Vb:(V.ref e::vs).length=ps.length:=by rw[ao,hn,DA]
 refine wpAny_call (codeAny_mono (F.run _ X.stack _ _ ⟨.ref e::us,[]⟩ (.ref e::us) (.ref e::vs) _ (hr.make C us []) (I2.env0.make C us []) ?_ (.cons rfl r) Vb Cn) λr s' hq=>?_)
 .have:=ES ⟨h',gg,dr,tt,oo⟩ (.ref e::us) I2.kIn (by rw[bJ];exact hl)
  rw[bJ]at this;exact this
 .cases r with
  | error x=>exact hq.elim
  | ok fl =>
   cases fl with
   | next=>exact False.elim hq
   | brk=>exact False.elim hq
   | cont=>exact False.elim hq
   | ret u =>
    obtain⟨v,H',I3,rv,ev,dx,a,z1,z2,z3,z4⟩:=I2.after hq
    subst ev;refine⟨rv,hQ _ _ ?_⟩
    obtain⟨o,Su,ho,hc,hd,BB,h1⟩:=pw I3.hok z2
    refine⟨e,nm,q',N,bs,sn,sub,ab,col,dd,k0,k1,k2,k3,k5,o,Su,o0,Ek,rfl,I3.kIn _ _ lC,ho,hc,BB,h1,S9,F5,(I3.pin (e0,o0) (aq _ a7)).1,NA,MR,λh3 af=>?_⟩
    have Iu:=oW I3 z2
    have PH:e∉frs X.stack:=λz=>by
     rcases aI.mp (I3.stkSub e z)with q | q
     .exact y.loc q
     .exact y.out q
    have I4:=gm (h':=h3) Iu iq y ⟨λb ob ξ nb q=>af.2 b ob nb q,λb ob hb q=>⟨ob.slots,af.2 b ob (λz=>PH (z▸hb)) q⟩⟩
    obtain⟨⟨o4,Ss,g1,g2,g3,g4,g5,_⟩,_⟩:=af
    exact Ct _ _ e dx I4 (.inl ⟨o4,Ss,g1,g2,g3.trans hd,g4,g5,λz=>z.elim⟩) iq y (q _ dx a (by rw[fW z1];exact z3) (by rw[fW (dC z4 z2 (by intro y;cases y))];exact z4))
end
section
variable {X:Cx}{U C C0 fI:Addr}{fd:FuncData}{E:XK}{k n:Nat}{ps:List Str}{ans:List V->List V}{y:Str}{yp Bc cp Ep CD:Pos}{a:Expr}{j:Nat}{t:TA}
def rsd(C:Addr)(E:XK)(n:Nat)(ans:List V->List V)(t:TA)(σ:St)(H:Hp):Prop:=t σ H λvs ξ=>vs.length=n/\gp E C (ans vs)
theorem qW{pins:List (Addr×Obj)}{σ:St}{H:Hp}{s:Shared}{e0 Og:Addr}{R:Result->Shared->Prop}(c:fm X.K U C fI)(F:FnN X.prog X.w X.K X.mg X.base k fI fd ps (fK C n ans))(ES:bZ X.K fd ps [])(DA:ps.length=n+1)(hr:cD (k+1) X.A)(BM:X.ex=[])(hg:Gl X y)(hm:X.mg y=some (.ref C))
  (ha:∀v,PA (Xm X v X.xe) [a] t)(hn:n<=100)(Ct:gn False X E)(I:Inv X pins σ H s)(ld:iF True s.heap e0 C0 Og)(yg:fQ X pins e0)(h0:H e0=none)(q:rsd C E n ans t σ H)
  (hR:∀x s',X.xe x s'->notedBy (model X.prog X.w) (X.A.mark (some (.ref e0))) X.env (λx s=>R (.error x) s) x s')
  (BP:(y==("__debug__" :Str))=false)(A':starEach [a] X.env=(false,eval a X.env)::starEach [] X.env)(Bn:(backTo Bc (starEach [] X.env)).any (·.1)=false) :
  codeAny (model X.prog X.w) (X.A.mark (some (.ref e0))) (.handlers (.ref e0) [.ExceptHandler none none [.Raise (some (.Call (.Name y yp) [a] [] Bc)) (some (.Constant .none j cp)) Ep] CD] X.env) R s:=by
 refine codeAny_handlers_suite (jo ld ?_)
 obtain⟨o0,Ek,T,oT,L7,he,hc,Bx,hd,h1,EV,hT,B6,h3,BQ⟩:=ld
 have Ip:=yY I he h0 yg (λv z=>by rw[hd]at z;cases z)
 have Iy:Inv (Xm X (.ref e0) X.xe) ((e0,o0)::pins) σ H s:=ow Ip
 refine wpAny_mono (Q:=λξ ξ=>False) (E:=X.xe) ?_ (λξ ξ z=>z.elim) hR
 refine wpAny_execs_cons ?_
 rw[arm_exec_Raise];refine aH (wpAny_standAt (uR (X:=Xm X (.ref e0) X.xe) (U:=U) (C:=C) rfl (λQ s z=>aH (wpAny_Constant_none (aH (wpAny_standAt (bM z))))) (aH (m:=eval (.Call (.Name y yp) [a] [] Bc) X.env) ?_)))
 refine wpAny_Call_Name_kw (fX (X:=Xm X (.ref e0) X.xe) Iy hg hm ?_ BP)
 refine PySem.W.callWith_K (h₀:=X.base) Iy.ok.mod.kin c.kp (thn (ha (.ref e0) Bc _ s σ H _ Iy q) λus s1 ⟨vs,H1,I1,r,hv,q⟩=>⟨I1.kIn,?_⟩) A' Bn
 refine sO (X:=Xm X (.ref e0) X.xe) c F ES DA (jc.of hr _) BM I1 r hv (by rw[ft,<-r.length,hv,sizeLine_eq];lia) hd (BQ trivial) q (λH' s' e dx I' fl Eh y' q'=>?_) λv s' z=>?_
 .exact Ct pins σ H' s' e C dx (vq (qx I.ok I')) fl Eh ⟨y'.new,y'.loc,y'.cel,λp hp=>by
   rcases aM.mp hp with q | q
   .exact y'.pin p (aB _ q)
   .exact y'.pin p (aq _ (aA _ q)),y'.out⟩ q'
 .exact aH (wpAny_standAt (bM z))
end
theorem oF{X:Cx}{E:XK}(h:gn False X E):gn True X E:=λpins σ H s e C dx I fl hn y q=>h pins σ H s e C dx I (by
 rcases fl with⟨o,vs,h1,h2,h3,h4,h5,_⟩ | ⟨o,vs,T,oT,ts,h1,h2,h3,h4,h5,h6,h7,h8,h9,_⟩
 .exact .inl ⟨o,vs,h1,h2,h3,h4,h5,λz=>z.elim⟩
 .exact .inr ⟨o,vs,T,oT,ts,h1,h2,h3,h4,h5,h6,h7,h8,h9,λz=>z.elim⟩) hn y q
def tO(X:Cx)(E:St->XK):Prop:=∀(pins:List (Addr×Obj))(σ:St)(H:Hp)(s:Shared)(e C dx:Addr),Inv X pins σ H s->Fly True s.heap e C dx->H e=none->fQ X pins e->E σ (.ref C) (some dx) H->X.xe (.ref e) s
def zy(sp:Sp)(E:St->XK)(t:TA):TE:=λσ H Q=>t σ H λvs H1=>sp (vs++[]) H1 Q (E σ)
section
variable {X:Cx}{k:Nat}{f:Addr}{fd:FuncData}{ps:List Str}{sp:Sp}{E:St->XK}{x:Str}{p pos:Pos}{e:Expr}{es:List Expr}{t:TA}
theorem rE(F:bQ X.prog X.w X.K X.mg X.base (CXF X.prog X.w) k f fd ps sp)(hr:cD k X.A)(hg:Gl X x)(hm:X.mg x=some (.ref f))(hk:PySem.W.keepIn X.K (.ref f)=true)(hb:bZ X.K fd ps [])(Ct:tO X E)(BM:X.ex=[])
  (ha:PA X (e::es) t)(BP:(x==("__debug__" :Str))=false:=by decide)(he:starEach (e::es) X.env=(false,eval e X.env)::starEach es X.env:=by rfl)(Bn:(backTo pos (starEach es X.env)).any (·.1)=false:=by rfl) :
  PE X (.Call (.Name x p) (e::es) [] pos) (zy sp E t):=by
 intro pins s σ H Q I h;refine wpAny_Call_Name_kw (fX I hg hm ?_ BP)
 refine PySem.W.callWith_K (h₀:=X.base) I.ok.mod.kin hk (thn (ha pos pins s σ H _ I h) λus s1 ⟨vs,H1,I1,r,q⟩=>⟨I1.kIn,?_⟩) he Bn
 have hl:(us++([]:List Value)).length=ps.length:=by
  have:=F.len _ _ _ _ q
  rw[bJ]at this |-;rw[<-r.length,this]
 refine wpAny_call (codeAny_mono (F.run X.A X.stack s1 H1 ⟨us,[]⟩ (us++[]) (vs++[]) Q (E σ) hr I1.env0 (hb s1 us I1.kIn hl) (r.append .nil) q) λr s' hq=>?_)
 cases r with
 | error e =>
  obtain⟨e',C,dx,H',rfl,os,bare,un,hok,ld,new,hn,q⟩:=hq
  exact Ct pins σ H' s' e' C dx (I1.call' os un hok bare (ch:=[]) λb z=>aW z (by simp)) (.inr ld) hn (gO I1 BM new) q
 | ok fl =>
  cases fl with
  | ret u=>exact I1.after hq
  | next=>exact False.elim hq
  | brk=>exact False.elim hq
  | cont=>exact False.elim hq
end
structure Cl(X:Cx)(E:XK)(C0 T:Addr)(x0 y:Str)(a:Expr)(n:Nat)(C:Addr)(ans:List V->List V)(t:TA)(Bc:Pos):Prop where
 yes:PySem.W.exmOne X.K (.ref C0) (.ref T)=some true
 g0:Gl X x0
 m0:X.mg x0=some (.ref T)
 d0:(x0==("__debug__" :Str))=false
 up:∃(U fI:Addr)(fd:FuncData)(k:Nat)(ps:List Str),fm X.K U C fI/\FnN X.prog X.w X.K X.mg X.base k fI fd ps (fK C n ans)/\bZ X.K fd ps []/\ps.length=n+1/\cD (k+1) X.A
 g:Gl X y
 m:X.mg y=some (.ref C)
 ha:∀v,PA (Xm X v X.xe) [a] t
 hn:n<=100
 d:(y==("__debug__" :Str))=false
 st:starEach [a] X.env=(false,eval a X.env)::starEach [] X.env
 pl:(backTo Bc (starEach [] X.env)).any (·.1)=false
section
variable {X:Cx}{E:XK}{C0 T C C0' T' C':Addr}{x0 y Pt y':Str}{a a':Expr}{n n':Nat}{ans ans':List V->List V}{t t':TA}{Bc Gr np D0 yp Sl cp XI Ep Jd CD JR pos:Pos}{j j':Nat}{body:List Stmt}{tb:(St->XK)->TS}
def wR1(C0 C:Addr)(E:XK)(n:Nat)(ans:List V->List V)(t:TA):St->XK:=λσ c ξ H'=>c =.ref C0/\rsd C E n ans t σ H'
theorem tH{pins:List (Addr×Obj)}{D:js}{σ:St}{H:Hp}{s:Shared}{e0 Og:Addr}{rest:List ExceptHandler}(c:Cl X E C0 T x0 y a n C ans t Bc)(BM:X.ex=[])(Ct:gn False X E)(own:∀hd,PassesOwnAt (model X.prog X.w) (X.A.mark hd) X.A X.env X.xe)
  (I:Inv X pins σ H s)(ld:iF True s.heap e0 C0 Og)(yg:fQ X pins e0)(h0:H e0=none)(q:rsd C E n ans t σ H) :
  wpAny (model X.prog X.w) X.A (handleBy (.ref e0) X.env (.ExceptHandler (some (.Name x0 np)) none [.Raise (some (.Call (.Name y yp) [a] [] Bc)) (some (.Constant .none j cp)) Ep] CD::rest)) (SP X pins D) X.xe s:=by
 obtain⟨U,fI,fd,k,ps,uc,F,hb,DA,hr⟩:=c.up
 refine wpAny_handleBy_cons (mY c.yes c.g0 c.m0 c.d0 I ld ?_) (by intro z;cases z)
 exact qW uc F hb DA hr BM c.g c.m c.ha c.hn Ct I ld yg h0 q (λx s' z=>own _ x s' z) c.d c.st c.pl
theorem wb(c:Cl X E C0 T x0 y a n C ans t Bc)(BM:X.ex=[])(Ct:gn False X E)(own:∀hd,PassesOwnAt (model X.prog X.w) (X.A.mark hd) X.A X.env X.xe)(hf:X.env.frame=some X.env.locals)(A':∃outer,X.stack=X.env::outer)
  (hb:∀pn xe E,tO (Xt X pn xe) E->PSs (Xt X pn xe) body (tb E)) :
  PS X (.Try body [.ExceptHandler (some (.Name x0 np)) none [.Raise (some (.Call (.Name y yp) [a] [] Bc)) (some (.Constant .none j cp)) Ep] CD] [] [] pos) (λD σ H=>tb (wR1 C0 C E n ans t) D σ H):=by
 intro pins s σ H D I h;refine wpAny_Try_except (wpAny_mono (hb (X.pn++pins) (txe X pins D _) _ (λBC σ H s e C' dx I0 fl hn y q=>?_) [] s σ H D (kT I) h) (λf s1 z=>?_) λe s1 z=>z)
 .obtain⟨ec,q⟩:=q
  cases ec;have I:=gY I0
  obtain⟨outer,A'⟩:=A'
  have Bk:X.A.frames=some (X.env::outer):=by rw[<-A'];exact I.ok.frames
  have DE:s.heap.FunFrames X.base (X.env::outer):=by rw[<-A'];exact I.stack
  refine k9 Bk DE hf fl λh' ld k=>?_
  rw[<-A']at k;exact tH c BM Ct own (gm I hn (gH y) k) ld (gH y) hn q
 .have z':=oP I.ok z
  cases f with
  | next=>exact wpAny_execs_nil z'
  | brk=>exact z'
  | cont=>exact z'
  | ret u=>exact z'
def wR2(C0 C C0' C':Addr)(E:XK)(n:Nat)(ans:List V->List V)(t:TA)(n':Nat)(ans':List V->List V)(t':TA):St->XK:=λσ c ξ H'=>(c =.ref C0/\rsd C E n ans t σ H')\/(c =.ref C0'/\rsd C' E n' ans' t' σ H')
theorem wa(c:Cl X E C0 T x0 y a n C ans t Bc)(c':Cl X E C0' T' Pt y' a' n' C' ans' t' Gr)(no:PySem.W.exmOne X.K (.ref C0') (.ref T)=some false)(BM:X.ex=[])(Ct:gn False X E)(own:∀hd,PassesOwnAt (model X.prog X.w) (X.A.mark hd) X.A X.env X.xe)(hf:X.env.frame=some X.env.locals)(A':∃outer,X.stack=X.env::outer)
  (hb:∀pn xe E,tO (Xt X pn xe) E->PSs (Xt X pn xe) body (tb E)) :
  PS X (.Try body [.ExceptHandler (some (.Name x0 np)) none [.Raise (some (.Call (.Name y yp) [a] [] Bc)) (some (.Constant .none j cp)) Ep] CD,.ExceptHandler (some (.Name Pt D0)) none [.Raise (some (.Call (.Name y' Sl) [a'] [] Gr)) (some (.Constant .none j' XI)) Jd] JR] [] [] pos) (λD σ H=>tb (wR2 C0 C C0' C' E n ans t n' ans' t') D σ H):=by
 intro pins s σ H D I h;refine wpAny_Try_except (wpAny_mono (hb (X.pn++pins) (txe X pins D _) _ (λBC σ H s e C' dx I0 fl hn y q=>?_) [] s σ H D (kT I) h) (λf s1 z=>?_) λe s1 z=>z)
 .have I:=gY I0
  obtain⟨outer,A'⟩:=A'
  have Bk:X.A.frames=some (X.env::outer):=by rw[<-A'];exact I.ok.frames
  have DE:s.heap.FunFrames X.base (X.env::outer):=by rw[<-A'];exact I.stack
  refine k9 Bk DE hf fl λh' ld k=>?_
  rw[<-A']at k;have Ik:=gm I hn (gH y) k
  rcases q with⟨ec,q⟩ | ⟨ec,q⟩
  .cases ec;exact tH c BM Ct own Ik ld (gH y) hn q
  .cases ec;refine wpAny_handleBy_cons (mY no c.g0 c.m0 c.d0 Ik ld ?_) (by intro z;cases z)
   exact tH c' BM Ct own Ik ld (gH y) hn q
 .have z':=oP I.ok z
  cases f with
  | next=>exact wpAny_execs_nil z'
  | brk=>exact z'
  | cont=>exact z'
  | ret u=>exact z'
end
section
variable {X:Cx}{K3:Prop}
theorem wC{pins:List (Addr×Obj)}{s:Shared}{σ:St}{H:Hp}{Q:VK}{elt tg iter:Expr}{ifs:List Expr}{scope:Scope}{own:List (Str×Nat)}{pos pos':Pos}{wi:TI}{g:TG}{tt:TT}{te:TE}{E:XK}{use:Option (Value->Sem Unit)}{Qf:Value->Shared->Prop}
  (hc:X.calm=true)(hN:X.N.Nodup)(I:Inv X pins σ H s)(hi:PI X tg iter wi)(ok:uC X.N X.env.scope scope own)
  (hg:∀(s:Shared)(H:Hp)(C:Addr)(cl:List (Str×Addr))(fp:List Addr),PG (X.blk s H scope (compEnvC scope cl C X.env) fp) tg g)(ht:∀(s:Shared)(H:Hp)(C:Addr)(cl:List (Str×Addr))(fp:List Addr),PTs (X.blk s H scope (compEnvC scope cl C X.env) fp) ifs tt)
  (he:∀(s:Shared)(H:Hp)(C:Addr)(cl:List (Str×Addr))(fp:List Addr)(pn:List (Addr×Obj))(xe:Value->Shared->Prop),gn K3 (Xt (X.blk s H scope (compEnvC scope cl C X.env) fp) pn xe) E->(∀b∈fp,∃o,(b,o)∈pn)->PE (Xt (X.blk s H scope (compEnvC scope cl C X.env) fp) pn xe) elt te)(J8:oX K3 X E)(BM:X.ex=[])(A':∃outer,X.stack=X.env::outer)(hf:X.env.frame=some X.env.locals)(hs:∀x,foldedSetIterable iter X.env x=pure x)
  (h:tLc wi g tt te (own.map (·.2)) σ H Q)
  (VN:∀D C s' m H',Inv X pins σ H' s'->Q (.ref D) H'->s'.heap.Ns C m->mW X pins H' C->compPost (model X.prog X.w) X.A X.xe use Qf (.ref D) C (.ok .next) s') :
  wpAny (model X.prog X.w) X.A (comprehension (.ListComp elt [⟨tg,iter,ifs,0⟩] scope pos) scope X.env pos' (newList []) false (eval iter X.env) use) Qf X.xe s:=by
 have Cs:∀y∈scope.names,y.2 =.free->∃c,X.env.cells.lookup y.1=some c:=λy hy e=>by
  rcases ok.free y hy e with k | k
  .exact I.ok.has _ (.inl k)
  .exact I.ok.has _ (.inr k)
 refine wpAny_comprehension_free (use:=use) rfl hs (tG Cs) ok.kind (λy hy e=>by rw[ok.uniq y hy,e])
  (thn (hi pins s σ H _ I h) λxv s1 hx=>thn hx λMF s2 h2=>?_)
 obtain⟨it,fp,tn,J,H2,e,I2,T,GE,f2,q⟩:=h2
 subst e;refine wpAny_newObj_type (rJ ?_) (by show 0<=sizeLine;decide)
 generalize hD:s2.heap.objs.size=D;have VY:H2 D=none:=I2.hok.fresh (fM hD)
 obtain⟨W,⟨m0,w0⟩,turn⟩:=q D VY
 generalize JK:({ s2 with heap:=s2.heap.push { cls:=.type "list",data:=.seq ([]:List Value).toArray } }:Shared)=s3
 have I3:Inv X pins σ (upd H2 D (.lst [])) s3:=by
  rw[<-JK];refine I2.laid (t':=s2.toks) (λb o e=>aL _ e) (fM hD) ⟨aX _,[],0,.nil,?_⟩
  rw[<-hD];exact bx _ rfl
 have h3:s3.heap=s2.heap.push { cls:=.type "list",data:=.seq ([]:List Value).toArray }:=by rw[<-JK]
 have sz:∀b∈fp,b<s2.heap.objs.size:=λb hb=>by
  obtain⟨o,e,_⟩:=T.obj _ _ GE b hb
  exact aZ e
 have f3:∀b∈fp,mW X pins (upd H2 D (.lst [])) b/\b<s3.heap.objs.size:=λb hb=>by
  have Bh:=sz b hb
  refine⟨⟨?_,(f2 b hb).2⟩,by rw[h3,Heap.size_push];exact iO Bh⟩
  rw[aj (by rw[<-hD];exact bG Bh)]
  exact(f2 b hb).1
 have En:tn 0 s3.heap:=T.keep _ _ _ GE λb ξ o e=>by rw[h3];exact aL _ e
 have I4:=rZ I3 ok hN f3
 have pg:=hg s3 (upd H2 D (.lst [])) s3.heap.objs.size (cellsFrom (s3.heap.objs.size+1) scope.names (dW X.env.cells scope.names [])) fp
 have pt:=ht s3 (upd H2 D (.lst [])) s3.heap.objs.size (cellsFrom (s3.heap.objs.size+1) scope.names (dW X.env.cells scope.names [])) fp
 have pe:=he s3 (upd H2 D (.lst [])) s3.heap.objs.size (cellsFrom (s3.heap.objs.size+1) scope.names (dW X.env.cells scope.names [])) fp
 show codeAny _ _ (.compStart (.ListComp elt [⟨tg,iter,ifs,0⟩] scope pos) 0 (.ref it) (.ref D) (compEnvC scope (cellsFrom (s3.heap.objs.size+1) scope.names (dW X.env.cells scope.names [])) s3.heap.objs.size X.env)) (compPost (model X.prog X.w) X.A X.xe use Qf (.ref D) s3.heap.objs.size) { s3 with heap:=pushCells (s3.heap.push { cls:=.type "dict",data:=.dict #[] }) scope.names }
 have PQ:∀b∈fp,(upd H2 D (.lst [])) b=none:=λb hb=>(f3 b hb).1.1
 generalize QO:compEnvC scope (cellsFrom (s3.heap.objs.size+1) scope.names (dW X.env.cells scope.names [])) s3.heap.objs.size X.env=ce at I4 pg pt pe |-;have cL:ce.locals=s3.heap.objs.size:=by subst QO;rfl
 have cF:ce.frame=X.env.frame:=by subst QO;rfl
 generalize DU:upd H2 D (.lst [])=H3 at I3 I4 pg pt pe w0 PQ f3;generalize UX:({ s3 with heap:=pushCells (s3.heap.push { cls:=.type "dict",data:=.dict #[] }) scope.names }:Shared)=s4 at I4 |-
 have FU:tn 0 s4.heap:=T.keep _ _ _ En λb ξ o e=>by rw[<-UX];exact pushCells_keeps _ _ _ _ (aL _ e)
 have Dv:∀{σ':St}{H':Hp}{s':Shared},Inv (X.blk s3 H3 scope ce fp) [] σ' H' s'->(∀b∈fp,H' b=none)->∀b∈fp,mW (X.blk s3 H3 scope ce fp) [] H' b:=λ{σ' H' s'} I' hn b hb =>
  ⟨hn b hb,(I'.ok.exf b hb).1,I'.ok.exfs b hb,.inl hb,λx c e=>(I'.ok.exf b hb).2 x c e,λp hp=>aW (show p∈([]:List (Addr×Obj))++[]from hp) (by simp)⟩
 have loop:codeAny (model X.prog X.w) X.A (.compLoop (.ListComp elt [⟨tg,iter,ifs,0⟩] scope pos) 0 (.ref it) (.ref D) ce) (compPost (model X.prog X.w) X.A X.xe use Qf (.ref D) s3.heap.objs.size) s4:=by
  refine qE (λn s'=>∃i H',Inv (X.blk s3 H3 scope ce fp) [] (fu σ (own.map (·.2))) H' s'/\tn i s'.heap/\(∀b∈fp,H' b=none)/\W i n H') ?_ m0 ⟨0,H3,I4,FU,PQ,w0⟩
  rintro n s5 ⟨i,H5,I5,Ii,n5,w5⟩
  rcases turn i n H5 w5 with⟨stop,qq⟩ | ⟨go,Nx,VR,step⟩
  .have td:=T.done (X.blk s3 H3 scope ce fp) rfl rfl rfl hc i [] s5 _ H5 (λξ ξ=>False) I5 (Dv I5 n5) Ii stop
   refine vE td λr s6 A9=>?_
   obtain⟨hr,I6⟩:=A9
   subst hr;have I7:Inv X pins σ H5 s6:=I3.call' (ch:=fp) I6.os I6.base I6.hok I6.bare λb hb=>⟨(f3 b hb).1.2.2.2.1,(f3 b hb).1.2.1,(f3 b hb).1.2.2.2.2.1,(f3 b hb).1.2.2.2.2.2⟩
   have nC:H5 s3.heap.objs.size=none:=by
    have z:H5 ce.locals=none:=I6.free
    rw[cL]at z;exact z
   obtain⟨m,hn,_⟩:=I6.loc
   have hn:s6.heap.Ns ce.locals m:=hn
   rw[cL]at hn;exact VN D s3.heap.objs.size s6 m H5 I7 qq hn (I3.fpOk (aF _) nC)
  .have ti:=T.item (X.blk s3 H3 scope ce fp) rfl rfl rfl hc i [] s5 _ H5 (λξ ξ=>False) I5 (Dv I5 n5) Ii go
   refine vE ti λr s6 A9=>?_
   obtain⟨u,hr,h6⟩:=A9
   subst hr;refine vE h6 λξ s7 A9=>?_
   obtain⟨x,H7,I7,r7,y7,Lc,n7⟩:=A9
   have X':=I7.pinned (Dv I7 n7) (T.obj _ _ Lc)
   refine vE (pg _ s7 _ H7 x u _ X' r7 (step x H7 y7)) λξ s8 A9=>?_
   obtain⟨σ8,H8,I8,Qk,q8⟩:=A9
   refine vE (pt _ s8 σ8 H8 _ I8 q8) λb s9 A9=>?_
   obtain⟨H9,I9,q9⟩:=A9
   have fin:∀{s':Shared}{H':Hp},Inv (X.blk s3 H3 scope ce fp) ([]++lV fp s7.heap) σ8 H' s'->Nx H'->∃m,m<n/\∃i H',Inv (X.blk s3 H3 scope ce fp) [] (fu σ (own.map (·.2))) H' s'/\tn i s'.heap/\(∀b∈fp,H' b=none)/\W i m H':=λ{s' H'} I' nx=>by
    obtain⟨m',hm,w'⟩:=VR H' nx
    have Jf:∀b∈fp,∀o,s7.heap.get? b=some o->s'.heap.get? b=some o/\H' b=none:=λb hb o e =>
     let z:=I'.pin (b,o) (aq _ (aq _ (jn hb e)))
     ⟨z.1,z.2.1⟩
    have hl:(fu σ (own.map (·.2))).length=σ8.length:=by rw[<-Qk,jz]
    refine⟨m',hm,i+1,H',(I'.unpinned (pins:=[])).weak hl (λj v e=>?_),T.keep _ _ _ Lc λb hb o e=>(Jf b hb o e).1,λb hb=>?_,w'⟩
    .rw[<-Qk]at e;exact(lF e).1
    .obtain⟨o,e,_⟩:=T.obj _ _ Lc b hb
     exact(Jf b hb o e).2
   cases b with
   | false =>
    simp only[Bool.false_eq_true,if_false]at q9 |-;exact fin I9 q9
   | true =>
    simp only[if_true]at q9 |-;have fl:gn K3 (Xt (X.blk s3 H3 scope ce fp) ((X.blk s3 H3 scope ce fp).pn++([]++lV fp s7.heap)) (txc X use Qf (.ref D) s3.heap.objs.size ce)) E:=vg I3 cL cF f3 J8 BM A' hf
    refine wpAny_mono (pe _ _ fl (λb hb=>?_) [] s9 σ8 H9 _ (kT I9) q9) (λz YV LN=>?_) λξ ξ hx=>hx
    .obtain⟨o,e,_⟩:=T.obj _ _ Lc b hb
     exact⟨o,aq _ (aq _ (jn hb e))⟩
    obtain⟨yv,Zt,Oy,SM,acc,NP,MG,nx⟩:=LN
    have Oz:=gY Oy
    exact AU (X:=X.blk s3 H3 scope ce fp) Oz NP MG SM λYU Yb=>fin Yb nx
 exact codeAny_compStart_list loop (T.self X.A 0 _ _ _ FU loop)
theorem lX{elt tg iter:Expr}{ifs:List Expr}{scope:Scope}{own:List (Str×Nat)}{pos:Pos}{wi:TI}{g:TG}{tt:TT}{te:TE}{E:XK}(hc:X.calm=true)(hN:X.N.Nodup)(hi:PI X tg iter wi)(ok:uC X.N X.env.scope scope own)
  (hg:∀(s:Shared)(H:Hp)(C:Addr)(cl:List (Str×Addr))(fp:List Addr),PG (X.blk s H scope (compEnvC scope cl C X.env) fp) tg g)(ht:∀(s:Shared)(H:Hp)(C:Addr)(cl:List (Str×Addr))(fp:List Addr),PTs (X.blk s H scope (compEnvC scope cl C X.env) fp) ifs tt)
  (he:∀(s:Shared)(H:Hp)(C:Addr)(cl:List (Str×Addr))(fp:List Addr)(pn:List (Addr×Obj))(xe:Value->Shared->Prop),gn K3 (Xt (X.blk s H scope (compEnvC scope cl C X.env) fp) pn xe) E->(∀b∈fp,∃o,(b,o)∈pn)->PE (Xt (X.blk s H scope (compEnvC scope cl C X.env) fp) pn xe) elt te)(J8:oX K3 X E)(BM:X.ex=[])(A':∃outer,X.stack=X.env::outer)(hf:X.env.frame=some X.env.locals)(hs:∀x,foldedSetIterable iter X.env x=pure x:=by intro _;rfl) :
  PE X (.ListComp elt [⟨tg,iter,ifs,0⟩] scope pos) (tLc wi g tt te (own.map (·.2))):=by
 intro pins s σ H Q I h;rw[eval_ListComp];refine wC hc hN I hi ok hg ht he J8 BM A' hf hs h λD C s' m H' I' q hn f=>⟨m,hn,λLO sb=>?_⟩
 obtain⟨f0,f1,f2,f3,f4,f5⟩:=f
 exact⟨.ref D,H',I'.turned (t':=s'.toks) (λb o hb e=>(sb.2 b hb).trans e) f0 f1 f3 f4 f5,rfl,q⟩
theorem ft0:oX True X λξ ξ ξ=>False:=λξ ξ ξ ξ ξ ξ ξ ξ ξ ξ ξ ξ ξ ξ h=>h.elim
end
end L2.XC
namespace L2
open PySem PySem.Spec PyProof.Rows
section
variable {X:Cx}
def rCatL(K:Fg_):R2:=λx y H Q=>∃l b xs zs,x =.ref l/\y =.ref b/\SqL K H l xs/\SqL K H b zs/\xs.length+zs.length<=sizeLine/\∀p,H p=none->Q (.ref p) (upd H p (.lst (xs++zs)))
theorem ql:OpR X (binaryOp .Add) (rCatL X.K):=by
 intro pins s σ H x y v u Q I rx ry h;obtain⟨l,b,xs,zs,rfl,rfl,hl,hb,hz,q⟩:=h
 cases rx;cases ry;obtain⟨AX,rv,⟨⟨c1,d1,Zp,SG⟩,n,ho,hc,BO,hd⟩,_⟩:=I.list hl
 obtain⟨BJ,Ij,⟨⟨c2,d2,Zo,SE⟩,n2,Qu,Fg,J',hd2⟩,_⟩:=I.list hb
 simp only at hc hd BO Fg hd2 J';subst hc hd BO Fg hd2 J';have l1:=rv.length
 have l2:=Ij.length
 have ea:AX.toArray++BJ.toArray=(AX++BJ).toArray:=by simp
 refine concat_meets ⟨_,ho,rfl⟩ ⟨_,Qu,rfl⟩ noFill_list_add seq_list_add PySem.F.slot_list_add PySem.F.entry_list_add (PySem.F.args_list_add_2 _ _) (list_addW l b AX.toArray BJ.toArray n n2 none none SG SE (by rw[aU,aU];lia)) ⟨ho,Qu,?_⟩
 rw[ea];exact⟨.ref _,_,I.lnew (t':=s.toks) (rv.append Ij) (by rw[ae];exact hz),rfl,q _ I.fresh⟩
end
section
variable {X:Cx}
def x8:V->List V->Hp->VK->Prop:=λx vs H Q=>∃(l:Addr)(xs:List V)(i:Nat)(y:V),x =.ref l/\vs=[.int (i:Int),y]/\H l=some (.lst xs)/\i<=xs.length/\xs.length<sizeLine/\Q .non (upd H l (.lst (xs.take i++y::xs.drop i)))
theorem u7:MtM X "list.insert" x8:=by
 intro pins s σ H x vs v us Q I rx rv h;obtain⟨l,xs,i,y,rfl,rfl,hH,hi,hz,q⟩:=h
 cases rx;obtain⟨u,L5,rfl,ru,Ij⟩:∃u L5,us=u::L5/\dw (.int (i:Int)) u/\cJ [y] L5:=by
  cases rv with
  | cons h1 h2=>exact⟨_,_,rfl,h1,h2⟩
 obtain⟨u2,rfl,SL⟩:=Ij.one
 obtain⟨t,rfl⟩:=ru
 obtain⟨z,AX,n,r,hl,e⟩:=I.lstM hH
 obtain⟨x,hx⟩:∃x:Int,x=(i:Int):=⟨_,rfl⟩
 have hf:Builtin.List.listFitsIndex x=true:=fitsIndex_both (by lia) (by have:=sizeLine_eq;lia)
 have Vq:¬(!Builtin.List.listFitsIndex x)=true:=by rw[hf];exact aT
 have hsz:AX.toArray.size<=sizeLine:=by
  rw[aU,<-hl];exact z
 rw[<-hx];refine call_meets F.slot_list_insert ⟨_,e,rfl⟩ F.entry_list_insert (F.args_list_insert_3 _ _ _) (AutoSeq1.list_insert_list_int_val_1 l AX.toArray n x t u2 Vq hsz) ⟨e,?_⟩
 refine⟨.non,_,I.lset (ys:=xs.take i++y::xs.drop i) (its':=AX.take i++u2::AX.drop i) hH e ?_ ?_ ?_,rfl,q⟩
 .show((AX.toArray.extract 0 (if x<0 then(x+(AX.toArray.size:Int)).toNat else min x.toNat AX.toArray.size)).push u2++AX.toArray.extract (if x<0 then(x+(AX.toArray.size:Int)).toNat else min x.toNat AX.toArray.size))=_
  rw[ay (by lia),hx,eV,aU,cI (leR hl hi)]
  simp
  exact cC (by rw[aD];exact aF _)
 .exact(r.take i).append (.cons SL (r.drop i))
 .rw[ae,ao,aP,aD];lia
end
end L2
namespace HT
open PySem PySem.Spec PyProof.Rows
open Builtin Builtin.Str
theorem uZ:typeLookup (.type "list_reverseiterator") "__len__" =pure none:=by rw[typeLookup_type,builtinLookup_eq_fast];kernel_rfl
theorem wF:typeLookup (.type "list_reverseiterator") "__length_hint__" =pure (some (.builtin "list_reverseiterator.__length_hint__")):=by rw[typeLookup_type,builtinLookup_eq_fast];kernel_rfl
section
variable {prog:Program}{w:World}{A:Around}{E:Value->Shared->Prop}{s:Shared}
theorem walks_rev{it l:Addr}{items:Array Value}(hh:A.handled=none)(BH:it≠l) :
  WalksS prog w A it [it,l] [it] (λa b=>a=b) items.size (λi v=>items[items.size-1-i]? =some v) (λi s=>i<=items.size/\s.heap.IsRevIter it l ((items.size:Int)-1-(i:Nat))/\s.heap.IsList l items) where
 sub:=by simp
 grefl:=λξ=>rfl
 gtrans:=λξ ξ ξ a b=>a.trans b
 frame:=λi s h' tk st ξ k=>⟨st.1,st.2.1.at λo e=>k it (by simp) o e,by
  obtain⟨o,ho,r⟩:=st.2.2
  exact⟨o,k l (by simp) o ho,r⟩⟩
 item:=λi s Q E hi st h=>by
  obtain⟨hle,hit,hl⟩:=st
  have e1:(items.size:Int)-1-((i:Nat):Int)=((items.size-1-i:Nat):Int):=by omega
  rw[e1]at hit;have hx:items[items.size-1-i]? =some items[items.size-1-i]:=eH (by omega)
  refine wpAny_pyNext_rev_item hit hl hx λh' Ck sb=>?_
  have e2:((items.size-1-i:Nat):Int)-1=(items.size:Int)-1-((i+1:Nat):Int):=by lia
  rw[e2]at Ck
  refine h _ _ hx ⟨hi,Ck,?_⟩ ⟨λb o hb e=>(sb.2 b (by simpa using hb)).trans e,rfl,rfl,rfl,aF _⟩
  obtain⟨o,ho,r⟩:=hl
  exact⟨o,(sb.2 l (ba BH)).trans ho,r⟩
 done:=λs Q E st h=>by
  obtain⟨hle,hit,hl⟩:=st
  have e1:(items.size:Int)-1-((items.size:Nat):Int) =-1:=by lia
  rw[e1]at hit;exact wpAny_pyNext_rev_end hh hit λh' eb=>h _ ⟨λb o hb e=>eb b o (by simpa using hb) e,rfl,rfl,rfl,aF _⟩
 self:=λi s Q E st h=>wpAny_pyIter_revIter st.2.1 h
end
end HT
namespace HT
open PySem PySem.Spec PyProof.Rows
open Builtin
section
variable {prog:Program}{w:World}{A:Around}{s:Shared}{R:Result->Shared->Prop}
variable {I:Addr}{fp wr:List Addr}{G:Array GenState->Array GenState->Prop}{n:Nat}{P:Nat->Value->Prop}{St:Nat->Shared->Prop}
theorem tE(W:WalksS prog w A.in1 I fp wr G n P St)(hT:∀i s,St i s->s.TypeIs (.ref I) "list_reverseiterator")(S:Addr)(res:Value)(c₀:Nat)(A':St 0 s)(HL:S∉fp)(hI:I∈fp)
  (hS:s.heap.get? S=some { cls:=.type "list",data:=.seq #[] c₀ })
  (hR:∀s' BK c',Moved (S::wr) G s s'->s'.heap.get? S=some { cls:=.type "list",dict:=none,data:=.seq BK c',slots:=#[] }->ItemsOf P BK n->R (.ok (.ret res)) s')(hn:n<=sizeLine) :
  wpAny (model prog w) A.in1 (Builtin.List.listExtendWith (.ref S) (.ref I) res)
   (λfin s'=>match fin with | .done f=>R (.ok f) s' | .again c'=>c'.quiet=true/\codeAny (model prog w) A c' R s') (λe s'=>R (.error e) s') s:=by
 have VJ:S≠I:=λe=>HL (e▸hI)
 have ns:Builtin.List.listSameRef (.ref S) (.ref I)=false:=by simp[Builtin.List.listSameRef,VJ]
 unfold Builtin.List.listExtendWith;refine aH (wpAny_typeOf (hT 0 _ A') ?_)
 rw[ay (by rw[ns];decide)]
 refine aH (W.self 0 _ _ _ A' ?_)
 refine aH (wpAny_holding ?_)
 unfold Builtin.List.listLengthHint;refine aH (wpAny_specialOf (hT 0 _ A') uZ ?_)
 show wpAny _ A.in1 (specialOf (Value.ref I) (Str.ofString "__length_hint__") >>=_) _ _ _
 refine aH (wpAny_specialOf (hT 0 _ A') wF ?_)
 generalize QL:("list_reverseiterator.__length_hint__" :String)=id0;wp_delta
 rw[show splitId id0=some ("list_reverseiterator","__length_hint__")from by subst QL;decide +kernel]
 subst QL;refine aH (wpAny_isInstance (b:=true) (hT 0 _ A') (by rw[isSubtype_type];kernel_rfl) ?_)
 refine bM ?_
 rw[ay (by decide)]
 refine bM ⟨plainId_quiet F.plain_extend_loop _,codeAny_extend_loopS W hn _ HL _ n 0 _ _ _ rfl (aX _) A' hS (ItemsOf.nil P) λs' BK c' hm Kf B8=>?_⟩
 exact hR s' BK c' hm Kf B8
theorem ph(W:WalksS prog w A.in1 I fp wr G n P St)(hT:∀i s,St i s->s.TypeIs (.ref I) "list_reverseiterator")(S:Addr)(A':St 0 s)(HL:S∉fp)(hI:I∈fp)
  (hS:s.heap.get? S=some { cls:=.type "list",data:=.seq #[] })
  (hR:∀s' BK c',Moved (S::wr) G s s'->s'.heap.get? S=some { cls:=.type "list",dict:=none,data:=.seq BK c',slots:=#[] }->ItemsOf P BK n->R (.ok (.ret .none)) s')(hn:n<=sizeLine) :
  wpAny (model prog w) A.in1 (Builtin.«list.__init__» ⟨[.ref S,.ref I],[]⟩)
   (λfin s'=>match fin with | .done f=>R (.ok f) s' | .again c'=>c'.quiet=true/\codeAny (model prog w) A c' R s') (λe s'=>R (.error e) s') s:=by
 show wpAny _ A.in1 (do let old ←Builtin.List.listItems (.ref S);Builtin.List.listUpdate (.ref S) (λξ=>#[]);letGo old.toList.reverse;Builtin.List.listExtendWith (.ref S) (.ref I) .none) _ _ s
 refine aH ?_
 unfold Builtin.List.listItems;refine aH (wpAny_seqItems hS rfl (bM ?_))
 show wpAny _ A.in1 (updateSeq S (λξ=>#[]) >>=λξ=>letGo (#[]:Array Value).toList.reverse >>=λξ=>Builtin.List.listExtendWith (.ref S) (.ref I) .none) _ _ s
 refine aH (wpAny_updateSeq hS rfl ?_)
 have VI:=Heap.get?_update_self (Obj.mapSeq (λξ=>(#[]:Array Value))) hS rfl
 have PC:∀b o,b≠S->s.heap.get? b=some o->(s.heap.update S (Obj.mapSeq (λξ=>(#[]:Array Value)))).get? b=some o :=
  λb o hb e=>(Heap.get?_update_other _ _ (ba hb)).trans e
 refine aH (wpAny_letGo ?_)
 refine tE (hn:=hn) W hT S .none _ (W.frame 0 s _ s.toks A' (aF _) λb hb o e=>PC b o (λh=>HL (h▸hb)) e) HL hI VI λs' BK c' hm Kf B8=>?_
 exact hR s' BK c' (Moved.trans W.gtrans ((Moved.refl W.grefl).then_heap (aF _) λb o hb e=>PC b o (λh=>hb (h▸a7)) e) hm) Kf B8
end
section
variable {prog:Program}{w:World}{A:Around}{E:Value->Shared->Prop}{s:Shared}
theorem call_list_rev{Q:Value->Shared->Prop}{I:Addr}{fp wr:List Addr}{G:Array GenState->Array GenState->Prop}{n:Nat}{P:Nat->Value->Prop}{St:Nat->Shared->Prop}(W:WalksS prog w A.in1.in1 I fp wr G n P St)(hT:∀i s,St i s->s.TypeIs (.ref I) "list_reverseiterator")(A':St 0 s)(Gf:∀b∈fp,b<s.heap.objs.size)(hI:I∈fp)
  (hQ:∀s' BK c',Moved (s.heap.objs.size::wr) G { s with heap:=s.heap.push { cls:=.type "list",data:=.seq #[] } } s' ->
   s'.heap.get? s.heap.objs.size=some { cls:=.type "list",dict:=none,data:=.seq BK c',slots:=#[] }->ItemsOf P BK n->Q (.ref s.heap.objs.size) s') (hn:n<=sizeLine) :
  wpAny (model prog w) A (call (.type "list") [.ref I]) Q E s:=by
 have HL:s.heap.objs.size∉fp:=λhm=>cw _ (Gf _ hm)
 refine callType_codes (Q₁:=λobj s₁=>obj =.ref s.heap.objs.size/\s₁={ s with heap:=s.heap.push { cls:=.type "list",data:=.seq #[] } }) F.called_list (F.typeCall_list_1 _) F.entry_list_init
  (code_list_new _ ⟨rfl,rfl⟩) λobj s₁ h₁=>?_
 obtain⟨rfl,rfl⟩:=h₁
 have hS:(s.heap.push { cls:=.type "list",data:=.seq #[] }).get? s.heap.objs.size=some { cls:=.type "list",data:=.seq #[] }:=bx _ rfl
 refine⟨⟨_,hS,rfl⟩,F.args_list_init_2 _ _,ph (hn:=hn) W hT _ (W.frame 0 s _ s.toks A' (aF _) λb ξ o e=>aL _ e) HL hI hS λs' BK c' hm Kf B8=>?_⟩
 exact⟨rfl,hQ s' BK c' hm Kf B8⟩
theorem items_rev{items acc:Array Value}(h:ItemsOf (λi v=>items[items.size-1-i]? =some v) acc items.size):acc.toList=items.toList.reverse:=by
 have hs:acc.size=items.size:=h.1
 apply List.ext_getElem?
 intro i;by_cases c:i<items.size
 .have hi:i<acc.size:=(aR c (leL hs (aF _)))
  have:=h.2 i acc[i] (eH hi)
  rw[List.getElem?_reverse (by rw[d9];exact c),dP,dP,eH hi,d9,<-this]
 .rw[gG (by rw[d9];lia),gG (by rw[eZ,d9];exact bg c)]
end
end HT
namespace L2
open PySem PySem.Spec PyProof.Rows
def zu(K:Fg_)(ta:TA):TE:=λσ H Q=>ta σ H λvs H1=>∃(a:Addr)(xs:List V),vs=[.ref a]/\SqL K H1 a xs/\∀x,H1 x=none->Q (.ref x) (upd H1 x (.lst xs.reverse))
section
variable {X:Cx}
theorem tI:bootBuiltins "list" =some (.type "list"):=by kernel_rfl
theorem sS{e:Expr}{ta:TA}{p p2 pos Bc:Pos}(hc:X.calm=true)(BA:Gl X "list")(EL:X.mg "list" =none)(hg:Gl X "reversed")(hm:X.mg "reversed" =none)(ha:PA X [e] ta)
  (hs:starEach [e] X.env=[(false,eval e X.env)]:=by rfl)
  (Dk:starEach [Expr.Call (.Name "reversed" p) [e] [] pos] X.env=[(false,eval (.Call (.Name "reversed" p) [e] [] pos) X.env)]:=by rfl) :
  PE X (.Call (.Name "list" p2) [.Call (.Name "reversed" p) [e] [] pos] [] Bc) (zu X.K ta):=by
 intro pins s σ H Q I h;refine Call_ (jH I BA EL tI (PyProof.Rows.callWith_type1 ?_ Dk rfl))
 rw[Dk];refine Calls.spliced_cons ?_
 refine Call_ (jH I hg hm jL (PyProof.Rows.callWith_type1 (thn (ha pos pins s σ H _ I h) λus s2 A9=>?_) hs rfl))
 obtain⟨vs,H2,I2,r2,q2⟩:=A9
 obtain⟨a,xs,e1,hq,q⟩:=q2
 subst e1;cases r2 with
 | cons r rr =>
  cases rr;cases r;obtain⟨AX,rv,p',hz⟩:=I2.list hq
  refine call_reversed_list p'.isList ?_
  refine Calls.spliced_nil ?_
  have Bh:a<s2.heap.objs.size:=by
   obtain⟨o,_,e1,_⟩:=p'
   exact aZ e1
  have BH:s2.heap.objs.size≠a:=fj Bh
  have IE:AX.toArray.size=AX.length:=aU
  have Dm:(s2.heap.push (revObj a ((AX.toArray.size:Int)-1))).IsList a AX.toArray:=by
   obtain⟨o,ho,r⟩:=p'.isList
   exact⟨o,aL _ ho,r⟩
  have J4:(s2.heap.push (revObj a ((AX.toArray.size:Int)-1))).IsRevIter s2.heap.objs.size a ((AX.toArray.size:Int)-1-((0:Nat):Int)):=by
   rw[show(AX.toArray.size:Int)-1-((0:Nat):Int)=(AX.toArray.size:Int)-1 by lia]
   exact⟨_,bx _ rfl,rfl,rfl⟩
  have lt:∀b∈[s2.heap.objs.size,a],b<(s2.heap.push (revObj a ((AX.toArray.size:Int)-1))).objs.size:=λb hb=>by
   have e:b=s2.heap.objs.size\/b=a:=by simpa using hb
   rcases e with rfl | rfl
   .obtain⟨o,ho,_⟩:=J4;exact aZ ho
   .obtain⟨o,ho,_⟩:=Dm;exact aZ ho
  have hlen:=rv.length
  refine HT.call_list_rev (HT.walks_rev (I.ok.hd hc) BH) (λi s st=>st.2.1.typeIs) (s:={ s2 with heap:=s2.heap.push (revObj a ((AX.toArray.size:Int)-1)) }) ⟨aX _,J4,Dm⟩ lt (by simp) (λs' acc c' Qz hS B8=>?_) (by rw[IE];lia)
  generalize Vl:s2.heap.push (revObj a ((AX.toArray.size:Int)-1))=h3 at *;have hle:s2.heap.objs.size<=h3.objs.size:=by
   have:=lt s2.heap.objs.size (by simp)
   exact cq this
  have Ke:acc=AX.reverse.toArray:=by
   have:=HT.items_rev B8
   rw[<-Array.toArray_toList (xs:=acc),this]
  have hk:∀b o,s2.heap.get? b=some o->s'.heap.get? b=some o:=λb o e=>by
   have hb:b<s2.heap.objs.size:=aZ e
   refine Qz.heap b o ?_ (aL _ ?_)
   .intro z;rcases aI.mp z with z | z
    .exact aW z (bG (aR hb hle))
    .exact aW (aN.mp z) (bG hb)
   .rw[<-Vl];exact aL _ e
  refine⟨.ref h3.objs.size,_,?_,rfl,q _ (I2.hok.fresh hle)⟩
  have I4:=I2.turnedNew (t':=s'.toks) (h':=s'.heap) (ch:=[]) (T:=h3.objs.size) (ob:=.lst xs.reverse) (λb o ξ e=>hk b o e) (λb hb=>by simp at hb) hle ⟨by rw[eZ];exact hz,AX.reverse,c',rv.reverse,by rw[hS,Ke]⟩
  obtain⟨_,m2,m3,m4,_⟩:=Qz
  cases s'
  simp only at m2 m3 m4;subst m2 m3 m4;exact I4
end
section
variable {X:Cx}
end
section
variable {X:Cx}
end
theorem AH{x:Str}{g:TG}{tt:TT}{te:TE}{vs:List Nat}{σ:St}{H1:Hp}{D:Addr}{Qd:Hp->Prop}(Pv:Nat->Hp->Prop)(h0:Pv 0 (upd H1 D (.lst [])))
  (hs:∀i c H,x.cps[i]? =some c->Pv i H->g (.str ⟨#[c]⟩) (fu σ vs) H λσ2 H2=>fu σ2 vs=fu σ vs/\tt σ2 H2 λb H3 =>
   if b=true then te σ2 H3 λy H4=>∃acc,H4 D=some (.lst acc)/\acc.length<sizeLine/\Pv (i+1) (upd H4 D (.lst (acc++[y])))else Pv (i+1) H3) (hd:∀H,Pv x.cps.size H->Qd H) :
  ∃W:Nat->Nat->Hp->Prop,(∃m,W 0 m (upd H1 D (.lst [])))/\∀i m H,W i m H ->
   ((Its x).stop i H/\Qd H)\/((Its x).go i H/\∃Nx:Hp->Prop,(∀H',Nx H'->∃m',m'<m/\W (i+1) m' H')/\∀y H',(Its x).yld i H y H'->g y (fu σ vs) H' λσ2 H2=>fu σ2 vs=fu σ vs/\tt σ2 H2 λb H3 =>
    if b=true then te σ2 H3 λy H4=>∃acc,H4 D=some (.lst acc)/\acc.length<sizeLine/\Nx (upd H4 D (.lst (acc++[y])))else Nx H3):=by
 refine⟨λi m H=>m=x.cps.size-i/\i<=x.cps.size/\Pv i H,⟨x.cps.size,by simp,aX _,h0⟩,?_⟩
 rintro i m H ⟨rfl,hi,p⟩
 by_cases Bh:i<x.cps.size
 .refine .inr ⟨Bh,Pv (i+1),λH' p'=>⟨x.cps.size-(i+1),(df _ _ Bh),rfl,Bh,p'⟩,λy H' e=>?_⟩
  obtain⟨rfl,c,hc,rfl⟩:=e
  exact hs i c _ hc p
 .have e:i=x.cps.size:=(cu hi (bg Bh))
  subst e;exact .inl ⟨aF _,hd H p⟩
section
variable {X:Cx}
end
end L2
namespace Vm
open Sw
def val(l:Bytes):Nat:=l.foldr (λ(x:UInt8) (m:Nat)=>x.toNat % 128+128*m) 0
theorem val_snoc:∀(l:Bytes)(c:UInt8),val (l++[c])=val l+c.toNat % 128*128 ^ l.length
 | [],c=>by simp[val]
 | x::l,c=>by
  have ih:=val_snoc l c
  show x.toNat % 128+128*val (l++[c])=x.toNat % 128+128*val l+c.toNat % 128*128 ^ (l.length+1)
  rw[ih,gu,Nat.mul_add,<-Nat.mul_assoc (c.toNat % 128),Nat.mul_comm 128 (c.toNat % 128*128 ^ l.length)];exact(bh _ _ _).symm
def High(l:Bytes):Prop:=∀c∈l,128<=c.toNat
theorem sC:∀{l:Bytes},High l->l.takeWhile (λ(c:UInt8)=>decide (128<=c.toNat))=l
 | [],_=>rfl
 | c::l,h=>by
  rw[fV,ax (ah (h c (by simp))),sC (l:=l) λd hd=>h d (by simp[hd])]
theorem tS:∀{l:Bytes}{c:UInt8}{r:Bytes},High l->c.toNat<128->(l++c::r).takeWhile (λ(c:UInt8)=>decide (128<=c.toNat))=l
 | [],c,r,_,h=>by
  rw[ft,fV,ay (by simp;exact h)]
 | d::l,c,r,hl,h=>by
  rw[cX,fV,ax (ah (hl d (by simp))),tS (l:=l) (λe he=>hl e (by simp[he])) h]
theorem vary_five{p:Nat}{l r:Bytes}(hl:High l)(h5:l.length=5):varyOf p (l++r) =.error ⟨3,p⟩:=by
 have e:(l++r).take 5=l:=by rw[<-h5,iH]
 unfold varyOf;simp only[e,sC hl,h5,if_true]
theorem vary_end{p:Nat}{l:Bytes}(hl:High l)(h5:l.length<5):varyOf p l =.error ⟨1,p+l.length⟩:=by
 have e:l.take 5=l:=cC (cq h5)
 unfold varyOf;simp only[e,sC hl,fO,ay (show ¬l.length=5 from(bG h5))]
theorem vary_stop{p:Nat}{l r:Bytes}{c:UInt8}(hl:High l)(h5:l.length<5)(hc:c.toNat<128) :
  varyOf p (l++c::r)=(if l.length>0/\c=0 then .error ⟨3,p⟩else if 2 ^ 32<=val (l++[c])then .error ⟨3,p⟩else .ok (val (l++[c]),l.length+1)):=by
 have e:(l++c::r).take 5=l++c::r.take (4-l.length):=by
  rw[jf,cC (cq h5),show 5-l.length=(4-l.length)+1 by lia,fU]
 unfold varyOf;simp only[e,tS hl hc,eE,ay (show ¬l.length=5 from(bG h5))];rfl
theorem vary_used{p n l:Nat}{b:Bytes}(h:varyOf p b =.ok (n,l)):1<=l/\l<=b.length/\l<=5/\n<2 ^ 32:=by
 unfold varyOf at h;simp only at h;generalize hh:((b.take 5).takeWhile λ(c:UInt8)=>decide (128<=c.toNat))=t at h
 have ht:t.length<=5:=by
  rw[<-hh];exact bH (List.takeWhile_sublist _).length_le (by rw[aP];exact Nat.min_le_left _ _)
 by_cases h5:t.length=5
 .rw[ax h5]at h;cases h
 .rw[ay h5]at h;split at h
  .cases h
  .rename_i c r hd
   have hlen:t.length<b.length:=by
    apply dQ
    intro hle;rw[List.drop_eq_nil_of_le hle]at hd;cases hd
   split at h
   .cases h
   .split at h
    .cases h
    .rename_i hn
     injection h with h;injection h with h1 h2;subst h2;subst h1;exact⟨(a8 _ _),hlen,(f9 ht h5),(dQ hn)⟩
end Vm
namespace Um
open Sw
def cf(c:Nat):Nat:=if 194<=c/\c<=223 then 1 else if 224<=c/\c<=239 then 2 else if 240<=c/\c<=244 then 3 else 0
def ls(c:Nat):Nat:=if c=224 then 160 else if c=240 then 144 else 128
def hs(c:Nat):Nat:=if c=237 then 159 else if c=244 then 143 else 191
def urun:Nat->Nat->Nat->Nat->Bytes->Option Nat
 | k,_,_,p,[]=>if 0<k then some p else none
 | k,lo,hi,p,c::r=>if 0<k then(if c.toNat<lo\/hi<c.toNat then some p else urun (k-1) 128 191 (p+1) r)
  else if 128<=c.toNat then(if cf c.toNat=0 then some p else urun (cf c.toNat) (ls c.toNat) (hs c.toNat) (p+1) r)else urun 0 lo hi (p+1) r
theorem lH:∀(b:Bytes)(lo hi MC Ge p:Nat),urun 0 lo hi p b=urun 0 MC Ge p b
 | [],_,_,_,_,_=>rfl
 | c::r,lo,hi,MC,Ge,p=>by
  unfold urun;rw[ay (cw 0),ay (cw 0)];by_cases h:128<=c.toNat
  .rw[ax h,ax h]
  .rw[ay h,ay h];exact lH r lo hi MC Ge (p+1)
theorem leads_eq:∀c,c<256->leads c=if c<128 then some (0,0,0)else if cf c=0 then none else some (cf c,ls c,hs c):=by decide +kernel
theorem oE:∀(k lo hi x p:Nat)(b:Bytes),match follow k lo hi x p b with
  | .error q=>urun k lo hi p b=some q
  | .ok (_,r)=>urun k lo hi p b=urun 0 128 191 (p+(b.length-r.length)) r/\r.length<=b.length
 | 0,lo,hi,x,p,b=>by
  unfold follow;refine⟨?_,aF _⟩
  rw[ip,gw];exact lH b lo hi 128 191 p
 | k+1,lo,hi,x,p,[]=>by
  unfold follow urun;rw[ax (fL k)]
 | k+1,lo,hi,x,p,c::b=>by
  unfold follow;by_cases h:lo<=c.toNat/\c.toNat<=hi
  .rw[ax h];have ih:=oE k 0x80 0xBF (64*x+c.toNat % 64) (p+1) b
   have e:urun (k+1) lo hi p (c::b)=urun k 128 191 (p+1) b:=by
    conv=>lhs;unfold urun
    rw[ax (fL k),ay (by lia)]
    rfl
   rw[e];cases hf:follow k 0x80 0xBF (64*x+c.toNat % 64) (p+1) b with
   | error q=>rw[hf]at ih;exact ih
   | ok z =>
    obtain⟨y,r⟩:=z
    rw[hf]at ih;obtain⟨UD,E7⟩:=ih
    refine⟨?_,by rw[ao];exact fA E7⟩
    rw[UD,ao];congr 1
    lia
  .rw[ay h];show urun (k+1) lo hi p (c::b)=some p
   unfold urun;rw[ax (fL k),ax (by lia)]
theorem nO:∀(f p:Nat)(b:Bytes),b.length<=f->match scalarsFrom f p b with
  | .error q=>urun 0 128 191 p b=some q
  | .ok _=>urun 0 128 191 p b=none
 | 0,p,[],_=>rfl
 | f+1,p,[],_=>rfl
 | 0,p,c::b,h=>by simp at h
 | f+1,p,c::b,h=>by
  have hlen:b.length<=f:=by rw[ao]at h;exact bA h
  have hl:=leads_eq c.toNat c.toNat_lt
  have e0:urun 0 128 191 p (c::b)=if 128<=c.toNat then(if cf c.toNat=0 then some p else urun (cf c.toNat) (ls c.toNat) (hs c.toNat) (p+1) b)else urun 0 128 191 (p+1) b:=by
   conv=>lhs;unfold urun
   rw[ay (cw 0)]
  rw[e0];unfold scalarsFrom scalarAt;dsimp only;by_cases h1:c.toNat<128
  .rw[ax h1]at hl;rw[hl,ay (gR h1)];simp only[follow,ao];have ih:=nO f (p+(b.length+1-b.length)) b hlen
   rw[show b.length+1-b.length=1 by lia]at ih |-
   cases hs':scalarsFrom f (p+1) b with
   | error q=>rw[hs']at ih;exact ih
   | ok l=>rw[hs']at ih;exact ih
  .rw[ay h1]at hl;rw[ax (bg h1)];by_cases h2:cf c.toNat=0
   .rw[ax h2]at hl;rw[hl,ax h2]
   .rw[ay h2]at hl;rw[hl,ay h2];have fr:=oE (cf c.toNat) (ls c.toNat) (hs c.toNat) (firstBits (cf c.toNat) c.toNat) (p+1) b
    simp only;cases hf:follow (cf c.toNat) (ls c.toNat) (hs c.toNat) (firstBits (cf c.toNat) c.toNat) (p+1) b with
    | error q=>rw[hf]at fr;exact fr
    | ok z =>
     obtain⟨y,r⟩:=z
     rw[hf]at fr;obtain⟨f1,f2⟩:=fr
     simp only[ao];have ih:=nO f (p+(b.length+1-r.length)) r (bH f2 hlen)
     rw[f1,show p+1+(b.length-r.length)=p+(b.length+1-r.length)by lia]
     cases hs':scalarsFrom f (p+(b.length+1-r.length)) r with
     | error q=>rw[hs']at ih;exact ih
     | ok l=>rw[hs']at ih;exact ih
theorem text_run(p:Nat)(b:Bytes):match textOf p b with
  | .error e=>e.kind=5/\urun 0 128 191 p b=some e.place
  | .ok _=>urun 0 128 191 p b=none:=by
 have h:=nO b.length p b (aF _)
 unfold textOf scalars;cases hs':scalarsFrom b.length p b with
 | error q=>rw[hs']at h;exact⟨rfl,h⟩
 | ok l=>rw[hs']at h;exact h
def fbad:Nat->Nat->Nat->Bytes->Option Nat
 | _,_,_,[]=>none
 | lo,hi,p,c::r=>if c.toNat<lo\/hi<c.toNat then some p else fbad 128 191 (p+1) r
theorem urun_further:∀(k lo hi p:Nat)(b:Bytes),urun k lo hi p b=match fbad lo hi p (b.take k)with
  | some q=>some q
  | none=>if b.length<k then some (p+b.length)else urun 0 128 191 (p+k) (b.drop k)
 | 0,lo,hi,p,b=>by
  rw[eD];show _=if b.length<0 then _ else _
  rw[ay (dA _),ff];exact lH b lo hi 128 191 p
 | k+1,lo,hi,p,[]=>by
  show(if 0<k+1 then some p else none)=if 0<k+1 then some (p+0)else _
  rw[ax (fL k),ax (fL k)];rfl
 | k+1,lo,hi,p,c::r=>by
  have ih:=urun_further k 128 191 (p+1) r
  show(if 0<k+1 then(if c.toNat<lo\/hi<c.toNat then some p else urun k 128 191 (p+1) r)else _)=_
  rw[ax (fL k),fU];show _=match (if c.toNat<lo\/hi<c.toNat then some p else fbad 128 191 (p+1) (r.take k))with
   | some q=>some q
   | none=>_
  by_cases h:c.toNat<lo\/hi<c.toNat
  .rw[ax h,ax h]
  .rw[ay h,ay h,ih];cases fbad 128 191 (p+1) (r.take k)with
   | some q=>rfl
   | none =>
    simp only[ao,List.drop_succ_cons];by_cases hl:r.length<k
    .rw[ax hl,ax (by lia)]
     congr 1
     exact dS _ _ _
    .rw[ay hl,ay (eB (dQ hl)),show p+1+k=p+(k+1)from(dS _ _ _)]
end Um
namespace Hm
open Sw
def numAt(kp p:Nat)(b:Bytes):Except Fault (Nat×Nat):=match varyOf p b with
 | .error e=>.error e
 | .ok (z,l)=>if NUMBER<z / 2 then .error ⟨4,kp⟩else match someOf (p+l) (z / 2) (b.drop l)with
  | .error e=>.error e
  | .ok m=>if m.getLast? =some 0\/z=1 then .error ⟨4,kp⟩else .ok (l,z / 2)
def strAt(text:Bool)(p:Nat)(b:Bytes):Except Fault (Nat×Nat):=match varyOf p b with
 | .error e=>.error e
 | .ok (n,l)=>match someOf (p+l) n (b.drop l)with
  | .error e=>.error e
  | .ok m=>if text=true then(match textOf (p+l) m with
    | .error e=>.error e
    | .ok _=>.ok (n,l))else .ok (n,l)
def nameAt(prev:Option Bytes)(p:Nat)(b:Bytes):Except Fault (Nat×Nat):=match varyOf p b with
 | .error e=>.error e
 | .ok (k,l)=>if k=0\/NAME<k then .error ⟨6,p⟩else match someOf (p+l) k (b.drop l)with
  | .error e=>.error e
  | .ok m=>match textOf (p+l) m with
   | .error e=>.error e
   | .ok _=>if(match prev with
     | some q=>bytesBefore q m
     | none=>true)=false then .error ⟨6,p⟩else .ok (k,l)
theorem fg{p n:Nat}{b m:Bytes}(h:someOf p n b =.ok m):n<=b.length/\m=b.take n:=by
 unfold someOf at h;split at h
 .cases h
 .rename_i hl
  injection h with h;exact⟨(bg hl),h.symm⟩
theorem some_of{p n:Nat}{b:Bytes}(h:n<=b.length):someOf p n b =.ok (b.take n):=by
 unfold someOf;rw[ay (eB h)]
theorem some_no{p n:Nat}{b:Bytes}(h:b.length<n):someOf p n b =.error ⟨1,p+b.length⟩:=by
 unfold someOf;rw[ax h]
theorem last_of{b:Bytes}{n:Nat}(h:n<=b.length)(hn:0<n):(b.take n).getLast? =b[n-1]?:=by
 rw[cO,aP,cI h,br (by omega)]
end Hm
namespace Pm
open Sw Hm
structure PD where
 kind:Nat
 place:Nat
 ins:Nat
 fin:Nat
 size:Nat
 depth:Nat
 np:Nat
 nl:Nat
inductive PT where
 | node (d:PD) (ms:List PT)
def PT.d:PT->PD
 | .node d _=>d
def PT.ms:PT->List PT
 | .node _ ms=>ms
def PT.nm(t:PT)(np nl:Nat):PT:=.node { t.d with np:=np,nl:=nl } t.ms
def headAt(lv p:Nat)(b:Bytes):Except Fault (Nat×Nat×Nat×Nat):=match b with
 | []=>.error ⟨1,p⟩
 | k::r=>if 8<k.toNat then .error ⟨2,p⟩else if DEEP<lv then .error ⟨7,p⟩
  else if k.toNat=2 then(match numAt p (p+1) r with
   | .error e=>.error e
   | .ok (l,h)=>.ok (k.toNat,0,1+l,1+l+h))
  else if k.toNat=3\/k.toNat=4 then(match strAt (decide (k.toNat=4)) (p+1) r with
   | .error e=>.error e
   | .ok (n,l)=>.ok (k.toNat,n,1+l,1+l+n))
  else if k.toNat=5\/k.toNat=6 then(match varyOf (p+1) r with
   | .error e=>.error e
   | .ok (n,l)=>.ok (k.toNat,n,1+l,1+l))
  else if k.toNat=7 then(match someOf (p+1) 8 r with
   | .error e=>.error e
   | .ok _=>.ok (k.toNat,0,1,9))
  else if k.toNat=8 then(match someOf (p+1) 32 r with
   | .error e=>.error e
   | .ok _=>.ok (k.toNat,0,1,33))
  else .ok (k.toNat,0,1,1)
def nmAt(named:Bool)(prev:Option Bytes)(p:Nat)(b:Bytes):Except Fault (Nat×Nat):=if named=true then Hm.nameAt prev p b else .ok (0,0)
mutual
noncomputable def vAt:Nat->Nat->Nat->Bytes->Except Fault (PT×Nat)
 | 0,_,p,b=>.error ⟨1,p+b.length⟩
 | f+1,lv,p,b=>match headAt lv p b with
  | .error e=>.error e
  | .ok (k,n,i,u)=>if k=5\/k=6 then(match rAt f lv (decide (k=6)) n none (p+u) (b.drop u)with
    | .error e=>.error e
    | .ok (ms,dp,used)=>.ok (.node ⟨k,p,p+i,p+u+used,n,dp+1,0,0⟩ ms,u+used))
   else .ok (.node ⟨k,p,p+i,p+u,n,1,0,0⟩ [],u)
noncomputable def rAt:Nat->Nat->Bool->Nat->Option Bytes->Nat->Bytes->Except Fault (List PT×Nat×Nat)
 | 0,_,_,_,_,p,b=>.error ⟨1,p+b.length⟩
 | _+1,_,_,0,_,_,_=>.ok ([],0,0)
 | f+1,lv,named,n+1,prev,p,b=>match nmAt named prev p b with
  | .error e=>.error e
  | .ok (k,l)=>match vAt f (lv+1) (p+l+k) (b.drop (l+k))with
   | .error e=>.error e
   | .ok (t,u)=>match rAt f lv named n (some ((b.drop l).take k)) (p+l+k+u) (b.drop (l+k+u))with
    | .error e=>.error e
    | .ok (ms,dp,used)=>.ok (t.nm (if named=true then p+l else 0) k::ms,max t.d.depth dp,l+k+u+used)
end
theorem wm{kp p l' u:Nat}{b:Bytes}(h:numAt kp p b =.ok (l',u)):1<=l'/\l'+u<=b.length:=by
 unfold numAt at h;cases ev:varyOf p b with
 | error e=>rw[ev]at h;cases h
 | ok x =>
  obtain⟨z,l⟩:=x
  rw[ev]at h;obtain⟨u1,u2,u3,u4⟩:=Vm.vary_used ev
  dsimp only at h;split at h
  .cases h
  .cases es:someOf (p+l) (z / 2) (b.drop l)with
   | error e=>rw[es]at h;cases h
   | ok m =>
    rw[es]at h;obtain⟨s1,s2⟩:=fg es
    rw[aD]at s1;dsimp only at h;split at h
    .cases h
    .injection h with h;injection h with h1 h2;lia
theorem vI{t:Bool}{p n u:Nat}{b:Bytes}(h:strAt t p b =.ok (n,u)):1<=u/\u+n<=b.length:=by
 unfold strAt at h;cases ev:varyOf p b with
 | error e=>rw[ev]at h;cases h
 | ok x =>
  obtain⟨z,l⟩:=x
  rw[ev]at h;obtain⟨u1,u2,u3,u4⟩:=Vm.vary_used ev
  dsimp only at h;cases es:someOf (p+l) z (b.drop l)with
  | error e=>rw[es]at h;cases h
  | ok m =>
   rw[es]at h;obtain⟨s1,s2⟩:=fg es
   rw[aD]at s1;dsimp only at h;have fin:(Except.ok (z,l):Except Fault (Nat×Nat)) =.ok (n,u)->1<=u/\u+n<=b.length:=λh=>by
    injection h with h;injection h with h1 h2;lia
   cases t with
   | false=>exact fin h
   | true =>
    rw[ax rfl]at h;cases et:textOf (p+l) m with
    | error e=>rw[et]at h;cases h
    | ok t=>rw[et]at h;exact fin h
theorem name_used{prev:Option Bytes}{p k l:Nat}{b:Bytes}(h:Hm.nameAt prev p b =.ok (k,l)):l+k<=b.length/\1<=k/\k<=255/\1<=l:=by
 unfold Hm.nameAt at h;cases ev:varyOf p b with
 | error e=>rw[ev]at h;cases h
 | ok x =>
  obtain⟨z,l'⟩:=x
  rw[ev]at h;obtain⟨u1,u2,u3,u4⟩:=Vm.vary_used ev
  dsimp only at h;split at h
  .cases h
  .rename_i hz
   have Jz:¬(z=0\/255<z):=hz
   cases es:someOf (p+l') z (b.drop l')with
   | error e=>rw[es]at h;cases h
   | ok m =>
    rw[es]at h;obtain⟨s1,s2⟩:=fg es
    rw[aD]at s1;dsimp only at h;cases et:textOf (p+l') m with
    | error e=>rw[et]at h;cases h
    | ok t =>
     rw[et]at h;dsimp only at h;have fin:(Except.ok (z,l'):Except Fault (Nat×Nat)) =.ok (k,l)->l+k<=b.length/\1<=k/\k<=255/\1<=l:=λh=>by
      injection h with h;injection h with h1 h2;lia
     cases prev with
     | none=>exact fin h
     | some q0 =>
      dsimp only at h;by_cases hb:bytesBefore q0 m=false
      .rw[ax hb]at h;cases h
      .rw[ay hb]at h;exact fin h
theorem nm_used{named:Bool}{prev:Option Bytes}{p k l:Nat}{b:Bytes}(h:nmAt named prev p b =.ok (k,l)):l+k<=b.length/\k<=255:=by
 unfold nmAt at h;cases named with
 | true =>
  rw[ax rfl]at h;have:=name_used h
  lia
 | false =>
  rw[ay aT]at h;injection h with h;injection h with h1 h2;lia
theorem head_used{lv p k n i u:Nat}{b:Bytes}(h:headAt lv p b =.ok (k,n,i,u)):1<=u/\u<=b.length/\k<=8:=by
 unfold headAt at h;cases b with
 | nil=>cases h
 | cons c r =>
  dsimp only at h;rw[ao];split at h
  .cases h
  .rename_i h8
   split at h
   .cases h
   .split at h
    .cases e:numAt p (p+1) r with
     | error e'=>rw[e]at h;cases h
     | ok x =>
      obtain⟨x1,x2⟩:=x
      rw[e]at h;have:=wm e
      injection h with h;injection h with h1 h2;injection h2 with h2 h3;injection h3 with h3 h4;lia
    .split at h
     .cases e:strAt (decide (c.toNat=4)) (p+1) r with
      | error e'=>rw[e]at h;cases h
      | ok x =>
       obtain⟨x1,x2⟩:=x
       rw[e]at h;have:=vI e
       injection h with h;injection h with h1 h2;injection h2 with h2 h3;injection h3 with h3 h4;lia
     .split at h
      .cases e:varyOf (p+1) r with
       | error e'=>rw[e]at h;cases h
       | ok x =>
        obtain⟨x1,x2⟩:=x
        rw[e]at h;have:=Vm.vary_used e
        injection h with h;injection h with h1 h2;injection h2 with h2 h3;injection h3 with h3 h4;lia
      .split at h
       .cases e:someOf (p+1) 8 r with
        | error e'=>rw[e]at h;cases h
        | ok x =>
         rw[e]at h;have:=(fg e).1
         injection h with h;injection h with h1 h2;injection h2 with h2 h3;injection h3 with h3 h4;lia
       .split at h
        .cases e:someOf (p+1) 32 r with
         | error e'=>rw[e]at h;cases h
         | ok x =>
          rw[e]at h;have:=(fg e).1
          injection h with h;injection h with h1 h2;injection h2 with h2 h3;injection h3 with h3 h4;lia
        .injection h with h;injection h with h1 h2;injection h2 with h2 h3;injection h3 with h3 h4;lia
mutual
theorem nG:∀(f lv p:Nat)(b:Bytes){t:PT}{u:Nat},vAt f lv p b =.ok (t,u)->1<=u/\u<=b.length/\1<=t.d.depth
 | 0,_,p,b,_,_,h=>by unfold vAt at h;cases h
 | f+1,lv,p,b,t,u,h=>by
  unfold vAt at h;cases eh:headAt lv p b with
  | error e=>rw[eh]at h;cases h
  | ok x =>
   obtain⟨k,n,i,u'⟩:=x
   rw[eh]at h;obtain⟨h1,h2,h3⟩:=head_used eh
   dsimp only at h;by_cases hk:k=5\/k=6
   .rw[ax hk]at h;cases er:rAt f lv (decide (k=6)) n none (p+u') (b.drop u')with
    | error e=>rw[er]at h;cases h
    | ok y =>
     obtain⟨Iv,dp,used⟩:=y
     rw[er]at h;have hr:=rAt_used f lv _ _ _ _ _ er
     rw[aD]at hr;injection h with h;injection h with e1 e2;subst e1;dsimp only[PT.d];lia
   .rw[ay hk]at h;injection h with h;injection h with e1 e2;subst e1;dsimp only[PT.d];lia
termination_by structural f=>f
theorem rAt_used:∀(f lv:Nat)(named:Bool)(n:Nat)(prev:Option Bytes)(p:Nat)(b:Bytes){ms:List PT}{dp u:Nat},rAt f lv named n prev p b =.ok (ms,dp,u)->u<=b.length
 | 0,_,_,_,_,p,b,_,_,_,h=>by unfold rAt at h;cases h
 | f+1,lv,named,0,prev,p,b,ms,dp,u,h=>by
  unfold rAt at h;injection h with h;injection h with e1 e2;injection e2 with e2 e3;exact leL e3 (aX _)
 | f+1,lv,named,n+1,prev,p,b,ms,dp,u,h=>by
  unfold rAt at h;cases en:nmAt named prev p b with
  | error e=>rw[en]at h;cases h
  | ok x =>
   obtain⟨k,l⟩:=x
   rw[en]at h;have hn:=nm_used en
   dsimp only at h;cases ev:vAt f (lv+1) (p+l+k) (b.drop (l+k))with
   | error e=>rw[ev]at h;cases h
   | ok y =>
    obtain⟨t,u1⟩:=y
    rw[ev]at h;have hv:=nG f _ _ _ ev
    rw[aD]at hv;dsimp only at h;cases er:rAt f lv named n (some ((b.drop l).take k)) (p+l+k+u1) (b.drop (l+k+u1))with
    | error e=>rw[er]at h;cases h
    | ok z =>
     obtain⟨Y1,Zq,u2⟩:=z
     rw[er]at h;have hr:=rAt_used f lv _ _ _ _ _ er
     rw[aD]at hr;injection h with h;injection h with e1 e2;injection e2 with e2 e3;lia
termination_by structural f=>f
end
mutual
theorem nI:∀(f g lv p:Nat)(b:Bytes),2*b.length+1<=f->2*b.length+1<=g->vAt f lv p b=vAt g lv p b
 | 0,_,_,_,_,h,_=>by lia
 | _+1,0,_,_,_,_,h=>by lia
 | f+1,g+1,lv,p,b,hf,hg=>by
  unfold vAt;cases eh:headAt lv p b with
  | error e=>rfl
  | ok x =>
   obtain⟨k,n,i,u⟩:=x
   obtain⟨h1,h2,_⟩:=head_used eh
   dsimp only;by_cases hk:k=5\/k=6
   .rw[ax hk,ax hk,rAt_fuel f g lv (decide (k=6)) n none (p+u) (b.drop u) (by rw[aD];lia) (by rw[aD];lia)]
   .rw[ay hk,ay hk]
termination_by structural f=>f
theorem rAt_fuel:∀(f g lv:Nat)(named:Bool)(n:Nat)(prev:Option Bytes)(p:Nat)(b:Bytes),2*b.length+2<=f->2*b.length+2<=g->rAt f lv named n prev p b=rAt g lv named n prev p b
 | 0,_,_,_,_,_,_,_,h,_=>by lia
 | _+1,0,_,_,_,_,_,_,_,h=>by lia
 | f+1,g+1,lv,named,0,prev,p,b,hf,hg=>by unfold rAt;rfl
 | f+1,g+1,lv,named,n+1,prev,p,b,hf,hg=>by
  unfold rAt;cases en:nmAt named prev p b with
  | error e=>rfl
  | ok x =>
   obtain⟨k,l⟩:=x
   have hn:=nm_used en
   dsimp only;rw[nI f g (lv+1) (p+l+k) (b.drop (l+k)) (by rw[aD];lia) (by rw[aD];lia)]
   cases ev:vAt g (lv+1) (p+l+k) (b.drop (l+k))with
   | error e=>rfl
   | ok y =>
    obtain⟨t,u1⟩:=y
    have hv:=nG g _ _ _ ev
    rw[aD]at hv;dsimp only;rw[rAt_fuel f g lv named n (some ((b.drop l).take k)) (p+l+k+u1) (b.drop (l+k+u1)) (by rw[aD];omega) (by rw[aD];omega)]
termination_by structural f=>f
end
def Vw(lv p:Nat)(b:Bytes):Except Fault (PT×Nat):=vAt (2*b.length+1) lv p b
def Rw(lv:Nat)(named:Bool)(n:Nat)(prev:Option Bytes)(p:Nat)(b:Bytes):Except Fault (List PT×Nat×Nat):=rAt (2*b.length+2) lv named n prev p b
theorem zh(lv p:Nat)(b:Bytes):Vw lv p b=match headAt lv p b with
  | .error e=>.error e
  | .ok (k,n,i,u)=>if k=5\/k=6 then(match Rw lv (decide (k=6)) n none (p+u) (b.drop u)with
    | .error e=>.error e
    | .ok (ms,dp,used)=>.ok (.node ⟨k,p,p+i,p+u+used,n,dp+1,0,0⟩ ms,u+used))
   else .ok (.node ⟨k,p,p+i,p+u,n,1,0,0⟩ [],u):=by
 unfold Vw Rw;conv=>lhs;unfold vAt
 cases eh:headAt lv p b with
 | error e=>rfl
 | ok x =>
  obtain⟨k,n,i,u⟩:=x
  obtain⟨h1,h2,_⟩:=head_used eh
  dsimp only;rw[rAt_fuel (2*b.length) (2*(b.drop u).length+2) lv (decide (k=6)) n none (p+u) (b.drop u) (by rw[aD];lia) (aF _)]
theorem qK(lv:Nat)(named:Bool)(prev:Option Bytes)(p:Nat)(b:Bytes):Rw lv named 0 prev p b =.ok ([],0,0):=by
 unfold Rw rAt;rfl
theorem yW(lv:Nat)(named:Bool)(n:Nat)(prev:Option Bytes)(p:Nat)(b:Bytes):Rw lv named (n+1) prev p b=match nmAt named prev p b with
  | .error e=>.error e
  | .ok (k,l)=>match Vw (lv+1) (p+l+k) (b.drop (l+k))with
   | .error e=>.error e
   | .ok (t,u)=>match Rw lv named n (some ((b.drop l).take k)) (p+l+k+u) (b.drop (l+k+u))with
    | .error e=>.error e
    | .ok (ms,dp,used)=>.ok (t.nm (if named=true then p+l else 0) k::ms,max t.d.depth dp,l+k+u+used):=by
 unfold Vw Rw;conv=>lhs;unfold rAt
 cases en:nmAt named prev p b with
 | error e=>rfl
 | ok x =>
  obtain⟨k,l⟩:=x
  have hn:=nm_used en
  dsimp only;rw[nI (2*b.length+1) (2*(b.drop (l+k)).length+1) (lv+1) (p+l+k) (b.drop (l+k)) (by rw[aD];lia) (aF _)]
  cases ev:vAt (2*(b.drop (l+k)).length+1) (lv+1) (p+l+k) (b.drop (l+k))with
  | error e=>rfl
  | ok y =>
   obtain⟨t,u1⟩:=y
   have hv:=nG _ _ _ _ ev
   rw[aD]at hv;dsimp only;rw[rAt_fuel (2*b.length+1) (2*(b.drop (l+k+u1)).length+2) lv named n (some ((b.drop l).take k)) (p+l+k+u1) (b.drop (l+k+u1)) (by rw[aD];omega) (aF _)]
theorem iL{lo hi x p y:Nat}{b r:Bytes}(h:follow 0 lo hi x p b =.ok (y,r)):y=x/\r=b:=by
 unfold follow at h;injection h with h;injection h with h1 h2;exact⟨h1.symm,h2.symm⟩
theorem gd{k lo hi x p y:Nat}{b r:Bytes}(h:follow (k+1) lo hi x p b =.ok (y,r)):∃(c:UInt8)(b':Bytes),b=c::b'/\lo<=c.toNat/\c.toNat<=hi/\follow k 128 191 (64*x+c.toNat % 64) (p+1) b' =.ok (y,r):=by
 cases b with
 | nil=>unfold follow at h;cases h
 | cons c b =>
  unfold follow at h;by_cases hc:lo<=c.toNat/\c.toNat<=hi
  .rw[ax hc]at h;exact⟨c,b,rfl,hc.1,hc.2,h⟩
  .rw[ay hc]at h;cases h
theorem wQ{c:Nat}(h:Um.cf c≠0):(Um.cf c=1/\194<=c/\c<=223)\/(Um.cf c=2/\224<=c/\c<=239)\/(Um.cf c=3/\240<=c/\c<=244):=by
 unfold Um.cf at h |-;by_cases h1:194<=c/\c<=223
 .rw[ax h1];exact .inl ⟨rfl,h1⟩
 .rw[ay h1]at h |-;by_cases h2:224<=c/\c<=239
  .rw[ax h2];exact .inr (.inl ⟨rfl,h2⟩)
  .rw[ay h2]at h |-;by_cases h3:240<=c/\c<=244
   .rw[ax h3];exact .inr (.inr ⟨rfl,h3⟩)
   .rw[ay h3]at h;exact aW rfl h
theorem of_eq{n:Nat}{c:UInt8}(h:n=c.toNat):UInt8.ofNat n=c:=by rw[h,UInt8.ofNat_toNat]
theorem vh(x:Nat){d:Nat}(h:d<64):(64*x+d) / 64=x/\(64*x+d) % 64=d:=by lia
theorem m64{b:Nat}(h:128<=b/\b<=191):∃d,d<64/\b=128+d/\b % 64=d:=⟨b-128,by omega,by omega,by omega⟩
theorem se2{y a b:Nat}(ha:194<=a/\a<=223)(hb:128<=b/\b<=191)(e:y=64*(a % 32)+b % 64):¬y<128/\y<2048/\0xC0+y / 64=a/\0x80+y % 64=b:=by
 obtain⟨d,hd,rfl,ed⟩:=m64 hb
 obtain⟨x,rfl,ex,h1,h2⟩:∃x,a=192+x/\a % 32=x/\2<=x/\x<32:=⟨a-192,by omega,by omega,by omega,by omega⟩
 rw[ed,ex]at e;obtain⟨q1,q2⟩:=vh x hd
 subst e;rw[q1,q2];clear q1 q2 ed ex ha hb;exact⟨by lia,by lia,rfl,rfl⟩
theorem se3{y a b c:Nat}(ha:224<=a/\a<=239)(hb:128<=b/\b<=191)(hc:128<=c/\c<=191)(k1:a=224->160<=b)(k2:a=237->b<=159)(e:y=64*(64*(a % 16)+b % 64)+c % 64) :
  ¬y<2048/\y<65536/\0xE0+y / 4096=a/\0x80+y / 64 % 64=b/\0x80+y % 64=c/\(y<55296\/(57344<=y/\y<=1114111)):=by
 obtain⟨d,hd,rfl,ed⟩:=m64 hb
 obtain⟨g,hg,rfl,eg⟩:=m64 hc
 obtain⟨x,rfl,ex,h2⟩:∃x,a=224+x/\a % 16=x/\x<16:=⟨a-224,by omega,by omega,by omega⟩
 rw[ed,eg,ex]at e;obtain⟨q1,q2⟩:=vh (64*x+d) hg
 obtain⟨q3,q4⟩:=vh x hd
 subst e;rw[show(64*(64*x+d)+g) / 4096=(64*(64*x+d)+g) / 64 / 64 from(cQ _ 64 64).symm,q1,q2,q3,q4];clear q1 q2 q3 q4 ed eg ex ha hb hc;exact⟨by lia,by lia,rfl,rfl,rfl,by lia⟩
theorem se4{y a b c z:Nat}(ha:240<=a/\a<=244)(hb:128<=b/\b<=191)(hc:128<=c/\c<=191)(hz:128<=z/\z<=191)(k1:a=240->144<=b)(k2:a=244->b<=143)(e:y=64*(64*(64*(a % 8)+b % 64)+c % 64)+z % 64) :
  ¬y<65536/\0xF0+y / 262144=a/\0x80+y / 4096 % 64=b/\0x80+y / 64 % 64=c/\0x80+y % 64=z/\(y<55296\/(57344<=y/\y<=1114111)):=by
 obtain⟨d,hd,rfl,ed⟩:=m64 hb
 obtain⟨g,hg,rfl,eg⟩:=m64 hc
 obtain⟨i,hi,rfl,ei⟩:=m64 hz
 obtain⟨x,rfl,ex,h2⟩:∃x,a=240+x/\a % 8=x/\x<5:=⟨a-240,by omega,by omega,by omega⟩
 rw[ed,eg,ei,ex]at e;obtain⟨q1,q2⟩:=vh (64*(64*x+d)+g) hi
 obtain⟨q3,q4⟩:=vh (64*x+d) hg
 obtain⟨q5,q6⟩:=vh x hd
 subst e;rw[show(64*(64*(64*x+d)+g)+i) / 262144=(64*(64*(64*x+d)+g)+i) / 64 / 64 / 64 by rw[cQ,cQ],show(64*(64*(64*x+d)+g)+i) / 4096=(64*(64*(64*x+d)+g)+i) / 64 / 64 from(cQ _ 64 64).symm,q1,q2,q3,q4,q5,q6]
 clear q1 q2 q3 q4 q5 q6 ed eg ei ex ha hb hc hz;exact⟨by lia,rfl,rfl,rfl,rfl,by lia⟩
theorem wA{y m n:Nat}(h:¬y<n)(k:m<=n):¬y<m:=λz=>h (aR z k)
theorem sM{p y:Nat}{b r:Bytes}(h:scalarAt p b =.ok (y,r)):b=utf8One y++r/\isScalar y=true:=by
 unfold scalarAt at h;cases b with
 | nil=>cases h
 | cons c0 b =>
  dsimp only at h;have hl:=Um.leads_eq c0.toNat c0.toNat_lt
  by_cases h1:c0.toNat<128
  .rw[ax h1]at hl;rw[hl]at h;obtain⟨e1,e2⟩:=iL h
   have e1:y=c0.toNat:=e1
   subst e1 e2;unfold utf8One isScalar;rw[ax h1,of_eq rfl,ah (show c0.toNat<55296 by lia)]
   exact⟨rfl,rfl⟩
  .rw[ay h1]at hl;by_cases h2:Um.cf c0.toNat=0
   .rw[ax h2]at hl;rw[hl]at h;cases h
   .rw[ay h2]at hl;rw[hl]at h;dsimp only at h;have Hl:∀{y:Nat},(y<55296\/(57344<=y/\y<=1114111))->isScalar y=true:=λ{y} q=>by
     unfold isScalar;rcases q with q | q
     .rw[ah q];rfl
     .rw[ah q.1,ah q.2];simp
    rcases wQ h2 with⟨f1,f2,f3⟩ | ⟨f1,f2,f3⟩ | ⟨f1,f2,f3⟩
    .rw[f1]at h;obtain⟨c1,b1,rfl,l1,u1,h⟩:=gd h
     obtain⟨e1,e2⟩:=iL h
     subst e2;have m1:128<=c1.toNat/\c1.toNat<=191:=by
      unfold Um.ls at l1;unfold Um.hs at u1;rw[ay (by lia),ay (by lia)]at l1 u1
      exact⟨l1,u1⟩
     simp only[firstBits]at e1;obtain⟨g1,g2,g3,g4⟩:=se2 ⟨f2,f3⟩ m1 e1
     refine⟨?_,Hl (.inl (aR g2 (by decide)))⟩
     unfold utf8One;rw[ay g1,ax g2,of_eq g3,of_eq g4];rfl
    .rw[f1]at h;obtain⟨c1,b1,rfl,l1,u1,h⟩:=gd h
     obtain⟨c2,b2,rfl,l2,u2,h⟩:=gd h
     obtain⟨e1,e2⟩:=iL h
     subst e2;have m1:128<=c1.toNat/\c1.toNat<=191/\(c0.toNat=224->160<=c1.toNat)/\(c0.toNat=237->c1.toNat<=159):=by
      unfold Um.ls at l1;unfold Um.hs at u1;by_cases q1:c0.toNat=224
      .rw[ax q1]at l1;rw[ay (by lia),ay (by lia)]at u1
       lia
      .rw[ay q1,ay (bG (bO f3))]at l1;by_cases q2:c0.toNat=237
       .rw[ax q2]at u1;lia
       .rw[ay q2,ay (by lia)]at u1
        lia
     simp only[firstBits]at e1;obtain⟨g1,g2,g3,g4,g5,g6⟩:=se3 ⟨f2,f3⟩ ⟨m1.1,m1.2.1⟩ ⟨l2,u2⟩ m1.2.2.1 m1.2.2.2 e1
     refine⟨?_,Hl g6⟩
     unfold utf8One;rw[ay (wA g1 (by decide)),ay g1,ax g2,of_eq g3,of_eq g4,of_eq g5]
     rfl
    .rw[f1]at h;obtain⟨c1,b1,rfl,l1,u1,h⟩:=gd h
     obtain⟨c2,b2,rfl,l2,u2,h⟩:=gd h
     obtain⟨c3,b3,rfl,l3,u3,h⟩:=gd h
     obtain⟨e1,e2⟩:=iL h
     subst e2;have m1:128<=c1.toNat/\c1.toNat<=191/\(c0.toNat=240->144<=c1.toNat)/\(c0.toNat=244->c1.toNat<=143):=by
      unfold Um.ls at l1;unfold Um.hs at u1;rw[ay (by lia)]at l1 u1
      by_cases q1:c0.toNat=240
      .rw[ax q1]at l1;rw[ay (by lia)]at u1
       lia
      .rw[ay q1]at l1;by_cases q2:c0.toNat=244
       .rw[ax q2]at u1;lia
       .rw[ay q2]at u1;lia
     simp only[firstBits]at e1;obtain⟨g1,g2,g3,g4,g5,g6⟩:=se4 ⟨f2,f3⟩ ⟨m1.1,m1.2.1⟩ ⟨l2,u2⟩ ⟨l3,u3⟩ m1.2.2.1 m1.2.2.2 e1
     refine⟨?_,Hl g6⟩
     unfold utf8One;rw[ay (wA g1 (by decide)),ay (wA g1 (by decide)),ay g1,of_eq g2,of_eq g3,of_eq g4,of_eq g5]
     rfl
theorem mz:∀(f p:Nat)(b:Bytes){t:List Nat},scalarsFrom f p b =.ok t->utf8 t=b/\t.all isScalar=true
 | 0,p,[],t,h=>by
  unfold scalarsFrom at h;injection h with h;subst h;exact⟨rfl,rfl⟩
 | f+1,p,[],t,h=>by
  unfold scalarsFrom at h;injection h with h;subst h;exact⟨rfl,rfl⟩
 | 0,p,c::b,t,h=>by unfold scalarsFrom at h;cases h
 | f+1,p,c::b,t,h=>by
  unfold scalarsFrom at h;cases e:scalarAt p (c::b)with
  | error q=>rw[e]at h;cases h
  | ok x =>
   obtain⟨y,r⟩:=x
   rw[e]at h;dsimp only at h;obtain⟨s1,s2⟩:=sM e
   cases e2:scalarsFrom f (p+((c::b).length-r.length)) r with
   | error q=>rw[e2]at h;cases h
   | ok l =>
    rw[e2]at h;have h':(Except.ok (y::l):Except Nat (List Nat)) =.ok t:=h
    injection h' with h'
    subst h'
    obtain⟨i1,i2⟩:=mz f _ r e2
    refine⟨?_,by rw[gW,s2,i2];rfl⟩
    unfold utf8 at i1 |-;rw[List.flatMap_cons,i1,<-s1]
theorem qV{p:Nat}{b:Bytes}{t:List Nat}(h:textOf p b =.ok t):utf8 t=b/\t.all isScalar=true:=by
 unfold textOf scalars at h;cases e:scalarsFrom b.length p b with
 | error q=>rw[e]at h;cases h
 | ok l =>
  rw[e]at h;injection h with h;subst h;exact mz _ _ _ e
theorem kZ:∀(k lo hi x p p':Nat)(b:Bytes){z:Nat×Bytes},follow k lo hi x p b =.ok z->follow k lo hi x p' b =.ok z
 | 0,_,_,_,_,_,_,z,h=>by unfold follow at h |-;exact h
 | k+1,_,_,_,_,_,[],z,h=>by unfold follow at h;cases h
 | k+1,lo,hi,x,p,p',c::b,z,h=>by
  unfold follow at h |-;by_cases hc:lo<=c.toNat/\c.toNat<=hi
  .rw[ax hc]at h |-;exact kZ k _ _ _ _ _ b h
  .rw[ay hc]at h;cases h
theorem nQ:∀(f p p':Nat)(b:Bytes){t:List Nat},scalarsFrom f p b =.ok t->scalarsFrom f p' b =.ok t
 | 0,p,p',[],t,h=>by unfold scalarsFrom at h |-;exact h
 | f+1,p,p',[],t,h=>by unfold scalarsFrom at h |-;exact h
 | 0,p,p',c::b,t,h=>by unfold scalarsFrom at h;cases h
 | f+1,p,p',c::b,t,h=>by
  unfold scalarsFrom at h |-;cases e:scalarAt p (c::b)with
  | error q=>rw[e]at h;cases h
  | ok x =>
   have e':scalarAt p' (c::b) =.ok x:=by
    unfold scalarAt at e |-;dsimp only at e |-;cases hl:leads c.toNat with
    | none=>rw[hl]at e;cases e
    | some y =>
     obtain⟨k,lo,hi⟩:=y
     rw[hl]at e;exact kZ _ _ _ _ _ _ _ e
   obtain⟨y,r⟩:=x
   rw[e]at h;rw[e'];dsimp only at h |-;cases e2:scalarsFrom f (p+((c::b).length-r.length)) r with
   | error q=>rw[e2]at h;cases h
   | ok l =>
    rw[e2]at h;rw[nQ f _ (p'+((c::b).length-r.length)) r e2];exact h
theorem uK{p:Nat}{b:Bytes}{t:List Nat}(h:textOf p b =.ok t):scalars 0 b =.ok t:=by
 unfold textOf scalars at h;unfold scalars;cases e:scalarsFrom b.length p b with
 | error q=>rw[e]at h;cases h
 | ok l =>
  rw[e]at h;injection h with h;subst h;exact nQ _ _ _ _ e
theorem qO:∀(h:Bytes)(c:UInt8),Vm.High h->c.toNat<128->(0<h.length->c≠0)->vary (Vm.val (h++[c]))=h++[c]
 | [],c,_,hc,_=>by
  have e:Vm.val ([]++[c])=c.toNat:=by
   show c.toNat % 128+128*0=c.toNat
   lia
  rw[e];unfold vary;rw[ax hc,of_eq rfl];rfl
 | x::h,c,hh,hc,hz=>by
  have ih:=qO h c (λd hd=>hh d (by simp[hd])) hc λξ=>hz (by rw[ao];exact a8 _ _)
  have Qi:=hh x (by simp)
  have e:Vm.val (x::h++[c])=x.toNat % 128+128*Vm.val (h++[c]):=rfl
  have c0:c≠0:=hz (by rw[ao];exact a8 _ _)
  have c1:0<c.toNat:=by
   apply Nat.pos_of_ne_zero
   intro z;exact c0 (UInt8.toNat_inj.mp z)
  have pos:0<Vm.val (h++[c]):=by
   rw[Vm.val_snoc];have:0<c.toNat % 128*128 ^ h.length:=Nat.mul_pos (by lia) (Nat.pow_pos (by decide))
   exact aR this (a8 _ _)
  have hx:x.toNat % 128<128:=Nat.mod_lt _ (by decide)
  have Iz:=x.toNat_lt
  rw[e];unfold vary;rw[ay (by lia)]
  have d:(x.toNat % 128+128*Vm.val (h++[c])) / 128=Vm.val (h++[c]):=by lia
  rw[d,ih,of_eq (show 128+(x.toNat % 128+128*Vm.val (h++[c])) % 128=x.toNat by lia)]
  rfl
theorem iu{p n l:Nat}{b:Bytes}(h:varyOf p b =.ok (n,l)):vary n=b.take l:=by
 unfold varyOf at h;simp only at h;generalize hh:((b.take 5).takeWhile λ(c:UInt8)=>decide (128<=c.toNat))=t at h
 by_cases h5:t.length=5
 .rw[ax h5]at h;cases h
 .rw[ay h5]at h;split at h
  .cases h
  .rename_i c r hd
   split at h
   .cases h
   .rename_i hn
    split at h
    .cases h
    .injection h with h;injection h with h1 h2;subst h1 h2;have ht:t.length<=5:=by
      rw[<-hh];exact bH (List.takeWhile_sublist _).length_le (by rw[aP];exact Nat.min_le_left _ _)
     have hb:b=t++c::r:=by
      have p1:t <+:b.take 5:=by rw[<-hh];exact List.takeWhile_prefix _
      have p2:t <+:b:=p1.trans (List.take_prefix _ _)
      obtain⟨s,hs⟩:=p2
      rw[<-hs,eE]at hd;rw[<-hs,hd]
     have J6:Vm.High t:=λd hd=>by
      rw[<-hh]at hd;exact of_decide_eq_true (dU.mp List.all_takeWhile d hd)
     have hc:c.toNat<128:=by
      apply dQ
      intro hle;have e:b.take 5=t++c::r.take (4-t.length):=by
       rw[hb,jf,cC ht,show 5-t.length=(4-t.length)+1 by lia,fU]
      rw[e,List.takeWhile_append]at hh;split at hh
      .rename_i q
       rw[fV,ax (ah hle)]at hh;have:=congrArg List.length hh
       simp at this
      .rename_i q
       apply q
       rw[hh]
     have e2:b.take (t.length+1)=t++[c]:=by
      rw[hb,jf,cC (b8 _ _),show t.length+1-t.length=1 from(d6 _ _)];rfl
     rw[e2];exact qO t c J6 hc λz=>λz2=>hn ⟨z,z2⟩
theorem gc{p n l:Nat}{b:Bytes}(h:varyOf p b =.ok (n,l)):(vary n).length=l:=by
 have u:=Vm.vary_used h
 rw[iu h,aP];lia
theorem le_succ(k n:Nat):le (k+1) n=UInt8.ofNat (n % 256)::le k (n / 256):=by
 unfold le;rw[List.range_succ_eq_map,bj,eT];congr 1
 .rw[Nat.pow_zero,Nat.div_one]
 .apply List.map_congr_left
  intro i _;show UInt8.ofNat (n / 256 ^ (i+1) % 256)=UInt8.ofNat (n / 256 / 256 ^ i % 256)
  rw[gu,Nat.mul_comm,<-cQ]
theorem qt:∀(m:Bytes),le m.length (ofLe m)=m
 | []=>rfl
 | c::m=>by
  have e:ofLe (c::m)=c.toNat+256*ofLe m:=rfl
  have c2:=c.toNat_lt
  rw[ao,le_succ,e,of_eq (show(c.toNat+256*ofLe m) % 256=c.toNat by lia),show(c.toNat+256*ofLe m) / 256=ofLe m by lia,qt m]
theorem qm:∀(m:Bytes),ofLe m<256 ^ m.length
 | []=>by decide
 | c::m=>by
  have e:ofLe (c::m)=c.toNat+256*ofLe m:=rfl
  have c2:=c.toNat_lt
  have ih:=qm m
  rw[e,ao,gu];lia
theorem oR:∀(m:Bytes),m.getLast?≠some 0->amountLength (ofLe m)=m.length/\(m≠[]->0<ofLe m)
 | [],_=>by
  refine⟨?_,λz=>aW rfl z⟩
  show amountLength 0=0
  unfold amountLength;rfl
 | [c],h=>by
  have c0:c≠0:=λz=>h (by rw[z];rfl)
  have c1:0<c.toNat:=Nat.pos_of_ne_zero λz=>c0 (UInt8.toNat_inj.mp z)
  have c2:=c.toNat_lt
  have e:ofLe [c]=c.toNat:=by
   show c.toNat+256*0=c.toNat
   exact rfl
  rw[e];refine⟨?_,λξ=>c1⟩
  unfold amountLength;rw[ay (fj c1),show c.toNat / 256=0 by lia]
  unfold amountLength;rfl
 | c::d::m,h=>by
  have ih:=oR (d::m) (by rw[gf]at h;exact h)
  have e:ofLe (c::d::m)=c.toNat+256*ofLe (d::m):=rfl
  have pos:=ih.2 (by simp)
  have c2:=c.toNat_lt
  rw[e];refine⟨?_,λξ=>by lia⟩
  unfold amountLength;rw[ay (by lia),show(c.toNat+256*ofLe (d::m)) / 256=ofLe (d::m)by lia,ih.1]
  rfl
def p8(z:Int):Nat:=2*amountLength z.natAbs+if z<0 then 1 else 0
theorem rG{z:Nat}{m:Bytes}(hm:m.length=z / 2)(h0:¬(m.getLast? =some 0\/z=1)) :
  p8 (if z % 2=1 then -(ofLe m:Int)else(ofLe m:Int))=z/\(if z % 2=1 then -(ofLe m:Int)else(ofLe m:Int)).natAbs=ofLe m/\amountLength (ofLe m)=m.length:=by
 have a:=oR m λq=>h0 (.inl q)
 have na:(if z % 2=1 then -(ofLe m:Int)else(ofLe m:Int)).natAbs=ofLe m:=by split<;>lia
 refine⟨?_,na,a.1⟩
 unfold p8;rw[na,a.1,hm];by_cases hz:z % 2=1
 .have BH:m≠[]:=λq=>by
   rw[q]at hm;have:z / 2=0:=hm.symm
   exact h0 (.inr (by lia))
  have:=a.2 BH
  rw[ax hz,ax (by omega)]
  lia
 .rw[ay hz,ay (jg (cV _))];lia
theorem vX(f lv:Nat)(named:Bool)(n:Nat)(prev:Option Bytes)(p:Nat)(b:Bytes):rowAt (f+1) lv named (n+1) prev p b=match nmAt named prev p b with
  | .error e=>.error e
  | .ok (k,l)=>match valueAt f (lv+1) (p+l+k) (b.drop (l+k))with
   | .error e=>.error e
   | .ok (v,u)=>match rowAt f lv named n (some ((b.drop l).take k)) (p+l+k+u) (b.drop (l+k+u))with
    | .error e=>.error e
    | .ok (m,u2)=>.ok (.cons ((b.drop l).take k) v m,l+k+u+u2):=by
 have tail:∀(name:Bytes)(l:Nat),(Except.bind (valueAt f (lv+1) (p+l) (b.drop l)) λx=>Except.bind (rowAt f lv named n (some name) (p+l+x.2) (b.drop (l+x.2))) λy=>(Except.ok (Row.cons name x.1 y.1,l+x.2+y.2):Except Fault (Row×Nat)))
   =match valueAt f (lv+1) (p+l) (b.drop l)with
   | .error e=>.error e
   | .ok (v,u)=>match rowAt f lv named n (some name) (p+l+u) (b.drop (l+u))with
    | .error e=>.error e
    | .ok (m,u2)=>.ok (.cons name v m,l+u+u2):=λname l=>by
  cases ev:valueAt f (lv+1) (p+l) (b.drop l)with
  | error e=>rfl
  | ok x =>
   obtain⟨v,u⟩:=x
   simp only[Except.bind];cases er:rowAt f lv named n (some name) (p+l+u) (b.drop (l+u))with
   | error e=>rfl
   | ok y=>rfl
 conv=>lhs;unfold rowAt
 unfold nmAt;cases named with
 | false =>
  have t0:=tail [] 0
  exact t0
 | true =>
  unfold Hm.nameAt;cases ev:varyOf p b with
  | error e=>rfl
  | ok x =>
   obtain⟨k,l⟩:=x
   simp only[bind,Except.bind,if_true];by_cases hk:k=0\/NAME<k
   .simp only[ax hk]
   .simp only[ay hk];cases es:someOf (p+l) k (b.drop l)with
    | error e=>rfl
    | ok m =>
     simp only;obtain⟨_,em⟩:=fg es
     subst em;cases et:textOf (p+l) ((b.drop l).take k)with
     | error e=>rfl
     | ok t =>
      have t0:=tail ((b.drop l).take k) (l+k)
      have e:p+l+k=p+(l+k):=bh ..
      cases prev with
      | none =>
       simp only[Bool.true_eq_false,if_false];rw[e];exact t0
      | some q0 =>
       simp only;by_cases hb:bytesBefore q0 ((b.drop l).take k)=false
       .simp only[ax hb]
       .simp only[ay hb];rw[e];exact t0
def VG(lv:Nat)(b:Bytes)(v:Value)(n:Nat):Prop:=v.enc=b.take n/\n<=b.length/\v.plain=true/\v.deep+lv<=65
def nU(prev:Option Bytes)(l:List Bytes):Bool:=match prev with
 | some q=>rising (q::l)
 | none=>rising l
def RG(lv:Nat)(named:Bool)(n:Nat)(prev:Option Bytes)(b:Bytes)(m:Row)(u:Nat):Prop:=m.enc named=b.take u/\u<=b.length/\m.length=n/\m.plain=true/\(lv<=64->m.deep+lv<=64) /\
 (named=false->m.names.all (λ(x:Bytes)=>x==[])=true)/\(named=true->m.names.all nameOk=true/\nU prev m.names=true)
theorem f6{k:UInt8}{r:Bytes}{n:Nat}:(k::r).take (1+n)=k::r.take n:=by rw[dj 1 n];rfl
theorem wq{named:Bool}{prev:Option Bytes}{p k l:Nat}{b:Bytes}(h:nmAt named prev p b =.ok (k,l)) :
  ((b.drop l).take k).length=k/\l+k<=b.length/\(if named=true then vary ((b.drop l).take k).length++(b.drop l).take k else[])=b.take (l+k)/\(named=true->l=(vary k).length/\1<=k/\nameOk ((b.drop l).take k)=true/\(∀q,prev=some q->bytesBefore q ((b.drop l).take k)=true))/\(named=false->k=0/\l=0):=by
 have u:=nm_used h
 have hl:((b.drop l).take k).length=k:=by rw[aP,aD];lia
 refine⟨hl,u.1,?_⟩
 unfold nmAt at h;cases named with
 | false =>
  rw[ay aT]at h;injection h with h;injection h with h1 h2;subst h1 h2;exact⟨rfl,λz=>Bool.noConfusion z,λξ=>⟨rfl,rfl⟩⟩
 | true =>
  rw[ax rfl]at h;have nu:=name_used h
  unfold Hm.nameAt at h;cases ev:varyOf p b with
  | error e=>rw[ev]at h;cases h
  | ok x =>
   obtain⟨z,l'⟩:=x
   rw[ev]at h;dsimp only at h;split at h
   .cases h
   .cases es:someOf (p+l') z (b.drop l')with
    | error e=>rw[es]at h;cases h
    | ok m =>
     rw[es]at h;obtain⟨s1,s2⟩:=fg es
     dsimp only at h;cases et:textOf (p+l') m with
     | error e=>rw[et]at h;cases h
     | ok t =>
      rw[et]at h;dsimp only at h;have fin:(Except.ok (z,l'):Except Fault (Nat×Nat)) =.ok (k,l)->(∀q,prev=some q->bytesBefore q m=true)->(if true=true then vary ((b.drop l).take k).length++(b.drop l).take k else[])=b.take (l+k)/\(true=true->l=(vary k).length/\1<=k/\nameOk ((b.drop l).take k)=true/\(∀q,prev=some q->bytesBefore q ((b.drop l).take k)=true))/\(true=false->k=0/\l=0):=λh hq=>by
       injection h with h;injection h with h1 h2;subst h1 h2;subst s2;refine⟨?_,λξ=>⟨(gc ev).symm,nu.2.1,?_,hq⟩,λz=>Bool.noConfusion z⟩
       .rw[ax rfl,hl,iu ev,eW]
       .unfold nameOk;rw[hl,uK et,ah nu.2.1,ah (show z<=NAME from nu.2.2.1)];rfl
      cases prev with
      | none=>exact fin h λq z=>by cases z
      | some q0 =>
       dsimp only at h;by_cases hb:bytesBefore q0 m=false
       .rw[ax hb]at h;cases h
       .rw[ay hb]at h;refine fin h λq z=>?_
        injection z with z;subst z;cases hq:bytesBefore q0 m with
        | true=>rfl
        | false=>exact aW hq hb
mutual
theorem tQ:∀(f lv p:Nat)(b:Bytes){v:Value}{n:Nat},valueAt f lv p b =.ok (v,n)->VG lv b v n
 | 0,lv,p,b,v,n,h=>by unfold valueAt at h;cases h
 | f+1,lv,p,[],v,n,h=>by unfold valueAt at h;cases h
 | f+1,lv,p,k::r,v,n,h=>by
  unfold valueAt at h;simp only at h;by_cases h8:8<k.toNat
  .rw[ax h8]at h;cases h
  .rw[ay h8]at h;by_cases hd:DEEP<lv
   .rw[ax hd]at h;cases h
   .rw[ay hd]at h;have HH:lv<=64:=bg hd
    have hk:k.toNat=0\/k.toNat=1\/k.toNat=2\/k.toNat=3\/k.toNat=4\/k.toNat=5\/k.toNat=6\/k.toNat=7\/k.toNat=8:=by lia
    have ke:∀{c:Nat},k.toNat=c->UInt8.ofNat c=k:=λq=>of_eq q.symm
    have d1:∀{w:Value},w.deep=1->w.deep+lv<=65:=λq=>by rw[q];exact leL (dj _ _) (bO HH)
    rcases hk with hk | hk | hk | hk | hk | hk | hk | hk | hk
    .simp only[hk]at h;cases h;rw[<-ke hk];exact⟨rfl,by rw[ao];exact a8 _ _,rfl,d1 rfl⟩
    .simp only[hk]at h;cases h;rw[<-ke hk];exact⟨rfl,by rw[ao];exact a8 _ _,rfl,d1 rfl⟩
    .simp only[hk]at h;cases ev:varyOf (p+1) r with
     | error e=>rw[ev]at h;cases h
     | ok x =>
      obtain⟨z,l⟩:=x
      rw[ev]at h;have vu:=Vm.vary_used ev
      simp only[bind,Except.bind]at h;by_cases hz:NUMBER<z / 2
      .rw[ax hz]at h;cases h
      .rw[ay hz]at h;cases es:someOf (p+1+l) (z / 2) (r.drop l)with
       | error e=>rw[es]at h;cases h
       | ok m =>
        rw[es]at h;simp only at h;obtain⟨s1,s2⟩:=fg es
        rw[aD]at s1;by_cases hm:m.getLast? =some 0\/z=1
        .rw[ax hm]at h;cases h
        .rw[ay hm]at h;injection h with h;injection h with h1 h2;subst h1 h2;have ml:m.length=z / 2:=by rw[s2,aP,aD];lia
         obtain⟨t1,t2,t3⟩:=rG ml hm
         refine⟨?_,by rw[ao];lia,?_,d1 rfl⟩
         .show 2::(vary (p8 _)++le (amountLength (Int.natAbs _)) (Int.natAbs _))=_
          rw[t1,t2,t3,qt,iu ev,bh,f6,eW,<-s2,<-ke hk];rfl
         .have key:∀N:Nat,m.length<=N->ofLe m<256 ^ N:=λN q=>aR (qm m) (Nat.pow_le_pow_right (by decide) q)
          unfold Value.plain;rw[t2];exact ah (key NUMBER (by rw[ml];exact bg hz))
    .simp only[hk]at h;cases ev:varyOf (p+1) r with
     | error e=>rw[ev]at h;cases h
     | ok x =>
      obtain⟨z,l⟩:=x
      rw[ev]at h;have vu:=Vm.vary_used ev
      simp only[bind,Except.bind]at h;cases es:someOf (p+1+l) z (r.drop l)with
      | error e=>rw[es]at h;cases h
      | ok m =>
       rw[es]at h;obtain⟨s1,s2⟩:=fg es
       rw[aD]at s1;injection h with h;injection h with h1 h2;subst h1 h2;have hl:m.length=z:=by rw[s2,aP,aD];lia
       refine⟨?_,by rw[ao];lia,rfl,d1 rfl⟩
       show 3::(vary m.length++m)=_
       rw[hl,iu ev,bh,f6,eW,<-s2,<-ke hk];rfl
    .simp only[hk]at h;cases ev:varyOf (p+1) r with
     | error e=>rw[ev]at h;cases h
     | ok x =>
      obtain⟨z,l⟩:=x
      rw[ev]at h;have vu:=Vm.vary_used ev
      simp only[bind,Except.bind]at h;cases es:someOf (p+1+l) z (r.drop l)with
      | error e=>rw[es]at h;cases h
      | ok m =>
       rw[es]at h;simp only at h;obtain⟨s1,s2⟩:=fg es
       rw[aD]at s1;cases et:textOf (p+1+l) m with
       | error e=>rw[et]at h;cases h
       | ok t =>
        rw[et]at h;injection h with h;injection h with h1 h2;subst h1 h2;have hl:m.length=z:=by rw[s2,aP,aD];lia
        obtain⟨t1,t2⟩:=qV et
        refine⟨?_,by rw[ao];lia,t2,d1 rfl⟩
        show 4::(vary (utf8 t).length++utf8 t)=_
        rw[t1,hl,iu ev,bh,f6,eW,<-s2,<-ke hk];rfl
    .simp only[hk]at h;cases ev:varyOf (p+1) r with
     | error e=>rw[ev]at h;cases h
     | ok x =>
      obtain⟨z,l⟩:=x
      rw[ev]at h;have vu:=Vm.vary_used ev
      simp only[bind,Except.bind]at h;cases er:rowAt f lv false z none (p+1+l) (r.drop l)with
      | error e=>rw[er]at h;cases h
      | ok y =>
       obtain⟨m,u⟩:=y
       rw[er]at h;injection h with h;injection h with h1 h2;subst h1 h2;obtain⟨e1,e2,e3,e4,e5,e6,e7⟩:=r_enc f lv false z none _ _ er
       rw[aD]at e2;refine⟨?_,by rw[ao];lia,?_,by have:=e5 HH;show m.deep+1+lv<=65;exact leL (dS _ _ _) (bO this)⟩
       .show 5::(vary m.length++m.enc false)=_
        rw[e3,e1,iu ev,bh,f6,eW,<-ke hk];rfl
       .show(m.plain&&m.names.all _)=true
        rw[e4,e6 rfl];rfl
    .simp only[hk]at h;cases ev:varyOf (p+1) r with
     | error e=>rw[ev]at h;cases h
     | ok x =>
      obtain⟨z,l⟩:=x
      rw[ev]at h;have vu:=Vm.vary_used ev
      simp only[bind,Except.bind]at h;cases er:rowAt f lv true z none (p+1+l) (r.drop l)with
      | error e=>rw[er]at h;cases h
      | ok y =>
       obtain⟨m,u⟩:=y
       rw[er]at h;injection h with h;injection h with h1 h2;subst h1 h2;obtain⟨e1,e2,e3,e4,e5,e6,e7⟩:=r_enc f lv true z none _ _ er
       rw[aD]at e2;refine⟨?_,by rw[ao];lia,?_,by have:=e5 HH;show m.deep+1+lv<=65;exact leL (dS _ _ _) (bO this)⟩
       .show 6::(vary m.length++m.enc true)=_
        rw[e3,e1,iu ev,bh,f6,eW,<-ke hk];rfl
       .show(m.plain&&(m.names.all _&&rising m.names))=true
        rw[e4,(e7 rfl).1,show rising m.names=true from(e7 rfl).2];rfl
    .simp only[hk]at h;cases es:someOf (p+1) 8 r with
     | error e=>rw[es]at h;cases h
     | ok m =>
      rw[es]at h;obtain⟨s1,s2⟩:=fg es
      injection h with h;injection h with h1 h2;subst h1 h2;have ml:m.length=8:=by rw[s2,aP];lia
      have lt:=qm m
      rw[ml]at lt;have lt:ofLe m<18446744073709551616:=lt
      have e1:(signed64 (ofLe m) % ((2 ^ 64:Nat):Int)).toNat=ofLe m:=by
       show(signed64 (ofLe m) % 18446744073709551616).toNat=ofLe m
       unfold signed64;by_cases q:ofLe m<2 ^ 63
       .rw[ax q];lia
       .rw[ay q];show(((ofLe m:Int)-18446744073709551616) % 18446744073709551616).toNat=ofLe m
        omega
      refine⟨?_,by rw[ao];exact bO s1,?_,d1 rfl⟩
      .show 7::le 8 _=_
       rw[e1,<-ml,qt,show(9:Nat)=1+8 from rfl,f6,<-s2,<-ke hk];rfl
      .show(decide _&&decide _)=true
       unfold signed64;have YX:(2 ^ 63:Nat)=9223372036854775808:=rfl
       have YW:(2 ^ 64:Nat)=18446744073709551616:=rfl
       by_cases q:ofLe m<2 ^ 63
       .rw[ax q,ah (by lia),ah (by lia)]
        rfl
       .rw[ay q,ah (by lia),ah (by lia)]
        rfl
    .simp only[hk]at h;cases es:someOf (p+1) 32 r with
     | error e=>rw[es]at h;cases h
     | ok m =>
      rw[es]at h;obtain⟨s1,s2⟩:=fg es
      injection h with h;injection h with h1 h2;subst h1 h2;have ml:m.length=32:=by rw[s2,aP];lia
      refine⟨?_,by rw[ao];exact bO s1,?_,d1 rfl⟩
      .show 8::m=_
       rw[show(33:Nat)=1+32 from rfl,f6,<-s2,<-ke hk];rfl
      .show(m.length==32)=true
       rw[ml];rfl
termination_by structural f=>f
theorem r_enc:∀(f lv:Nat)(named:Bool)(n:Nat)(prev:Option Bytes)(p:Nat)(b:Bytes){m:Row}{u:Nat},rowAt f lv named n prev p b =.ok (m,u)->RG lv named n prev b m u
 | 0,lv,named,n,prev,p,b,m,u,h=>by unfold rowAt at h;cases h
 | f+1,lv,named,0,prev,p,b,m,u,h=>by
  unfold rowAt at h;cases h;refine⟨by rw[eD];rfl,aX _,rfl,rfl,λz=>by show 0+lv<=64;exact fE z (aX _),λξ=>rfl,λξ=>⟨rfl,?_⟩⟩
  cases prev<;>rfl
 | f+1,lv,named,n+1,prev,p,b,m,u,h=>by
  rw[vX]at h;cases en:nmAt named prev p b with
  | error e=>rw[en]at h;cases h
  | ok x =>
   obtain⟨k,l⟩:=x
   rw[en]at h;simp only at h;obtain⟨n1,n2,n3,n4,n5⟩:=wq en
   cases ev:valueAt f (lv+1) (p+l+k) (b.drop (l+k))with
   | error e=>rw[ev]at h;cases h
   | ok y =>
    obtain⟨v,u1⟩:=y
    rw[ev]at h;simp only at h;obtain⟨e1,e2,e3,e4⟩:=tQ f _ _ _ ev
    rw[aD]at e2;cases er:rowAt f lv named n (some ((b.drop l).take k)) (p+l+k+u1) (b.drop (l+k+u1))with
    | error e=>rw[er]at h;cases h
    | ok z =>
     obtain⟨m',u2⟩:=z
     rw[er]at h;injection h with h;injection h with h1 h2;subst h1 h2;obtain⟨r1,r2,r3,r4,r5,r6,r7⟩:=r_enc f lv named n _ _ _ er
     rw[aD]at r2;refine⟨?_,by lia,by show m'.length+1=n+1;rw[r3],by show(v.plain&&m'.plain)=true;rw[e3,r4];rfl,λz=>?_,λz=>?_,λz=>?_⟩
     .show(if named=true then vary ((b.drop l).take k).length++(b.drop l).take k else[])++(v.enc++m'.enc named)=_
      rw[n3,e1,r1,bh (l+k),eW (i:=l+k),eW (i:=u1),cy]
     .have:=r5 z
      show max v.deep m'.deep+lv<=64
      lia
     .show((b.drop l).take k::m'.names).all _=true
      rw[gW,r6 z,(n5 z).1,eD];rfl
     .obtain⟨a1,a2,a3,a4⟩:=n4 z
      obtain⟨b1,b2⟩:=r7 z
      refine⟨?_,?_⟩
      .show((b.drop l).take k::m'.names).all _=true
       rw[gW,b1,a3];rfl
      .show nU prev ((b.drop l).take k::m'.names)=true
       cases prev with
       | none=>exact b2
       | some q =>
        show(bytesBefore q ((b.drop l).take k)&&rising ((b.drop l).take k::m'.names))=true
        rw[a4 q rfl];exact b2
termination_by structural f=>f
end
def ioff:Value->Nat
 | .num z=>1+(vary (p8 z)).length
 | .bytes b=>1+(vary b.length).length
 | .text t=>1+(vary (utf8 t).length).length
 | .list m=>1+(vary m.length).length
 | .rec_ m=>1+(vary m.length).length
 | _=>1
def lY(named:Bool)(n:Bytes):Nat:=if named=true then(vary n.length).length+n.length else 0
def pdOf(v:Value)(p np nl:Nat):PD:=⟨v.kind,p,p+ioff v,p+v.enc.length,Values.countOf v,v.deep,np,nl⟩
mutual
noncomputable def trV:Value->Nat->Nat->Nat->PT
 | .list m,p,np,nl=>.node (pdOf (.list m) p np nl) (trR m false (p+ioff (.list m)))
 | .rec_ m,p,np,nl=>.node (pdOf (.rec_ m) p np nl) (trR m true (p+ioff (.rec_ m)))
 | .no,p,np,nl=>.node (pdOf .no p np nl) []
 | .yes,p,np,nl=>.node (pdOf .yes p np nl) []
 | .num z,p,np,nl=>.node (pdOf (.num z) p np nl) []
 | .bytes b,p,np,nl=>.node (pdOf (.bytes b) p np nl) []
 | .text t,p,np,nl=>.node (pdOf (.text t) p np nl) []
 | .moment z,p,np,nl=>.node (pdOf (.moment z) p np nl) []
 | .id b,p,np,nl=>.node (pdOf (.id b) p np nl) []
noncomputable def trR:Row->Bool->Nat->List PT
 | .nil,_,_=>[]
 | .cons n v r,named,p=>trV v (p+lY named n) (if named=true then p+(vary n.length).length else 0) n.length::trR r named (p+lY named n+v.enc.length)
end
def trM:Value->Nat->List PT
 | .list m,p=>trR m false (p+ioff (.list m))
 | .rec_ m,p=>trR m true (p+ioff (.rec_ m))
 | _,_=>[]
theorem trV_eq(v:Value)(p np nl:Nat):trV v p np nl =.node (pdOf v p np nl) (trM v p):=by
 cases v<;>(unfold trV;rfl)
theorem kH(n:Bytes)(v:Value)(r:Row)(named:Bool)(p:Nat):trR (.cons n v r) named p=trV v (p+lY named n) (if named=true then p+(vary n.length).length else 0) n.length::trR r named (p+lY named n+v.enc.length):=by
 rw[trR]
theorem p7(named:Bool)(p:Nat):trR .nil named p=[]:=by
 rw[trR]
theorem zp(v:Value)(p np nl D0 E5:Nat):(trV v p np nl).nm D0 E5=trV v p D0 E5:=by
 rw[trV_eq,trV_eq];rfl
mutual
theorem y9:∀(f lv p:Nat)(b:Bytes),match valueAt f lv p b with
  | .error e=>vAt f lv p b =.error e
  | .ok (v,n)=>vAt f lv p b =.ok (trV v p 0 0,n)
 | 0,lv,p,b=>by
  unfold valueAt vAt;rfl
 | f+1,lv,p,[]=>by
  unfold valueAt vAt headAt;rfl
 | f+1,lv,p,k::r=>by
  have Dz:=@tQ (f+1) lv p (k::r)
  revert Dz
  unfold valueAt vAt headAt;simp only;by_cases h8:8<k.toNat
  .rw[ax h8,ax h8];intro _;rfl
  .rw[ay h8,ay h8];by_cases hd:DEEP<lv
   .rw[ax hd,ax hd];intro _;rfl
   .rw[ay hd,ay hd];have hk:k.toNat=0\/k.toNat=1\/k.toNat=2\/k.toNat=3\/k.toNat=4\/k.toNat=5\/k.toNat=6\/k.toNat=7\/k.toNat=8:=by lia
    rcases hk with hk | hk | hk | hk | hk | hk | hk | hk | hk
    .simp only[hk];intro _;rfl
    .simp only[hk];intro _;rfl
    .simp only[hk];unfold numAt;cases ev:varyOf (p+1) r with
     | error e=>intro _;rfl
     | ok x =>
      obtain⟨z,l⟩:=x
      simp only[bind,Except.bind];by_cases hz:NUMBER<z / 2
      .rw[ax hz,ax hz];intro _;rfl
      .rw[ay hz,ay hz];cases es:someOf (p+1+l) (z / 2) (r.drop l)with
       | error e=>intro _;rfl
       | ok m =>
        simp only;obtain⟨s1,s2⟩:=fg es
        by_cases hm:m.getLast? =some 0\/z=1
        .rw[ax hm,ax hm];intro _;rfl
        .rw[ay hm,ay hm];intro Dz;obtain⟨v1,v2,_⟩:=Dz rfl
         have ml:m.length=z / 2:=by rw[s2,aP];lia
         obtain⟨t1,t2,t3⟩:=rG ml hm
         have el:=congrArg List.length v1
         rw[aP,cI v2]at el;have D5:pdOf (.num (if z % 2=1 then -(ofLe m:Int)else(ofLe m:Int))) p 0 0=⟨2,p,p+(1+l),p+(1+l+z / 2),0,1,0,0⟩:=by
          show(⟨2,p,p+(1+(vary (p8 _)).length),p+(Value.enc _).length,0,1,0,0⟩:PD)=_
          rw[t1,gc ev,el]
         simp only;rw[trV_eq,D5];rfl
    .simp only[hk];unfold strAt;cases ev:varyOf (p+1) r with
     | error e=>intro _;rfl
     | ok x =>
      obtain⟨z,l⟩:=x
      simp only[bind,Except.bind];cases es:someOf (p+1+l) z (r.drop l)with
      | error e=>intro _;rfl
      | ok m =>
       obtain⟨s1,s2⟩:=fg es
       intro Dz;obtain⟨v1,v2,_⟩:=Dz rfl
       have el:=congrArg List.length v1
       rw[aP,cI v2]at el;have ml:m.length=z:=by rw[s2,aP];lia
       have D5:pdOf (.bytes m) p 0 0=⟨3,p,p+(1+l),p+(1+l+z),z,1,0,0⟩:=by
        show(⟨3,p,p+(1+(vary m.length).length),p+(Value.enc _).length,m.length,1,0,0⟩:PD)=_
        rw[el,ml,gc ev]
       simp only;rw[trV_eq,D5];rfl
    .simp only[hk];unfold strAt;cases ev:varyOf (p+1) r with
     | error e=>intro _;rfl
     | ok x =>
      obtain⟨z,l⟩:=x
      simp only[bind,Except.bind];cases es:someOf (p+1+l) z (r.drop l)with
      | error e=>intro _;rfl
      | ok m =>
       obtain⟨s1,s2⟩:=fg es
       simp only;cases et:textOf (p+1+l) m with
       | error e=>simp only[et];intro _;rfl
       | ok t =>
        obtain⟨t1,_⟩:=qV et
        simp only[et];intro Dz;obtain⟨v1,v2,_⟩:=Dz rfl
        have el:=congrArg List.length v1
        rw[aP,cI v2]at el;have ml:(utf8 t).length=z:=by rw[t1,s2,aP];lia
        have D5:pdOf (.text t) p 0 0=⟨4,p,p+(1+l),p+(1+l+z),z,1,0,0⟩:=by
         show(⟨4,p,p+(1+(vary (utf8 t).length).length),p+(Value.enc _).length,(utf8 t).length,1,0,0⟩:PD)=_
         rw[el,ml,gc ev]
        rw[trV_eq,D5];rfl
    .simp only[hk];cases ev:varyOf (p+1) r with
     | error e=>intro _;rfl
     | ok x =>
      obtain⟨z,l⟩:=x
      simp only[bind,Except.bind];have ih:=r_rel f lv false z none (p+1+l) (r.drop l)
      have ed:(k::r).drop (1+l)=r.drop l:=by rw[dj 1 l];rfl
      cases er:rowAt f lv false z none (p+1+l) (r.drop l)with
      | error e =>
       rw[er]at ih;have ih:rAt f lv false z none (p+1+l) (r.drop l) =.error e:=ih
       intro _;show(match rAt f lv false z none (p+(1+l)) ((k::r).drop (1+l))with
        | .error e=>.error e
        | .ok (ms,dp,used)=>.ok (.node ⟨5,p,p+(1+l),p+(1+l)+used,z,dp+1,0,0⟩ ms,1+l+used):Except Fault (PT×Nat))=_
       rw[ed,<-bh,ih]
      | ok y =>
       obtain⟨m,u⟩:=y
       rw[er]at ih;have ih:rAt f lv false z none (p+1+l) (r.drop l) =.ok (trR m false (p+1+l),m.deep,u):=ih
       intro Dz;obtain⟨v1,v2,_⟩:=Dz rfl
       have el:=congrArg List.length v1
       rw[aP,cI v2]at el;obtain⟨_,_,e3,_⟩:=r_enc f lv false z none _ _ er
       show(match rAt f lv false z none (p+(1+l)) ((k::r).drop (1+l))with
        | .error e=>.error e
        | .ok (ms,dp,used)=>.ok (.node ⟨5,p,p+(1+l),p+(1+l)+used,z,dp+1,0,0⟩ ms,1+l+used):Except Fault (PT×Nat))=_
       have D5:pdOf (.list m) p 0 0=⟨5,p,p+1+l,p+1+l+u,z,m.deep+1,0,0⟩:=by
        show(⟨5,p,p+(1+(vary m.length).length),p+(Value.enc _).length,m.length,m.deep+1,0,0⟩:PD)=_
        rw[el,e3,gc ev,<-bh,<-bh,<-bh]
       have Ew:trM (.list m) p=trR m false (p+1+l):=by
        show trR m false (p+(1+(vary m.length).length))=_
        rw[e3,gc ev,<-bh]
       rw[ed,<-bh,ih,trV_eq,D5,Ew]
    .simp only[hk];cases ev:varyOf (p+1) r with
     | error e=>intro _;rfl
     | ok x =>
      obtain⟨z,l⟩:=x
      simp only[bind,Except.bind];have ih:=r_rel f lv true z none (p+1+l) (r.drop l)
      have ed:(k::r).drop (1+l)=r.drop l:=by rw[dj 1 l];rfl
      cases er:rowAt f lv true z none (p+1+l) (r.drop l)with
      | error e =>
       rw[er]at ih;have ih:rAt f lv true z none (p+1+l) (r.drop l) =.error e:=ih
       intro _;show(match rAt f lv true z none (p+(1+l)) ((k::r).drop (1+l))with
        | .error e=>.error e
        | .ok (ms,dp,used)=>.ok (.node ⟨6,p,p+(1+l),p+(1+l)+used,z,dp+1,0,0⟩ ms,1+l+used):Except Fault (PT×Nat))=_
       rw[ed,<-bh,ih]
      | ok y =>
       obtain⟨m,u⟩:=y
       rw[er]at ih;have ih:rAt f lv true z none (p+1+l) (r.drop l) =.ok (trR m true (p+1+l),m.deep,u):=ih
       intro Dz;obtain⟨v1,v2,_⟩:=Dz rfl
       have el:=congrArg List.length v1
       rw[aP,cI v2]at el;obtain⟨_,_,e3,_⟩:=r_enc f lv true z none _ _ er
       show(match rAt f lv true z none (p+(1+l)) ((k::r).drop (1+l))with
        | .error e=>.error e
        | .ok (ms,dp,used)=>.ok (.node ⟨6,p,p+(1+l),p+(1+l)+used,z,dp+1,0,0⟩ ms,1+l+used):Except Fault (PT×Nat))=_
       have D5:pdOf (.rec_ m) p 0 0=⟨6,p,p+1+l,p+1+l+u,z,m.deep+1,0,0⟩:=by
        show(⟨6,p,p+(1+(vary m.length).length),p+(Value.enc _).length,m.length,m.deep+1,0,0⟩:PD)=_
        rw[el,e3,gc ev,<-bh,<-bh,<-bh]
       have Ew:trM (.rec_ m) p=trR m true (p+1+l):=by
        show trR m true (p+(1+(vary m.length).length))=_
        rw[e3,gc ev,<-bh]
       rw[ed,<-bh,ih,trV_eq,D5,Ew]
    .simp only[hk];cases es:someOf (p+1) 8 r with
     | error e=>intro _;rfl
     | ok m =>
      intro Dz;obtain⟨v1,v2,_⟩:=Dz rfl
      have el:=congrArg List.length v1
      rw[aP,cI v2]at el;have D5:pdOf (.moment (signed64 (ofLe m))) p 0 0=⟨7,p,p+1,p+9,0,1,0,0⟩:=by
       show(⟨7,p,p+1,p+(Value.enc _).length,0,1,0,0⟩:PD)=_
       rw[el]
      show _=Except.ok (trV (.moment (signed64 (ofLe m))) p 0 0,9)
      rw[trV_eq,D5];rfl
    .simp only[hk];cases es:someOf (p+1) 32 r with
     | error e=>intro _;rfl
     | ok m =>
      intro Dz;obtain⟨v1,v2,_⟩:=Dz rfl
      have el:=congrArg List.length v1
      rw[aP,cI v2]at el;have D5:pdOf (.id m) p 0 0=⟨8,p,p+1,p+33,0,1,0,0⟩:=by
       show(⟨8,p,p+1,p+(Value.enc _).length,0,1,0,0⟩:PD)=_
       rw[el]
      show _=Except.ok (trV (.id m) p 0 0,33)
      rw[trV_eq,D5];rfl
termination_by structural f=>f
theorem r_rel:∀(f lv:Nat)(named:Bool)(n:Nat)(prev:Option Bytes)(p:Nat)(b:Bytes),match rowAt f lv named n prev p b with
  | .error e=>rAt f lv named n prev p b =.error e
  | .ok (m,u)=>rAt f lv named n prev p b =.ok (trR m named p,m.deep,u)
 | 0,lv,named,n,prev,p,b=>by
  unfold rowAt rAt;rfl
 | f+1,lv,named,0,prev,p,b=>by
  unfold rowAt rAt;rfl
 | f+1,lv,named,n+1,prev,p,b=>by
  rw[vX];unfold rAt;cases en:nmAt named prev p b with
  | error e=>rfl
  | ok x =>
   obtain⟨k,l⟩:=x
   simp only;obtain⟨n1,n2,n3,n4,n5⟩:=wq en
   have ih:=y9 f (lv+1) (p+l+k) (b.drop (l+k))
   cases ev:valueAt f (lv+1) (p+l+k) (b.drop (l+k))with
   | error e =>
    rw[ev]at ih;have ih:vAt f (lv+1) (p+l+k) (b.drop (l+k)) =.error e:=ih
    simp only[ih]
   | ok y =>
    obtain⟨v,u⟩:=y
    rw[ev]at ih;have ih:vAt f (lv+1) (p+l+k) (b.drop (l+k)) =.ok (trV v (p+l+k) 0 0,u):=ih
    simp only[ih];obtain⟨e1,e2,_⟩:=tQ f _ _ _ ev
    have el:=congrArg List.length e1
    rw[aP,cI e2]at el;have E7:=r_rel f lv named n (some ((b.drop l).take k)) (p+l+k+u) (b.drop (l+k+u))
    cases er:rowAt f lv named n (some ((b.drop l).take k)) (p+l+k+u) (b.drop (l+k+u))with
    | error e =>
     rw[er]at E7;have E7:rAt f lv named n (some ((b.drop l).take k)) (p+l+k+u) (b.drop (l+k+u)) =.error e:=E7
     simp only[E7]
    | ok z =>
     obtain⟨m,u2⟩:=z
     rw[er]at E7;have E7:rAt f lv named n (some ((b.drop l).take k)) (p+l+k+u) (b.drop (l+k+u)) =.ok (trR m named (p+l+k+u),m.deep,u2):=E7
     simp only[E7];have hd:(trV v (p+l+k) 0 0).d.depth=v.deep:=by rw[trV_eq];rfl
     have no:lY named ((b.drop l).take k)=l+k:=by
      unfold lY;cases named with
      | true=>rw[ax rfl,n1,<-(n4 rfl).1]
      | false =>
       obtain⟨q1,q2⟩:=n5 rfl
       rw[ay aT,q1,q2]
     have np:(if named=true then p+l else 0)=(if named=true then p+(vary k).length else 0):=by
      cases named with
      | true=>rw[ax rfl,ax rfl,(n4 rfl).1]
      | false=>rfl
     rw[zp,hd,kH,n1,el,no,np,<-bh p l k];rfl
termination_by structural f=>f
end
def isRec(d:PD):Bool:=decide (d.kind=6)
def need(d:PD):Nat:=if d.kind=5\/d.kind=6 then d.size else 0
def prevOf(bs:Bytes)(mem:List PT):Option Bytes:=match mem.getLast? with
 | none=>none
 | some m=>some ((bs.drop m.d.np).take m.d.nl)
def fin(bs:Bytes):List (PD×List PT)->PD->List PT->Nat->Except Fault (PT×Nat)
 | [],d,mem,p=>match Rw 1 (isRec d) (need d-mem.length) (prevOf bs mem) p (bs.drop p)with
  | .error e=>.error e
  | .ok (ms,dp,u)=>.ok (.node { d with fin:=p+u,depth:=max d.depth (dp+1) } (mem++ms),p+u)
 | (dh,mh)::rest,d,mem,p=>match Rw (rest.length+2) (isRec d) (need d-mem.length) (prevOf bs mem) p (bs.drop p)with
  | .error e=>.error e
  | .ok (ms,dp,u)=>fin bs rest { dh with depth:=max dh.depth (max d.depth (dp+1)+1) } (mh++[.node { d with fin:=p+u,depth:=max d.depth (dp+1) } (mem++ms)]) (p+u)
def up(bs:Bytes)(rest:List (PD×List PT))(d:PD)(mem:List PT)(p:Nat):Except Fault (PT×Nat):=match rest with
 | []=>.ok (.node d mem,p)
 | (dh,mh)::r=>fin bs r { dh with depth:=max dh.depth (d.depth+1) } (mh++[.node d mem]) p
theorem oG(bs:Bytes)(rest:List (PD×List PT))(d:PD)(mem:List PT)(p:Nat):fin bs rest d mem p=match Rw (rest.length+1) (isRec d) (need d-mem.length) (prevOf bs mem) p (bs.drop p)with
  | .error e=>.error e
  | .ok (ms,dp,u)=>up bs rest { d with fin:=p+u,depth:=max d.depth (dp+1) } (mem++ms) (p+u):=by
 cases rest with
 | nil=>rfl
 | cons x r =>
  obtain⟨dh,mh⟩:=x
  rfl
theorem fin_pop(bs:Bytes)(rest:List (PD×List PT))(d:PD)(mem:List PT)(p:Nat)(h:need d<=mem.length)(hd:1<=d.depth):fin bs rest d mem p=up bs rest { d with fin:=p } mem p:=by
 rw[oG,show need d-mem.length=0 from(gE h),qK];have e:max d.depth (0+1)=d.depth:=by lia
 simp only[gw,bJ,e]
def memAt(named:Bool)(prev:Option Bytes)(lv p:Nat)(b:Bytes):Except Fault (Nat×Nat×Nat×Nat×Nat×Nat):=match nmAt named prev p b with
 | .error e=>.error e
 | .ok (k,l)=>match headAt lv (p+l+k) (b.drop (l+k))with
  | .error e=>.error e
  | .ok (kd,n,i,u)=>.ok (k,l,kd,n,i,u)
def newD(named:Bool)(p:Nat)(x:Nat×Nat×Nat×Nat×Nat×Nat):PD:=⟨x.2.2.1,p+x.2.1+x.1,p+x.2.1+x.1+x.2.2.2.2.1,p+x.2.1+x.1,x.2.2.2.1,1,if named=true then p+x.2.1 else 0,x.1⟩
theorem fin_push(bs:Bytes)(rest:List (PD×List PT))(d:PD)(mem:List PT)(p:Nat)(h:mem.length<need d):fin bs rest d mem p=match memAt (isRec d) (prevOf bs mem) (rest.length+2) p (bs.drop p)with
  | .error e=>.error e
  | .ok x=>fin bs ((d,mem)::rest) (newD (isRec d) p x) [] (p+x.2.1+x.1+x.2.2.2.2.2):=by
 obtain⟨n,hn⟩:∃n,need d-mem.length=n+1:=⟨need d-mem.length-1,by lia⟩
 rw[oG,hn,yW];unfold memAt;cases en:nmAt (isRec d) (prevOf bs mem) p (bs.drop p)with
 | error e=>rfl
 | ok x =>
  obtain⟨k,l⟩:=x
  dsimp only;rw[zh];cases eh:headAt (rest.length+1+1) (p+l+k) ((bs.drop p).drop (l+k))with
  | error e=>rfl
  | ok y =>
   obtain⟨kd,sz,io,u⟩:=y
   dsimp only;have hd2:(bs.drop p).drop (l+k)=bs.drop (p+l+k):=by rw[cy,bh]
   have Vv:∀z,(bs.drop p).drop (l+k+z)=bs.drop (p+l+k+z):=λz=>by
    rw[cy];congr 1
    lia
   have JQ:∀c:PT,c.d.np=(if isRec d=true then p+l else 0)->c.d.nl=k->prevOf bs (mem++[c])=some (((bs.drop p).drop l).take k):=λc h1 h2=>by
    unfold prevOf;rw[List.getLast?_append];simp only[List.getLast?_singleton,Option.some_or];rw[h1,h2];cases hr:isRec d with
    | true=>rw[ax rfl,cy]
    | false =>
     unfold nmAt at en;rw[hr,ay aT]at en;injection en with en;injection en with en1 en2;rw[<-en1];simp
   have Jc:∀(c:PD)(cm:List PT)(used:Nat),c.np=(if isRec d=true then p+l else 0)->c.nl=k->1<=c.depth ->
     (match (match Rw (rest.length+1) (isRec d) n (some (((bs.drop p).drop l).take k)) (p+l+k+used) ((bs.drop p).drop (l+k+used))with
      | .error e=>.error e
      | .ok (ms,dp,u2)=>.ok (.node c cm::ms,max c.depth dp,l+k+used+u2):Except Fault (List PT×Nat×Nat))with
     | .error e=>.error e
     | .ok (ms,dp,u)=>up bs rest { d with fin:=p+u,depth:=max d.depth (dp+1) } (mem++ms) (p+u))=up bs ((d,mem)::rest) c cm (p+l+k+used):=λc cm used h1 h2 h3=>by
    show _=fin bs rest { d with depth:=max d.depth (c.depth+1) } (mem++[.node c cm]) (p+l+k+used)
    rw[oG,Vv,JQ (.node c cm) h1 h2];have e1:need { d with depth:=max d.depth (c.depth+1) } - (mem++[PT.node c cm]).length=n:=by
     rw[ae,a9];show need d-(mem.length+1)=n
     lia
    have e2:isRec { d with depth:=max d.depth (c.depth+1) }=isRec d:=rfl
    rw[e1,e2];cases er:Rw (rest.length+1) (isRec d) n (some (((bs.drop p).drop l).take k)) (p+l+k+used) (bs.drop (p+l+k+used))with
    | error e=>rfl
    | ok z =>
     obtain⟨ms,dp,u2⟩:=z
     dsimp only;have a1:p+(l+k+used+u2)=p+l+k+used+u2:=by lia
     have a2:max d.depth (max c.depth dp+1)=max (max d.depth (c.depth+1)) (dp+1):=by lia
     have a3:mem++PT.node c cm::ms=mem++[PT.node c cm]++ms:=by simp
     rw[a1,a2,a3]
   rw[oG];have e1:need (newD (isRec d) p (k,l,kd,sz,io,u))-([]:List PT).length=if kd=5\/kd=6 then sz else 0:=rfl
   have e2:isRec (newD (isRec d) p (k,l,kd,sz,io,u))=decide (kd=6):=rfl
   have e3:((d,mem)::rest).length+1=rest.length+2:=rfl
   have e4:prevOf bs []=none:=rfl
   rw[e1,e2,e3,e4];by_cases hk:kd=5\/kd=6
   .rw[ax hk,ax hk,hd2,cy];cases er:Rw (rest.length+2) (decide (kd=6)) sz none (p+l+k+u) (bs.drop (p+l+k+u))with
    | error e=>rfl
    | ok z =>
     obtain⟨ms,dp,used⟩:=z
     dsimp only;refine(Jc { (⟨kd,p+l+k,p+l+k+io,p+l+k+u+used,sz,dp+1,0,0⟩:PD)with np:=if isRec d=true then p+l else 0,nl:=k } ms (u+used) rfl rfl (by show 1<=dp+1;exact a8 _ _)).trans ?_
     have a1:p+l+k+(u+used)=p+l+k+u+used:=(bh _ _ _).symm
     have a2:dp+1=max 1 (dp+1):=rfl
     show up bs ((d,mem)::rest) ⟨kd,p+l+k,p+l+k+io,p+l+k+u+used,sz,dp+1,if isRec d=true then p+l else 0,k⟩ ms (p+l+k+(u+used)) =
      up bs ((d,mem)::rest) ⟨kd,p+l+k,p+l+k+io,p+l+k+u+used,sz,max 1 (dp+1),if isRec d=true then p+l else 0,k⟩ ([]++ms) (p+l+k+u+used)
     rw[<-a2,a1];rfl
   .rw[ay hk,ay hk,qK];dsimp only;exact Jc { (⟨kd,p+l+k,p+l+k+io,p+l+k+u,sz,1,0,0⟩:PD)with np:=if isRec d=true then p+l else 0,nl:=k } [] u rfl rfl (aF 1)
def wholeAt(bs:Bytes):Except Fault PT:=match headAt 1 0 bs with
 | .error e=>.error e
 | .ok (k,n,i,u)=>match fin bs [] ⟨k,0,i,0,n,1,0,0⟩ [] u with
  | .error e=>.error e
  | .ok (t,p)=>if p<bs.length then .error ⟨8,p⟩else .ok t
theorem vx(bs:Bytes):wholeAt bs=match Vw 1 0 bs with
  | .error e=>.error e
  | .ok (t,n)=>if n<bs.length then .error ⟨8,n⟩else .ok t:=by
 unfold wholeAt;rw[zh];cases eh:headAt 1 0 bs with
 | error e=>rfl
 | ok x =>
  obtain⟨k,n,i,u⟩:=x
  dsimp only;rw[oG];have e1:need (⟨k,0,i,0,n,1,0,0⟩:PD)-([]:List PT).length=if k=5\/k=6 then n else 0:=rfl
  have e2:isRec (⟨k,0,i,0,n,1,0,0⟩:PD)=decide (k=6):=rfl
  have e4:prevOf bs []=none:=rfl
  rw[e1,e2,e4];by_cases hk:k=5\/k=6
  .rw[ax hk,ax hk];simp only[eP,dB];cases er:Rw 1 (decide (k=6)) n none u (bs.drop u)with
   | error e=>rfl
   | ok z =>
    obtain⟨ms,dp,used⟩:=z
    have a2:max 1 (dp+1)=dp+1:=rfl
    simp only[up,a2,ft]
  .rw[ay hk,ay hk,qK];simp only[up,eP,gw,bJ,Nat.max_self]
theorem whole_rel(bs:Bytes):match decode bs with
  | .error e=>wholeAt bs =.error e
  | .ok v=>wholeAt bs =.ok (trV v 0 0 0)/\v.enc=bs/\v.plain=true/\v.deep<=64:=by
 have h:=y9 (2*bs.length+4) 1 0 bs
 have hf:=nI (2*bs.length+4) (2*bs.length+1) 1 0 bs (bO (b8 _ _)) (aF _)
 rw[hf]at h;rw[vx];unfold Vw decode;cases ev:valueAt (2*bs.length+4) 1 0 bs with
 | error e =>
  rw[ev]at h;have h:vAt (2*bs.length+1) 1 0 bs =.error e:=h
  rw[h]
 | ok x =>
  obtain⟨v,n⟩:=x
  rw[ev]at h;have h:vAt (2*bs.length+1) 1 0 bs =.ok (trV v 0 0 0,n):=h
  obtain⟨g1,g2,g3,g4⟩:=tQ _ _ _ _ ev
  rw[h];dsimp only;by_cases hn:n<bs.length
  .rw[ax hn,ax hn]
  .rw[ay hn,ay hn];refine⟨rfl,?_,g3,(bA g4)⟩
   rw[g1,cC (bg hn)]
theorem tU:∀(m:Row)(named:Bool)(p i:Nat),(trR m named p)[i]? =(m.get? i).map λ(x:Bytes×Value)=>trV x.2 (p+m.before named i) (if named=true then p+m.before named i-x.1.length else 0) x.1.length
 | .nil,named,p,i=>by
  rw[p7];rfl
 | .cons n v r,named,p,0=>by
  rw[kH];show some (trV v (p+lY named n) (if named=true then p+(vary n.length).length else 0) n.length)=some (trV v (p+lY named n) (if named=true then p+lY named n-n.length else 0) n.length)
  congr 2
  cases named with
  | false=>rfl
  | true =>
   unfold lY;rw[ax rfl,ax rfl,ax rfl];lia
 | .cons n v r,named,p,i+1=>by
  rw[kH];show(trR r named (p+lY named n+v.enc.length))[i]? =(r.get? i).map _
  rw[tU r named _ i];have e:∀z:Nat,p+lY named n+v.enc.length+z=p+(lY named n+v.enc.length+z):=λz=>by lia
  rw[e];rfl
theorem tT:∀(m:Row)(named:Bool)(p:Nat),(trR m named p).length=m.length
 | .nil,named,p=>by rw[p7];rfl
 | .cons n v r,named,p=>by
  rw[kH,ao,tT r];rfl
def rowOf:Value->Row
 | .list m=>m
 | .rec_ m=>m
 | _=>.nil
def namedOf:Value->Bool
 | .rec_ _=>true
 | _=>false
theorem vD(v:Value)(p:Nat):trM v p=trR (rowOf v) (namedOf v) (p+ioff v):=by
 cases v<;>first | rfl | (show[]=trR .nil _ _;rw[p7])
theorem member_eq(v:Value)(i:Nat):v.member i=(rowOf v).get? i:=by
 cases v<;>rfl
def mplace(v:Value)(p i:Nat):Nat:=p+ioff v+(rowOf v).before (namedOf v) i
theorem trM_get(v:Value)(p i:Nat):(trM v p)[i]? =(v.member i).map λ(x:Bytes×Value)=>trV x.2 (mplace v p i) (if namedOf v=true then mplace v p i-x.1.length else 0) x.1.length:=by
 rw[vD,tU,member_eq];rfl
theorem trM_len(v:Value)(p:Nat):(trM v p).length=(rowOf v).length:=by
 rw[vD,tT]
theorem oC:∀(m:Row)(i:Nat),m.get? i=none↔m.length<=i
 | .nil,i=>⟨λξ=>aX i,λξ=>rfl⟩
 | .cons n v r,0=>⟨(λh=>by cases h),λh=>aW h (by show ¬r.length+1<=0;exact dA _)⟩
 | .cons n v r,i+1=>by
  have ih:=oC r i
  constructor
  .intro h;have:=ih.mp h
   show r.length+1<=i+1
   exact bO this
  .intro h;have h:r.length+1<=i+1:=h
   exact ih.mpr (bA h)
theorem lZ:∀(m:Row)(i:Nat){n:Bytes}{v:Value},m.get? i=some (n,v)->n∈m.names
 | .nil,i,n,v,h=>by cases h
 | .cons n0 v0 r,0,n,v,h=>by
  have h:some (n0,v0)=some (n,v):=h
  injection h with h;injection h with h1 h2;subst h1;exact a7
 | .cons n0 v0 r,i+1,n,v,h=>aA _ (lZ r i h)
theorem name_of{v:Value}(hp:v.plain=true){i:Nat}{n:Bytes}{w:Value}(h:v.member i=some (n,w)):(namedOf v=false->n=[])/\(namedOf v=true->n≠[]):=by
 cases v with
 | list m =>
  refine⟨λξ=>?_,λz=>Bool.noConfusion z⟩
  have hp:(m.plain&&m.names.all λ(n:Bytes)=>n==[])=true:=hp
  rw[aE]at hp;have:=dU.mp hp.2 n (lZ m i h)
  simpa using this
 | rec_ m =>
  refine⟨λz=>Bool.noConfusion z,λξ=>?_⟩
  have hp:(m.plain&&(m.names.all nameOk&&rising m.names))=true:=hp
  rw[aE,aE]at hp;have:=dU.mp hp.2.1 n (lZ m i h)
  intro z;rw[z]at this;simp[nameOk]at this
 | _=>cases h
def At(bs:Bytes)(p:Nat)(v:Value):Prop:=v.enc <+:bs.drop p
theorem enc_pos(v:Value):1<=v.enc.length:=by
 cases v<;>(unfold Value.enc;simp)
theorem At.le{bs:Bytes}{p:Nat}{v:Value}(h:At bs p v):p+v.enc.length<=bs.length:=by
 have h1:=List.IsPrefix.length_le h
 rw[aD]at h1;have:=enc_pos v
 lia
theorem At.take{bs:Bytes}{p:Nat}{v:Value}(h:At bs p v):(bs.drop p).take v.enc.length=v.enc:=(List.prefix_iff_eq_take.mp h).symm
def inner:Value->Bytes
 | .no=>[]
 | .yes=>[]
 | .num z=>le (amountLength z.natAbs) z.natAbs
 | .bytes b=>b
 | .text t=>utf8 t
 | .list m=>m.enc false
 | .rec_ m=>m.enc true
 | .moment z=>le 8 (z % ((2 ^ 64:Nat):Int)).toNat
 | .id b=>b
def tP:Value->Bytes
 | .no=>[0]
 | .yes=>[1]
 | .num z=>2::vary (p8 z)
 | .bytes b=>3::vary b.length
 | .text t=>4::vary (utf8 t).length
 | .list m=>5::vary m.length
 | .rec_ m=>6::vary m.length
 | .moment _=>[7]
 | .id _=>[8]
theorem l7(v:Value):v.enc=tP v++inner v:=by
 cases v<;>(unfold Value.enc;rfl)
theorem rR(v:Value):(tP v).length=ioff v:=by
 cases v<;>(unfold tP ioff;simp[dj])
theorem At.inner{bs:Bytes}{p:Nat}{v:Value}(h:At bs p v):(bs.drop (p+ioff v)).take (p+v.enc.length-(p+ioff v))=Pm.inner v/\ioff v<=v.enc.length:=by
 obtain⟨r,hr⟩:=h
 have hs:=l7 v
 have hl:=rR v
 have hlen:v.enc.length=ioff v+(Pm.inner v).length:=by rw[hs,ae,hl]
 refine⟨?_,by lia⟩
 rw[<-cy,<-hr,hs,aY,<-hl,eE,<-hs,show p+v.enc.length-(p+(tP v).length)=(Pm.inner v).length by lia,iH]
theorem uv:∀(m:Row)(named:Bool)(i:Nat){n:Bytes}{w:Value},m.get? i=some (n,w)->∃pre post,m.enc named=pre++(w.enc++post)/\pre.length=m.before named i/\(named=true->∃CA,pre=CA++n)
 | .nil,named,i,n,w,h=>by cases h
 | .cons n0 v r,named,0,n,w,h=>by
  have h:some (n0,v)=some (n,w):=h
  injection h with h;injection h with h1 h2;subst h1 h2;refine⟨if named=true then vary n0.length++n0 else[],r.enc named,rfl,?_,λz=>⟨vary n0.length,by rw[ax z]⟩⟩
  show _=if named=true then(vary n0.length).length+n0.length else 0
  cases named with
  | true=>rw[ax rfl,ax rfl,ae]
  | false=>rfl
 | .cons n0 v r,named,i+1,n,w,h=>by
  obtain⟨pre,post,e1,e2,e3⟩:=uv r named i h
  refine⟨(if named=true then vary n0.length++n0 else[])++v.enc++pre,post,?_,?_,λz=>?_⟩
  .show(if named=true then vary n0.length++n0 else[])++(v.enc++r.enc named)=_
   rw[e1];simp only[aY]
  .show _=(if named=true then(vary n0.length).length+n0.length else 0)+v.enc.length+r.before named i
   rw[ae,ae,e2];cases named with
   | true=>rw[ax rfl,ax rfl,ae]
   | false=>rfl
  .obtain⟨CA,e⟩:=e3 z
   exact⟨(if named=true then vary n0.length++n0 else[])++v.enc++CA,by rw[e];simp only[aY]⟩
theorem At.mem{bs:Bytes}{p:Nat}{v:Value}(h:At bs p v){i:Nat}{n:Bytes}{w:Value}(hm:v.member i=some (n,w)) :
  At bs (mplace v p i) w/\(namedOf v=true->n.length<=mplace v p i/\(bs.drop (mplace v p i-n.length)).take n.length=n):=by
 rw[member_eq]at hm;obtain⟨pre,post,e1,e2,e3⟩:=uv (rowOf v) (namedOf v) i hm
 have hi:Pm.inner v=(rowOf v).enc (namedOf v):=by
  cases v<;>first | rfl | (cases hm)
 obtain⟨r,hr⟩:=h
 have hs:=l7 v
 have hl:=rR v
 have key:bs.drop (p+ioff v)=pre++(w.enc++post)++r:=by
  rw[<-cy,<-hr,hs,aY,<-hl,eE,hi,e1]
 have k2:bs.drop (mplace v p i)=w.enc++(post++r):=by
  unfold mplace;rw[<-cy,key,<-e2,aY,eE,aY]
 refine⟨⟨post++r,k2.symm⟩,λz=>?_⟩
 obtain⟨CA,e⟩:=e3 z
 have Zn:CA.length+n.length=(rowOf v).before (namedOf v) i:=by rw[<-e2,e,ae]
 refine⟨by unfold mplace;lia,?_⟩
 have k3:mplace v p i-n.length=p+ioff v+CA.length:=by unfold mplace;lia
 rw[k3,<-cy,key,e,aY,aY,eE,iH]
theorem lU:∀(m:Row)(i:Nat){n:Bytes}{w:Value},m.plain=true->m.get? i=some (n,w)->w.plain=true
 | .nil,i,n,w,_,h=>by cases h
 | .cons n0 v r,0,n,w,hp,h=>by
  have h:some (n0,v)=some (n,w):=h
  injection h with h;injection h with h1 h2;subst h2;have hp:(v.plain&&r.plain)=true:=hp
  rw[aE]at hp;exact hp.1
 | .cons n0 v r,i+1,n,w,hp,h=>by
  have hp:(v.plain&&r.plain)=true:=hp
  rw[aE]at hp;exact lU r i hp.2 h
theorem plain_mem{v:Value}(hp:v.plain=true){i:Nat}{n:Bytes}{w:Value}(h:v.member i=some (n,w)):w.plain=true:=by
 cases v with
 | list m =>
  have hp:(m.plain&&m.names.all λ(n:Bytes)=>n==[])=true:=hp
  rw[aE]at hp;exact lU m i hp.1 h
 | rec_ m =>
  have hp:(m.plain&&(m.names.all nameOk&&rising m.names))=true:=hp
  rw[aE]at hp;exact lU m i hp.1 h
 | _=>cases h
theorem ui:∀(k n:Nat),n<256 ^ k->ofLe (le k n)=n
 | 0,n,h=>by
  have:n=0:=by simpa using h
  subst this;rfl
 | k+1,n,h=>by
  rw[le_succ];show(UInt8.ofNat (n % 256)).toNat+256*ofLe (le k (n / 256))=n
  rw[gu]at h;rw[ui k (n / 256) (by lia),UInt8.toNat_ofNat']
  lia
theorem vo:∀n:Nat,n<256 ^ amountLength n:=λn=>by
 induction n using Nat.strongRecOn with
 | ind n ih =>
  unfold amountLength;by_cases h:n=0
  .rw[ax h,h];decide
  .rw[ay h,gu];have:=ih (n / 256) (by lia)
   lia
theorem num_of(z:Int):ofLe (inner (.num z))=z.natAbs:=ui _ _ (vo _)
theorem uG(n:Nat):∃c r,vary n=c::r/\c.toNat % 2=n % 2:=by
 unfold vary;by_cases h:n<128
 .rw[ax h];refine⟨_,_,rfl,?_⟩
  rw[UInt8.toNat_ofNat'];lia
 .rw[ay h];refine⟨_,_,rfl,?_⟩
  rw[UInt8.toNat_ofNat'];lia
theorem At.sign{bs:Bytes}{p:Nat}{z:Int}(h:At bs p (.num z)):∃c,bs[p+1]? =some c/\c.toNat % 2=if z<0 then 1 else 0:=by
 obtain⟨c,r,e1,e2⟩:=uG (p8 z)
 refine⟨c,?_,?_⟩
 .obtain⟨s,hs⟩:=h
  have e:(Value.num z).enc=2::c::(r++Sw.le (amountLength z.natAbs) z.natAbs):=by
   rw[l7];show 2::vary (p8 z)++_=_
   rw[e1];rfl
  have:(bs.drop p)[1]? =some c:=by rw[<-hs,e];rfl
  rw[gb]at this;exact this
 .rw[e2];unfold p8;split<;>lia
theorem ik:∀a b:Bytes,bytesBefore a b=false->bytesBefore b a=false->a=b
 | [],[],_,_=>rfl
 | [],_::_,h,_=>by cases h
 | _::_,[],_,h=>by cases h
 | c::a,d::b,h1,h2=>by
  have h1:(decide (c.toNat<d.toNat)||(c==d&&bytesBefore a b))=false:=h1
  have h2:(decide (d.toNat<c.toNat)||(d==c&&bytesBefore b a))=false:=h2
  rw[Bool.or_eq_false_iff,decide_eq_false_iff_not]at h1 h2;have e:c=d:=UInt8.toNat_inj.mp (cu (bg h2.1) (bg h1.1))
  subst e;have g1:=h1.2
  have g2:=h2.2
  rw[beq_self_eq_true,gX]at g1 g2;rw[ik a b g1 g2]
theorem jq:∀a b:Bytes,bytesBefore a b=true->bytesBefore b a=false
 | [],[],h=>by cases h
 | [],_::_,_=>rfl
 | _::_,[],h=>by cases h
 | c::a,d::b,h=>by
  have h:(decide (c.toNat<d.toNat)||(c==d&&bytesBefore a b))=true:=h
  show(decide (d.toNat<c.toNat)||(d==c&&bytesBefore b a))=false
  rw[dN,bw,aE,beq_iff_eq]at h;rcases h with h | ⟨h,h'⟩
  .rw[ai (eB (cq h)),bu.mpr (λz=>by rw[z]at h;exact eB h (aF _))]
   rfl
  .subst h;rw[ai (cw _),jq a b h',gC];rfl
mutual
noncomputable def cntV:Value->Nat
 | .list m=>cntR m
 | .rec_ m=>cntR m
 | .no=>0
 | .yes=>0
 | .num _=>0
 | .bytes _=>0
 | .text _=>0
 | .moment _=>0
 | .id _=>0
noncomputable def cntR:Row->Nat
 | .nil=>0
 | .cons _ v r=>1+cntV v+cntR r
end
theorem cnt_row(v:Value):cntV v=cntR (rowOf v):=by
 cases v<;>first | rfl | (show cntV _=cntR .nil;unfold cntV cntR;rfl)
theorem cntR_cons(n:Bytes)(v:Value)(r:Row):cntR (.cons n v r)=1+cntV v+cntR r:=by rw[cntR]
theorem cntR_nil:cntR .nil=0:=by rw[cntR]
mutual
theorem cntV_le:∀v:Value,cntV v+1<=v.enc.length
 | .list m=>by
  have:=cntR_le m false
  have e:(Value.list m).enc=5::(vary m.length++m.enc false):=rfl
  rw[e,ao,ae];unfold cntV;exact dR this (a8 _ _)
 | .rec_ m=>by
  have:=cntR_le m true
  have e:(Value.rec_ m).enc=6::(vary m.length++m.enc true):=rfl
  rw[e,ao,ae];unfold cntV;exact dR this (a8 _ _)
 | .no=>by unfold cntV;exact enc_pos _
 | .yes=>by unfold cntV;exact enc_pos _
 | .num z=>by unfold cntV;exact enc_pos _
 | .bytes b=>by unfold cntV;exact enc_pos _
 | .text t=>by unfold cntV;exact enc_pos _
 | .moment z=>by unfold cntV;exact enc_pos _
 | .id b=>by unfold cntV;exact enc_pos _
theorem cntR_le:∀(m:Row)(named:Bool),cntR m<=(m.enc named).length
 | .nil,named=>by rw[cntR_nil];exact aX _
 | .cons n v r,named=>by
  have h1:=cntV_le v
  have h2:=cntR_le r named
  have e:(Row.cons n v r).enc named=(if named=true then vary n.length++n else[])++(v.enc++r.enc named):=rfl
  rw[e,ae,ae,cntR_cons];lia
end
theorem sX(v:Value)(p i:Nat):mplace v p i=p+mplace v 0 i:=by
 unfold mplace;lia
theorem names_len:∀m:Row,m.names.length=m.length
 | .nil=>rfl
 | .cons n v r=>by
  show r.names.length+1=r.length+1
  rw[names_len r]
theorem memberOf_lt{v:Value}{s:Sw.Step}{i:Nat}(h:v.memberOf s=some i):i<(rowOf v).length:=by
 cases v<;>cases s<;>first
  | (cases h;done)
  | skip
 case list.index m z =>
  have h:(if 0<=z/\z<(m.length:Int)then some z.toNat else none)=some i:=h
  by_cases q:0<=z/\z<(m.length:Int)
  .rw[ax q]at h;injection h with h;subst h;show z.toNat<m.length
   omega
  .rw[ay q]at h;cases h
 case rec_.name m n =>
  have h:m.names.findIdx? (λ(x:Bytes)=>x==n)=some i:=h
  obtain⟨h1,_⟩:=List.findIdx?_eq_some_iff_findIdx_eq.mp h
  rw[names_len]at h1;exact h1
theorem member_some{v:Value}{i:Nat}(h:i<(rowOf v).length):∃x,v.member i=some x:=by
 cases e:v.member i with
 | some x=>exact⟨x,rfl⟩
 | none =>
  rw[member_eq,oC]at e;lia
def go(x:Value×Nat)(s:Sw.Step):Option (Value×Nat):=(x.1.memberOf s).bind λ(i:Nat)=>(x.1.member i).map λ(y:Bytes×Value)=>(y.2,mplace x.1 x.2 i)
def trail(x:Value×Nat):List Sw.Step->List (Value×Nat)
 | []=>[x]
 | s::l=>x::(match go x s with
  | none=>[]
  | some y=>trail y l)
theorem kY{x y:Value×Nat}{s:Sw.Step}(h:go x s=some y):∃i n,x.1.memberOf s=some i/\x.1.member i=some (n,y.1)/\y.2=mplace x.1 x.2 i:=by
 unfold go at h;cases e1:x.1.memberOf s with
 | none=>rw[e1]at h;cases h
 | some i =>
  rw[e1]at h;have h:(x.1.member i).map (λ(y:Bytes×Value)=>(y.2,mplace x.1 x.2 i))=some y:=h
  cases e2:x.1.member i with
  | none=>rw[e2]at h;cases h
  | some z =>
   obtain⟨n,w⟩:=z
   rw[e2]at h;have h:some (w,mplace x.1 x.2 i)=some y:=h
   injection h with h;subst h;exact⟨i,n,rfl,e2,rfl⟩
theorem go_none{x:Value×Nat}{s:Sw.Step}(h:go x s=none):x.1.memberOf s=none:=by
 cases e1:x.1.memberOf s with
 | none=>rfl
 | some i =>
  obtain⟨z,e2⟩:=member_some (memberOf_lt e1)
  unfold go at h;rw[e1]at h;have h:(x.1.member i).map (λ(y:Bytes×Value)=>(y.2,mplace x.1 x.2 i))=none:=h
  rw[e2]at h;cases h
theorem go_of{x:Value×Nat}{s:Sw.Step}{i:Nat}{n:Bytes}{w:Value}(h1:x.1.memberOf s=some i)(h2:x.1.member i=some (n,w)):go x s=some (w,mplace x.1 x.2 i):=by
 unfold go;rw[h1];show(x.1.member i).map _=_
 rw[h2];rfl
theorem go_no{x:Value×Nat}{s:Sw.Step}(h1:x.1.memberOf s=none):go x s=none:=by
 unfold go;rw[h1];rfl
theorem trail_ne(x:Value×Nat)(l:List Sw.Step):trail x l≠[]:=by
 cases l<;>(unfold trail;exact List.cons_ne_nil _ _)
theorem trail_head(x:Value×Nat)(l:List Sw.Step):(trail x l)[0]? =some x:=by
 cases l<;>(unfold trail;rfl)
theorem trail_len:∀(l:List Sw.Step)(x:Value×Nat),(trail x l).length=(x.1.leads l).length+1
 | [],x=>by unfold trail;rfl
 | s::l,x=>by
  unfold trail Value.leads;cases e:go x s with
  | none =>
   rw[go_none e];rfl
  | some y =>
   obtain⟨i,n,e1,e2,e3⟩:=kY e
   rw[e1];show(trail y l).length+1=_
   rw[trail_len l y];show _=(match x.1.member i with
    | none=>[]
    | some (_,w)=>i::w.leads l).length+1
   rw[e2];rfl
theorem leads_le:∀(l:List Sw.Step)(v:Value),(v.leads l).length<=l.length
 | [],v=>by unfold Value.leads;exact aF 0
 | s::l,v=>by
  unfold Value.leads;cases v.memberOf s with
  | none=>exact aX _
  | some i =>
   show(match v.member i with
    | none=>[]
    | some (_,w)=>i::w.leads l).length<=_
   cases v.member i with
   | none=>exact aX _
   | some z =>
    have:=leads_le l z.2
    show(z.2.leads l).length+1<=l.length+1
    exact bO this
theorem trail_snoc:∀(a:List Sw.Step)(x y:Value×Nat)(s:Sw.Step)(r:List Sw.Step),(trail x a).length=a.length+1->(trail x a).getLast? =some y ->
  trail x (a++s::r)=trail x a++(match go y s with
   | none=>[]
   | some z=>trail z r)
 | [],x,y,s,r,_,h2=>by
  have h2:some x=some y:=by unfold trail at h2;exact h2
  injection h2 with h2;subst h2;show trail x (s::r)=trail x []++_
  conv=>lhs;unfold trail
  conv=>rhs;arg 1;unfold trail
  rfl
 | t::a,x,y,s,r,h1,h2=>by
  unfold trail at h1 h2;show trail x (t::(a++s::r))=trail x (t::a)++_
  conv=>lhs;unfold trail
  conv=>rhs;arg 1;unfold trail
  cases e:go x t with
  | none=>rw[e]at h1;simp at h1
  | some z =>
   rw[e]at h1 h2;have h1:(trail z a).length+1=a.length+1+1:=h1
   have h2:(x::trail z a).getLast? =some y:=h2
   rw[List.getLast?_cons]at h2;have IQ:(trail z a).getLast? =some y:=by
    cases q:(trail z a).getLast? with
    | none=>exact aW (bz.mp q) (trail_ne z a)
    | some u =>
     rw[q]at h2;exact h2
   show x::trail z (a++s::r)=x::(trail z a++_)
   rw[trail_snoc a z y s r (Nat.succ.inj h1) IQ]
def stepV:Value->Option Sw.Step
 | .num z=>some (.index z)
 | .text t=>some (.name (utf8 t))
 | _=>none
def rowVals:Row->List Value
 | .nil=>[]
 | .cons _ v r=>v::rowVals r
theorem rowVals_get:∀(m:Row)(i:Nat),(rowVals m)[i]? =(m.get? i).map λ(x:Bytes×Value)=>x.2
 | .nil,i=>rfl
 | .cons n v r,0=>rfl
 | .cons n v r,i+1=>rowVals_get r i
theorem rowVals_len:∀(m:Row),(rowVals m).length=m.length
 | .nil=>rfl
 | .cons n v r=>by
  show(rowVals r).length+1=r.length+1
  rw[rowVals_len r]
theorem steps_eq:∀m:Row,stepsOf m=(rowVals m).mapM stepV
 | .nil=>by unfold stepsOf rowVals;rfl
 | .cons n v r=>by
  unfold rowVals;rw[iI,<-steps_eq r];cases v<;>(conv=>lhs;unfold stepsOf)<;>first
   | rfl
   | (unfold stepV;cases stepsOf r<;>rfl)
theorem ur{n k:Bytes}{v w:Value}(h:some (n,v)=some (k,w)):n=k/\v=w:=by
 injection h with h;injection h with h1 h2;exact⟨h1,h2⟩
theorem qc:∀(m:Row)(i:Nat)(x:Value),(m.set i x).length=m.length
 | .nil,i,x=>by unfold Row.set;rfl
 | .cons n v r,0,x=>by unfold Row.set;rfl
 | .cons n v r,i+1,x=>by
  unfold Row.set;show(r.set i x).length+1=r.length+1
  rw[qc r]
theorem lQ:∀(m:Row)(i:Nat)(x:Value),(m.set i x).names=m.names
 | .nil,i,x=>by unfold Row.set;rfl
 | .cons n v r,0,x=>by unfold Row.set;rfl
 | .cons n v r,i+1,x=>by
  unfold Row.set;show n::(r.set i x).names=n::r.names
  rw[lQ r]
theorem set_plain:∀(m:Row)(i:Nat)(x:Value),m.plain=true->x.plain=true->(m.set i x).plain=true
 | .nil,i,x,h,hx=>by unfold Row.set;exact h
 | .cons n v r,0,x,h,hx=>by
  have h:(v.plain&&r.plain)=true:=h
  rw[aE]at h;unfold Row.set;show(x.plain&&r.plain)=true
  rw[hx,h.2];rfl
 | .cons n v r,i+1,x,h,hx=>by
  have h:(v.plain&&r.plain)=true:=h
  rw[aE]at h;unfold Row.set;show(v.plain&&(r.set i x).plain)=true
  rw[h.1,set_plain r i x h.2 hx];rfl
theorem dq(n:Bytes)(v:Value)(r:Row):(Row.cons n v r).deep=max v.deep r.deep:=by
 rw[Row.deep]
theorem oO:Row.nil.deep=0:=by rw[Row.deep]
theorem nN:∀(m:Row)(i:Nat)(x:Value),(m.set i x).deep<=max m.deep x.deep/\(i<m.length->x.deep<=(m.set i x).deep)
 | .nil,i,x=>by
  unfold Row.set;exact⟨(aX _),λh=>aW h (by show ¬i<0;exact dA _)⟩
 | .cons n v r,0,x=>by
  unfold Row.set;rw[dq,dq];exact⟨by lia,λξ=>by lia⟩
 | .cons n v r,i+1,x=>by
  unfold Row.set;obtain⟨k1,k2⟩:=nN r i x
  rw[dq,dq];refine⟨by lia,λh=>?_⟩
  have h:i+1<r.length+1:=h
  have:=k2 (bA h)
  lia
theorem get_deep:∀(m:Row)(i:Nat){n:Bytes}{w:Value},m.get? i=some (n,w)->w.deep<=m.deep
 | .nil,i,n,w,h=>by cases h
 | .cons n0 v r,0,n,w,h=>by
  obtain⟨_,rfl⟩:=ur h
  rw[dq];lia
 | .cons n0 v r,i+1,n,w,h=>by
  have:=get_deep r i h
  rw[dq];lia
def nmB(named:Bool)(n:Bytes):Bytes:=if named=true then vary n.length++n else[]
theorem enc_cons(n:Bytes)(v:Value)(r:Row)(named:Bool):(Row.cons n v r).enc named=nmB named n++(v.enc++r.enc named):=by
 rw[Row.enc];rfl
theorem enc_nil(named:Bool):Row.nil.enc named=[]:=by rw[Row.enc]
theorem nmB_len(named:Bool)(n:Bytes):(nmB named n).length=if named=true then(vary n.length).length+n.length else 0:=by
 cases named with
 | true=>show(vary n.length++n).length=_;rw[ae];rfl
 | false=>rfl
theorem qC:∀(m:Row)(named:Bool)(i:Nat){n:Bytes}{w:Value},m.get? i=some (n,w)->∃pre post,m.enc named=pre++(w.enc++post)/\pre.length=m.before named i/\∀x,(m.set i x).enc named=pre++(x.enc++post)
 | .nil,named,i,n,w,h=>by cases h
 | .cons n0 v r,named,0,n,w,h=>by
  obtain⟨rfl,rfl⟩:=ur h
  refine⟨nmB named n0,r.enc named,enc_cons ..,?_,λx=>?_⟩
  .rw[nmB_len];rfl
  .unfold Row.set;exact enc_cons ..
 | .cons n0 v r,named,i+1,n,w,h=>by
  obtain⟨pre,post,e1,e2,e3⟩:=qC r named i h
  refine⟨nmB named n0++(v.enc++pre),post,?_,?_,λx=>?_⟩
  .rw[enc_cons,e1];simp only[aY]
  .rw[ae,ae,e2,nmB_len];show _=(if named=true then(vary n0.length).length+n0.length else 0)+v.enc.length+r.before named i
   exact(bh _ _ _).symm
  .unfold Row.set;rw[enc_cons,e3];simp only[aY]
theorem lE(m:Row)(i:Nat)(x:Value):(Value.list m).with_ i x =.list (m.set i x):=rfl
theorem nt(m:Row)(i:Nat)(x:Value):(Value.rec_ m).with_ i x =.rec_ (m.set i x):=rfl
theorem iB(m:Row):(Value.list m).enc=5::(vary m.length++m.enc false):=by rw[Value.enc]
theorem jj(m:Row):(Value.rec_ m).enc=6::(vary m.length++m.enc true):=by rw[Value.enc]
theorem list_deep(m:Row):(Value.list m).deep=m.deep+1:=by rw[Value.deep]
theorem rec_deep(m:Row):(Value.rec_ m).deep=m.deep+1:=by rw[Value.deep]
theorem with_enc{v:Value}{i:Nat}{n:Bytes}{w:Value}(h:v.member i=some (n,w)):∃pre post,v.enc=pre++(w.enc++post)/\pre.length=mplace v 0 i/\∀x,(v.with_ i x).enc=pre++(x.enc++post):=by
 cases v with
 | list m =>
  obtain⟨pre,post,e1,e2,e3⟩:=qC m false i h
  refine⟨5::(vary m.length++pre),post,?_,?_,λx=>?_⟩
  .rw[iB,e1];simp only[cX,aY]
  .rw[ao,ae,e2];show _=0+(1+(vary m.length).length)+m.before false i
   lia
  .rw[lE,iB,qc,e3];simp only[cX,aY]
 | rec_ m =>
  obtain⟨pre,post,e1,e2,e3⟩:=qC m true i h
  refine⟨6::(vary m.length++pre),post,?_,?_,λx=>?_⟩
  .rw[jj,e1];simp only[cX,aY]
  .rw[ao,ae,e2];show _=0+(1+(vary m.length).length)+m.before true i
   lia
  .rw[nt,jj,qc,e3];simp only[cX,aY]
 | _=>cases h
theorem with_plain{v:Value}{i:Nat}{x:Value}(h:v.plain=true)(hx:x.plain=true):(v.with_ i x).plain=true:=by
 cases v with
 | list m =>
  have h:(m.plain&&m.names.all λ(n:Bytes)=>n==[])=true:=h
  rw[aE]at h;rw[lE];show((m.set i x).plain&&(m.set i x).names.all λ(n:Bytes)=>n==[])=true
  rw[lQ,set_plain m i x h.1 hx,h.2];rfl
 | rec_ m =>
  have h:(m.plain&&(m.names.all nameOk&&rising m.names))=true:=h
  rw[aE]at h;rw[nt];show((m.set i x).plain&&((m.set i x).names.all nameOk&&rising (m.set i x).names))=true
  rw[lQ,set_plain m i x h.1 hx,h.2];rfl
 | _=>exact h
theorem with_deep{v:Value}{i:Nat}{n:Bytes}{w:Value}(h:v.member i=some (n,w))(x:Value):(v.with_ i x).deep<=max v.deep (x.deep+1)/\x.deep+1<=(v.with_ i x).deep/\w.deep+1<=v.deep:=by
 have hl:i<(rowOf v).length:=dQ λz=>by
  rw[member_eq,(oC _ _).mpr z]at h;cases h
 cases v with
 | list m =>
  obtain⟨k1,k2⟩:=nN m i x
  have k3:=get_deep m i h
  have k2:=k2 hl
  rw[lE,list_deep,list_deep];lia
 | rec_ m =>
  obtain⟨k1,k2⟩:=nN m i x
  have k3:=get_deep m i h
  have k2:=k2 hl
  rw[nt,rec_deep,rec_deep];lia
 | _=>cases h
def repl(v:Value):List Sw.Step->Value->Value
 | [],x=>x
 | s::l,x=>match v.memberOf s with
  | none=>v
  | some i=>match v.member i with
   | none=>v
   | some (_,w)=>v.with_ i (repl w l x)
theorem repl_cons{v:Value}{s:Sw.Step}{i:Nat}{n:Bytes}{w:Value}(h1:v.memberOf s=some i)(h2:v.member i=some (n,w))(l:List Sw.Step)(x:Value):repl v (s::l) x=v.with_ i (repl w l x):=by
 conv=>lhs;unfold repl
 rw[h1];show(match v.member i with
   | none=>v
   | some (_,w)=>v.with_ i (repl w l x))=_
 rw[h2]
theorem trail_cons{x y:Value×Nat}{t:Sw.Step}{a:List Sw.Step}(h1:(trail x (t::a)).length=(t::a).length+1)(h2:(trail x (t::a)).getLast? =some y) :
  ∃i n w,x.1.memberOf t=some i/\x.1.member i=some (n,w)/\(trail (w,mplace x.1 x.2 i) a).length=a.length+1/\(trail (w,mplace x.1 x.2 i) a).getLast? =some y:=by
 unfold trail at h1 h2;cases e:go x t with
 | none=>rw[e]at h1;simp at h1
 | some z =>
  rw[e]at h1 h2;have h1:(trail z a).length+1=a.length+1+1:=h1
  have h2:(x::trail z a).getLast? =some y:=h2
  rw[List.getLast?_cons]at h2;have IQ:(trail z a).getLast? =some y:=by
   cases q:(trail z a).getLast? with
   | none=>exact aW (bz.mp q) (trail_ne z a)
   | some u =>
    rw[q]at h2;exact h2
  obtain⟨i,n,e1,e2,e3⟩:=kY e
  have ez:z=(z.1,mplace x.1 x.2 i):=by rw[<-e3]
  rw[ez]at h1 IQ
  exact⟨i,n,z.1,e1,e2,(Nat.succ.inj h1),IQ⟩
theorem repl_enc:∀(a:List Sw.Step)(v:Value)(p:Nat)(u:Value)(q:Nat),(trail (v,p) a).length=a.length+1->(trail (v,p) a).getLast? =some (u,q) ->
  ∃pre post,v.enc=pre++(u.enc++post)/\p+pre.length=q/\∀x,(repl v a x).enc=pre++(x.enc++post)
 | [],v,p,u,q,_,h2=>by
  have h2:some (v,p)=some (u,q):=by unfold trail at h2;exact h2
  injection h2 with h2;injection h2 with h2 h3;subst h2 h3;exact⟨[],[],by simp,by simp,λx=>by unfold repl;simp⟩
 | t::a,v,p,u,q,h1,h2=>by
  obtain⟨i,n,w,e1,e2,e3,e4⟩:=trail_cons h1 h2
  have e2:v.member i=some (n,w):=e2
  obtain⟨pre,post,k1,k2,k3⟩:=repl_enc a w _ u q e3 e4
  obtain⟨CA,FY,j1,j2,j3⟩:=with_enc e2
  refine⟨CA++pre,post++FY,?_,?_,λx=>?_⟩
  .rw[j1,k1];simp only[aY]
  .have k2:mplace v p i+pre.length=q:=k2
   rw[sX]at k2;rw[ae,j2];lia
  .rw[repl_cons e1 e2,j3,k3];simp only[aY]
theorem repl_plain:∀(a:List Sw.Step)(v:Value)(x:Value),v.plain=true->x.plain=true->(repl v a x).plain=true
 | [],v,x,hv,hx=>by unfold repl;exact hx
 | t::a,v,x,hv,hx=>by
  unfold repl;cases e1:v.memberOf t with
  | none=>exact hv
  | some i =>
   show(match v.member i with
    | none=>v
    | some (_,w)=>v.with_ i (repl w a x)).plain=true
   cases e2:v.member i with
   | none=>exact hv
   | some z =>
    obtain⟨n,w⟩:=z
    exact with_plain hv (repl_plain a w x (plain_mem hv e2) hx)
theorem repl_deep:∀(a:List Sw.Step)(v:Value)(p:Nat)(u:Value)(q:Nat)(x:Value),(trail (v,p) a).length=a.length+1->(trail (v,p) a).getLast? =some (u,q) ->
  (repl v a x).deep<=max v.deep (a.length+x.deep)/\a.length+x.deep<=(repl v a x).deep/\a.length+u.deep<=v.deep
 | [],v,p,u,q,x,_,h2=>by
  have h2:some (v,p)=some (u,q):=by unfold trail at h2;exact h2
  injection h2 with h2;injection h2 with h2 h3;subst h2 h3;unfold repl;simp
  lia
 | t::a,v,p,u,q,x,h1,h2=>by
  obtain⟨i,n,w,e1,e2,e3,e4⟩:=trail_cons h1 h2
  have e1:v.memberOf t=some i:=e1
  have e2:v.member i=some (n,w):=e2
  obtain⟨k1,k2,k3⟩:=repl_deep a w _ u q x e3 e4
  obtain⟨j1,j2,j3⟩:=with_deep e2 (repl w a x)
  rw[repl_cons e1 e2];show _<=max _ (a.length+1+x.deep)/\a.length+1+x.deep<=_/\a.length+1+u.deep<=_
  lia
theorem doneAt_snoc:∀(a:List Sw.Step)(v:Value)(p:Nat)(u:Value)(q:Nat)(s:Sw.Step)(d:Deed),(trail (v,p) a).length=a.length+1->(trail (v,p) a).getLast? =some (u,q) ->
  v.doneAt (a++[s]) d=(u.done s d).map (repl v a)
 | [],v,p,u,q,s,d,_,h2=>by
  have h2:some (v,p)=some (u,q):=by unfold trail at h2;exact h2
  injection h2 with h2;injection h2 with h2 h3;subst h2 h3;show v.doneAt [s] d=_
  unfold Value.doneAt;cases v.done s d with
  | none=>rfl
  | some z=>rfl
 | t::a,v,p,u,q,s,d,h1,h2=>by
  obtain⟨i,n,w,e1,e2,e3,e4⟩:=trail_cons h1 h2
  have ih:=doneAt_snoc a w _ u q s d e3 e4
  obtain⟨b,l,hb⟩:∃b l,a++[s]=b::l:=by cases a<;>exact⟨_,_,rfl⟩
  show v.doneAt (t::(a++[s])) d=_
  rw[hb]at ih |-;have:v.doneAt (t::b::l) d=(v.memberOf t).bind λ(i:Nat)=>(v.member i).bind λ(x:Bytes×Value)=>(x.2.doneAt (b::l) d).map (v.with_ i):=by
   conv=>lhs;unfold Value.doneAt
  rw[this,e1];show(v.member i).bind _=_
  rw[e2];show(w.doneAt (b::l) d).map (v.with_ i)=_
  rw[ih];cases u.done s d with
  | none=>rfl
  | some z =>
   show some (v.with_ i (repl w a z))=some (repl v (t::a) z)
   rw[repl_cons e1 e2]
theorem doneAt_no:∀(a:List Sw.Step)(v:Value)(p:Nat)(s:Sw.Step)(d:Deed),(trail (v,p) a).length<=a.length->v.doneAt (a++[s]) d=none
 | [],v,p,s,d,h=>by
  unfold trail at h;exact aW h (by simp)
 | t::a,v,p,s,d,h=>by
  obtain⟨b,l,hb⟩:∃b l,a++[s]=b::l:=by cases a<;>exact⟨_,_,rfl⟩
  show v.doneAt (t::(a++[s])) d=_
  have ih:=λw p'=>doneAt_no a w p' s d
  rw[hb]at ih |-;have:v.doneAt (t::b::l) d=(v.memberOf t).bind λ(i:Nat)=>(v.member i).bind λ(x:Bytes×Value)=>(x.2.doneAt (b::l) d).map (v.with_ i):=by
   conv=>lhs;unfold Value.doneAt
  rw[this];unfold trail at h;cases e:go (v,p) t with
  | none =>
   have:=go_none e
   have this:v.memberOf t=none:=this
   rw[this];rfl
  | some z =>
   rw[e]at h;have h:(trail z a).length+1<=a.length+1:=h
   obtain⟨i,n,e1,e2,e3⟩:=kY e
   have e1:v.memberOf t=some i:=e1
   have e2:v.member i=some (n,z.1):=e2
   rw[e1];show(v.member i).bind _=_
   rw[e2];show(z.1.doneAt (b::l) d).map (v.with_ i)=_
   rw[ih z.1 z.2 (by show(trail z a).length<=_;exact bA h)]
   rfl
def nR:Row->Bool->Nat->Nat
 | _,_,0=>0
 | .nil,_,_+1=>0
 | .cons n v r,named,i+1=>(nmB named n).length+v.enc.length+nR r named i
def fR:Row->Bool->Nat->Bytes×Bytes
 | m,named,0=>([],m.enc named)
 | .nil,_,_+1=>([],[])
 | .cons n v r,named,i+1=>(nmB named n++(v.enc++(fR r named i).1),(fR r named i).2)
theorem qe:∀(m:Row)(named:Bool)(i:Nat),m.enc named=(fR m named i).1++(fR m named i).2/\(fR m named i).1.length=nR m named i
 | m,named,0=>by
  unfold fR nR;cases m<;>simp
 | .nil,named,i+1=>by
  unfold fR nR;rw[enc_nil];exact⟨rfl,rfl⟩
 | .cons n v r,named,i+1=>by
  obtain⟨k1,k2⟩:=qe r named i
  unfold fR nR;refine⟨?_,?_⟩
  .rw[enc_cons];conv=>lhs;rw[k1]
   simp only[aY]
  .show(nmB named n++(v.enc++(fR r named i).1)).length=_
   rw[ae,ae,k2];exact(bh _ _ _).symm
theorem oM:∀(m:Row)(i:Nat),i<m.length->(m.drop_ i).length+1=m.length
 | .nil,i,h=>aW h (by show ¬i<0;exact dA _)
 | .cons n v r,0,h=>by unfold Row.drop_;rfl
 | .cons n v r,i+1,h=>by
  have h:i+1<r.length+1:=h
  unfold Row.drop_;show(r.drop_ i).length+1+1=r.length+1
  rw[oM r i (bA h)]
theorem lg:∀(m:Row)(named:Bool)(i:Nat),i<m.length->(m.drop_ i).enc named=(fR m named i).1++(fR m named (i+1)).2
 | .nil,named,i,h=>aW h (by show ¬i<0;exact dA _)
 | .cons n v r,named,0,h=>by
  unfold Row.drop_ fR fR;simp
 | .cons n v r,named,i+1,h=>by
  have h:i+1<r.length+1:=h
  have ih:=lg r named i (bA h)
  unfold Row.drop_;rw[enc_cons,ih];conv=>rhs;arg 1;unfold fR
  conv=>rhs;arg 2;unfold fR
  simp only[aY]
theorem kl:∀(m:Row)(i:Nat),m.plain=true->(m.drop_ i).plain=true
 | .nil,i,h=>by unfold Row.drop_;exact h
 | .cons n v r,0,h=>by
  have h:(v.plain&&r.plain)=true:=h
  rw[aE]at h;unfold Row.drop_;exact h.2
 | .cons n v r,i+1,h=>by
  have h:(v.plain&&r.plain)=true:=h
  rw[aE]at h;unfold Row.drop_;show(v.plain&&(r.drop_ i).plain)=true
  rw[h.1,kl r i h.2];rfl
theorem l8:∀(m:Row)(i:Nat),(m.drop_ i).deep<=m.deep
 | .nil,i=>by unfold Row.drop_;exact aF _
 | .cons n v r,0=>by
  unfold Row.drop_;rw[dq];lia
 | .cons n v r,i+1=>by
  unfold Row.drop_;have:=l8 r i
  rw[dq,dq];lia
theorem km:∀(m:Row)(i:Nat)(f:Bytes->Bool),m.names.all f=true->(m.drop_ i).names.all f=true
 | .nil,i,f,h=>by unfold Row.drop_;exact h
 | .cons n v r,0,f,h=>by
  have h:(f n&&r.names.all f)=true:=h
  rw[aE]at h;unfold Row.drop_;exact h.2
 | .cons n v r,i+1,f,h=>by
  have h:(f n&&r.names.all f)=true:=h
  rw[aE]at h;unfold Row.drop_;show(f n&&(r.drop_ i).names.all f)=true
  rw[h.1,km r i f h.2];rfl
theorem ij:∀a b c:Bytes,bytesBefore a b=true->bytesBefore b c=true->bytesBefore a c=true
 | [],[],c,h,_=>by cases h
 | _::_,[],c,h,_=>by cases h
 | [],_::_,[],_,h=>by cases h
 | [],_::_,_::_,_,_=>rfl
 | x::a,y::b,[],_,h=>by cases h
 | x::a,y::b,z::c,h1,h2=>by
  have g1:(decide (x.toNat<y.toNat)||(x==y&&bytesBefore a b))=true:=h1
  have g2:(decide (y.toNat<z.toNat)||(y==z&&bytesBefore b c))=true:=h2
  show(decide (x.toNat<z.toNat)||(x==z&&bytesBefore a c))=true
  rw[dN,bw,aE,beq_iff_eq]at g1 g2 |-;rcases g1 with g1 | ⟨e1,g1⟩
  .rcases g2 with g2 | ⟨e2,g2⟩
   .exact .inl (jt g1 g2)
   .exact .inl (by rw[<-e2];exact g1)
  .rcases g2 with g2 | ⟨e2,g2⟩
   .exact .inl (by rw[e1];exact g2)
   .exact .inr ⟨e1.trans e2,ij a b c g1 g2⟩
theorem fC:∀(n:Bytes)(l:List Bytes),rising (n::l)=true↔(∀k∈l,bytesBefore n k=true)/\rising l=true
 | n,[]=>⟨λξ=>⟨λξ h=>(by cases h),rfl⟩,λξ=>rfl⟩
 | n,k::l=>by
  have e:rising (n::k::l)=(bytesBefore n k&&rising (k::l)):=rfl
  rw[e,aE];have ih:=fC k l
  constructor
  .rintro⟨h1,h2⟩
   refine⟨λx hx=>?_,h2⟩
   rcases aI.mp hx with rfl | hx
   .exact h1
   .exact ij _ _ _ h1 ((ih.mp h2).1 x hx)
  .rintro⟨h1,h2⟩
   exact⟨h1 k a7,h2⟩
theorem rT:∀(m:Row)(i:Nat)(k:Bytes),k∈(m.drop_ i).names->k∈m.names
 | .nil,i,k,h=>by unfold Row.drop_ at h;exact h
 | .cons n v r,0,k,h=>by
  unfold Row.drop_ at h;exact aA _ h
 | .cons n v r,i+1,k,h=>by
  unfold Row.drop_ at h;have h:k∈n::(r.drop_ i).names:=h
  rcases aI.mp h with rfl | h
  .exact a7
  .exact aA _ (rT r i k h)
theorem mO:∀(m:Row)(i:Nat),rising m.names=true->rising (m.drop_ i).names=true
 | .nil,i,h=>by unfold Row.drop_;exact h
 | .cons n v r,0,h=>by
  unfold Row.drop_;exact((fC n r.names).mp h).2
 | .cons n v r,i+1,h=>by
  obtain⟨h1,h2⟩:=(fC n r.names).mp h
  unfold Row.drop_;exact(fC n (r.drop_ i).names).mpr ⟨λk hk=>h1 k (rT r i k hk),mO r i h2⟩
theorem vary_mono:∀(n k:Nat),n<=k->(vary n).length<=(vary k).length:=λn=>by
 induction n using Nat.strongRecOn with
 | ind n ih =>
  intro k h;unfold vary;by_cases h1:n<128
  .rw[ax h1];by_cases h2:k<128
   .rw[ax h2];exact aF 1
   .rw[ay h2];show 1<=(vary (k / 128)).length+1
    exact a8 _ _
  .rw[ay h1,ay (show ¬k<128 by lia)]
   have:=ih (n / 128) (by lia) (k / 128) (by lia)
   show(vary (n / 128)).length+1<=(vary (k / 128)).length+1
   exact bO this
theorem done_take{u:Value}{s:Sw.Step}{i:Nat}(h:u.memberOf s=some i)(hp:u.plain=true) :
  ∃u',u.done s .take=some u'/\u'.plain=true/\u'.deep<=u.deep /\
   u'.enc=UInt8.ofNat u.kind::(vary ((rowOf u).length-1)++((fR (rowOf u) (namedOf u) i).1++(fR (rowOf u) (namedOf u) (i+1)).2)):=by
 have hl:=memberOf_lt h
 cases u with
 | list m =>
  have hl:i<m.length:=hl
  have hp:(m.plain&&m.names.all λ(n:Bytes)=>n==[])=true:=hp
  rw[aE]at hp;refine⟨.list (m.drop_ i),?_,?_,?_,?_⟩
  .unfold Value.done;rw[h]
  .show((m.drop_ i).plain&&(m.drop_ i).names.all λ(n:Bytes)=>n==[])=true
   rw[kl m i hp.1,km m i _ hp.2];rfl
  .rw[list_deep,list_deep];have:=l8 m i
   exact bO this
  .have:=oM m i hl
   rw[iB,lg m false i hl];show _=_::(vary (m.length-1)++_)
   rw[<-this];rfl
 | rec_ m =>
  have hl:i<m.length:=hl
  have hp:(m.plain&&(m.names.all nameOk&&rising m.names))=true:=hp
  rw[aE,aE]at hp;refine⟨.rec_ (m.drop_ i),?_,?_,?_,?_⟩
  .unfold Value.done;rw[h]
  .show((m.drop_ i).plain&&((m.drop_ i).names.all nameOk&&rising (m.drop_ i).names))=true
   rw[kl m i hp.1,km m i _ hp.2.1,mO m i hp.2.2];rfl
  .rw[rec_deep,rec_deep];have:=l8 m i
   exact bO this
  .have:=oM m i hl
   rw[jj,lg m true i hl];show _=_::(vary (m.length-1)++_)
   rw[<-this];rfl
 | _=>cases s<;>cases h
theorem lj{u:Value}{s:Sw.Step}(h:u.memberOf s=none):u.done s .take=none:=by
 unfold Value.done;rw[h];cases u<;>rfl
theorem kc:∀(m:Row)(i:Nat)(x:Value),i<=m.length->(m.insert i x).length=m.length+1
 | .nil,0,x,_=>by unfold Row.insert;rfl
 | .cons n v r,0,x,_=>by unfold Row.insert;rfl
 | .nil,i+1,x,h=>aW h (by show ¬i+1<=0;exact dA _)
 | .cons n v r,i+1,x,h=>by
  have h:i+1<=r.length+1:=h
  unfold Row.insert;show(r.insert i x).length+1=r.length+1+1
  rw[kc r i x (bA h)]
theorem ki:∀(m:Row)(i:Nat)(x:Value),i<=m.length->(m.insert i x).enc false=(fR m false i).1++(x.enc++(fR m false i).2)
 | .nil,0,x,_=>by unfold Row.insert fR;rw[enc_cons];rfl
 | .cons n v r,0,x,_=>by unfold Row.insert fR;rw[enc_cons];rfl
 | .nil,i+1,x,h=>aW h (by show ¬i+1<=0;exact dA _)
 | .cons n v r,i+1,x,h=>by
  have h:i+1<=r.length+1:=h
  unfold Row.insert;rw[enc_cons,ki r i x (bA h)];conv=>rhs;unfold fR
  simp only[aY]
theorem kU:∀(m:Row)(i:Nat)(x:Value),m.plain=true->x.plain=true->(m.insert i x).plain=true
 | .nil,0,x,h,hx=>by
  unfold Row.insert;show(x.plain&&Row.nil.plain)=true
  rw[hx,h];rfl
 | .cons n v r,0,x,h,hx=>by
  unfold Row.insert;show(x.plain&&(Row.cons n v r).plain)=true
  rw[hx,h];rfl
 | .nil,i+1,x,h,hx=>by
  unfold Row.insert;show(x.plain&&Row.nil.plain)=true
  rw[hx,h];rfl
 | .cons n v r,i+1,x,h,hx=>by
  have h:(v.plain&&r.plain)=true:=h
  rw[aE]at h;unfold Row.insert;show(v.plain&&(r.insert i x).plain)=true
  rw[h.1,kU r i x h.2 hx];rfl
theorem kW:∀(m:Row)(i:Nat)(x:Value),(m.names.all λ(n:Bytes)=>n==[])=true->((m.insert i x).names.all λ(n:Bytes)=>n==[])=true
 | .nil,0,x,h=>by unfold Row.insert;rfl
 | .cons n v r,0,x,h=>by
  unfold Row.insert;show(true&&(Row.cons n v r).names.all λ(n:Bytes)=>n==[])=true
  rw[h];rfl
 | .nil,i+1,x,h=>by unfold Row.insert;rfl
 | .cons n v r,i+1,x,h=>by
  have h:((n==[])&&r.names.all λ(n:Bytes)=>n==[])=true:=h
  rw[aE]at h;unfold Row.insert;show((n==[])&&(r.insert i x).names.all λ(n:Bytes)=>n==[])=true
  rw[h.1,kW r i x h.2];rfl
theorem mK:∀(m:Row)(i:Nat)(x:Value),(m.insert i x).deep=max m.deep x.deep
 | .nil,0,x=>by
  unfold Row.insert;rw[dq,oO];lia
 | .cons n v r,0,x=>by
  unfold Row.insert;rw[dq];lia
 | .nil,i+1,x=>by
  unfold Row.insert;rw[dq,oO];lia
 | .cons n v r,i+1,x=>by
  unfold Row.insert;have:=mK r i x
  rw[dq,dq];lia
theorem fB(k:Bytes)(v:Value)(r:Row)(n:Bytes)(x:Value):(Row.cons k v r).under n x=if bytesBefore n k=true then .cons n x (.cons k v r)else .cons k v (r.under n x):=by
 conv=>lhs;unfold Row.under
theorem gI(n:Bytes)(x:Value):Row.nil.under n x =.cons n x .nil:=by
 unfold Row.under;rfl
theorem lJ:∀(m:Row)(n:Bytes)(x:Value),(m.under n x).length=m.length+1
 | .nil,n,x=>by rw[gI];rfl
 | .cons k v r,n,x=>by
  rw[fB];by_cases h:bytesBefore n k=true
  .rw[ax h];rfl
  .rw[ay h];show(r.under n x).length+1=r.length+1+1
   rw[lJ r]
theorem mw:∀(m:Row)(n:Bytes)(x:Value),m.plain=true->x.plain=true->(m.under n x).plain=true
 | .nil,n,x,h,hx=>by
  rw[gI];show(x.plain&&Row.nil.plain)=true
  rw[hx,h];rfl
 | .cons k v r,n,x,h,hx=>by
  rw[fB];by_cases q:bytesBefore n k=true
  .rw[ax q];show(x.plain&&(Row.cons k v r).plain)=true
   rw[hx,h];rfl
  .rw[ay q];have h:(v.plain&&r.plain)=true:=h
   rw[aE]at h;show(v.plain&&(r.under n x).plain)=true
   rw[h.1,mw r n x h.2 hx];rfl
theorem nJ:∀(m:Row)(n:Bytes)(x:Value),(m.under n x).deep=max m.deep x.deep
 | .nil,n,x=>by
  rw[gI,dq,oO];lia
 | .cons k v r,n,x=>by
  rw[fB];by_cases q:bytesBefore n k=true
  .rw[ax q,dq];lia
  .rw[ay q,dq,dq,nJ r];lia
theorem lI:∀(m:Row)(n:Bytes)(x:Value)(k:Bytes),k∈(m.under n x).names->k=n\/k∈m.names
 | .nil,n,x,k,h=>by
  rw[gI]at h;exact .inl (aN.mp h)
 | .cons k0 v r,n,x,k,h=>by
  rw[fB]at h;by_cases q:bytesBefore n k0=true
  .rw[ax q]at h;exact(aI.mp h)
  .rw[ay q]at h;have h:k∈k0::(r.under n x).names:=h
   rcases aI.mp h with rfl | h
   .exact .inr a7
   .exact(lI r n x k h).imp id (aA _)
theorem kE:∀(m:Row)(n:Bytes)(x:Value),rising m.names=true->n∉m.names->rising (m.under n x).names=true
 | .nil,n,x,_,_=>by rw[gI];rfl
 | .cons k v r,n,x,h,hn=>by
  obtain⟨h1,h2⟩:=(fC k r.names).mp h
  rw[fB];by_cases q:bytesBefore n k=true
  .rw[ax q];refine(fC n (k::r.names)).mpr ⟨λz hz=>?_,h⟩
   rcases aI.mp hz with rfl | hz
   .exact q
   .exact ij _ _ _ q (h1 z hz)
  .rw[ay q];have ne:n≠k:=λe=>hn (by rw[e];exact a7)
   have kn:bytesBefore k n=true:=by
    cases e:bytesBefore k n with
    | true=>rfl
    | false=>exact aW (ik _ _ (by simpa using q) e) ne
   refine(fC k (r.under n x).names).mpr ⟨λz hz=>?_,kE r n x h2 λe=>hn (aA _ e)⟩
   rcases lI r n x z hz with rfl | hz
   .exact kn
   .exact h1 z hz
def cntB(m:Row)(n:Bytes):Nat:=(m.names.filter λ(k:Bytes)=>bytesBefore k n).length
theorem lK:∀(m:Row)(n:Bytes)(x:Value),rising m.names=true->n∉m.names->(m.under n x).enc true=(fR m true (cntB m n)).1++(vary n.length++(n++(x.enc++(fR m true (cntB m n)).2)))
 | .nil,n,x,_,_=>by
  rw[gI,enc_cons];show _=(fR .nil true 0).1++(_++(_++(_++(fR .nil true 0).2)))
  unfold fR;show(vary n.length++n)++_=_
  simp only[aY,ft]
 | .cons k v r,n,x,h,hn=>by
  obtain⟨h1,h2⟩:=(fC k r.names).mp h
  rw[fB];by_cases q:bytesBefore n k=true
  .rw[ax q];have e:cntB (.cons k v r) n=0:=by
    unfold cntB;rw[de,gz];intro z hz hb;have hz:z∈k::r.names:=hz
    have:bytesBefore n z=true:=by
     rcases aI.mp hz with rfl | hz
     .exact q
     .exact ij _ _ _ q (h1 z hz)
    rw[jq _ _ this]at hb;cases hb
   rw[e,enc_cons];unfold fR;show(vary n.length++n)++_=_
   simp only[aY,ft]
  .rw[ay q];have ne:n≠k:=λe=>hn (by rw[e];exact a7)
   have kn:bytesBefore k n=true:=by
    cases e:bytesBefore k n with
    | true=>rfl
    | false=>exact aW (ik _ _ (by simpa using q) e) ne
   have e:cntB (.cons k v r) n=cntB r n+1:=by
    unfold cntB;show((k::r.names).filter _).length=_
    rw[gS,ax kn];rfl
   rw[e,enc_cons,lK r n x h2 λe=>hn (aA _ e)]
   conv=>rhs;unfold fR
   simp only[aY]
theorem indexOf_none{m:Row}{n:Bytes}:m.indexOf n=none↔n∉m.names:=by
 unfold Row.indexOf;rw[List.findIdx?_eq_none_iff];constructor
 .intro h hm;have:=h n hm
  simp at this
 .intro h z hz;cases e:(z==n)with
  | false=>rfl
  | true =>
   have e:=eq_of_beq e
   subst e;exact aW hz h
theorem cntB_le(m:Row)(n:Bytes):cntB m n<=m.length:=by
 rw[<-names_len];exact List.length_filter_le _ _
def isHold(u:Value):Prop:=u.kind=5\/u.kind=6
theorem hold_enc{u:Value}(hu:isHold u):u.enc=UInt8.ofNat u.kind::(vary (rowOf u).length++(rowOf u).enc (namedOf u))/\ioff u=1+(vary (rowOf u).length).length:=by
 cases u with
 | list m=>exact⟨iB m,rfl⟩
 | rec_ m=>exact⟨jj m,rfl⟩
 | _=>rcases hu with hu | hu<;>cases hu
theorem ok_of{w:Value}(hp:w.plain=true):w.ok=(decide (w.deep<=DEEP)&&decide (w.enc.length<=MOST)):=by
 unfold Value.ok;rw[hp,gX]
theorem memberOf_hold{u:Value}{s:Sw.Step}{i:Nat}(h:u.memberOf s=some i):isHold u:=by
 cases u<;>first
  | exact .inl rfl
  | exact .inr rfl
  | (cases s<;>cases h)
theorem qU:∀(a:List Sw.Step)(v:Value)(p:Nat)(u:Value)(q:Nat),v.plain=true->(u,q)∈trail (v,p) a->u.plain=true
 | [],v,p,u,q,hv,h=>by
  unfold trail at h;have h:=aN.mp h
  injection h with h1 h2;rw[h1];exact hv
 | t::a,v,p,u,q,hv,h=>by
  unfold trail at h;rcases aI.mp h with h | h
  .injection h with h1 h2;rw[h1];exact hv
  .cases e:go (v,p) t with
   | none=>rw[e]at h;cases h
   | some z =>
    rw[e]at h;have h:(u,q)∈trail z a:=h
    obtain⟨i,n,e1,e2,e3⟩:=kY e
    exact qU a z.1 z.2 u q (plain_mem hv e2) h
theorem trail_last_pl{a:List Sw.Step}{v:Value}{p:Nat}{u:Value}{q:Nat}(hv:v.plain=true)(h:(trail (v,p) a).getLast? =some (u,q)):u.plain=true :=
 qU a v p u q hv (List.mem_of_getLast? h)
theorem take_none{v:Value}{l:List Sw.Step}(h:l=[]\/(trail (v,0) l).length<=l.length):v.doneAt l .take=none:=by
 rcases cG l with rfl | ⟨a,s,rfl⟩
 .rfl
 .rw[cH]at h |-;have h:(trail (v,0) (a++[s])).length<=(a++[s]).length:=h.resolve_left (by simp)
  by_cases q:(trail (v,0) a).length<=a.length
  .exact doneAt_no a v 0 s _ q
  .have hle:=leads_le a v
   have hl:=trail_len a (v,0)
   have h1:(trail (v,0) a).length=a.length+1:=by
    have:(trail (v,0) a).length=(v.leads a).length+1:=hl
    lia
   cases e:(trail (v,0) a).getLast? with
   | none=>exact aW (bz.mp e) (trail_ne _ _)
   | some y =>
    obtain⟨u,q'⟩:=y
    rw[doneAt_snoc a v 0 u q' s _ h1 e];rw[trail_snoc a (v,0) (u,q') s [] h1 e]at h;cases g:go (u,q') s with
    | none=>rw[lj (go_none g)];rfl
    | some z =>
     rw[g]at h;have h:(trail (v,0) a++trail z []).length<=(a++[s]).length:=h
     have kz:(trail z []).length=1:=by unfold trail;rfl
     rw[ae,ae,kz]at h;have:([s]:List Sw.Step).length=1:=rfl
     lia
theorem done_put{u:Value}{s:Sw.Step}{i:Nat}(h:u.memberOf s=some i)(x:Value):u.done s (.put x)=some (u.with_ i x):=by
 cases u with
 | list m =>
  cases s with
  | index z =>
   have h:(if 0<=z/\z<(m.length:Int)then some z.toNat else none)=some i:=h
   unfold Value.done;by_cases q:0<=z/\z<(m.length:Int)
   .rw[ax q]at h;injection h with h;show(if 0<=z/\z<(m.length:Int)then some (Value.list (m.set z.toNat x))else _)=_
    rw[ax q,h];rfl
   .rw[ay q]at h;cases h
  | name n=>cases h
 | rec_ m =>
  cases s with
  | index z=>cases h
  | name n =>
   have h:m.indexOf n=some i:=h
   unfold Value.done;show(match m.indexOf n with
    | some i=>some (Value.rec_ (m.set i x))
    | none=>if nameOk n=true then some (.rec_ (m.under n x))else none)=_
   rw[h];rfl
 | _=>cases s<;>cases h
theorem pH:∀(a:List Sw.Step)(v:Value)(p:Nat)(u:Value)(q:Nat)(s:Sw.Step)(i:Nat)(n:Bytes)(w x:Value),(trail (v,p) a).length=a.length+1->(trail (v,p) a).getLast? =some (u,q)->u.memberOf s=some i->u.member i=some (n,w) ->
  repl v (a++[s]) x=repl v a (u.with_ i x)
 | [],v,p,u,q,s,i,n,w,x,_,h2,h3,h4=>by
  have h2:some (v,p)=some (u,q):=by unfold trail at h2;exact h2
  injection h2 with h2;injection h2 with h2 h5;subst h2 h5;show repl v [s] x=_
  rw[repl_cons h3 h4];unfold repl;rfl
 | t::a,v,p,u,q,s,i,n,w,x,h1,h2,h3,h4=>by
  obtain⟨j,k,y,e1,e2,e3,e4⟩:=trail_cons h1 h2
  have e1:v.memberOf t=some j:=e1
  have e2:v.member j=some (k,y):=e2
  show repl v (t::(a++[s])) x=_
  rw[repl_cons e1 e2,repl_cons e1 e2,pH a y _ u q s i n w x e3 e4 h3 h4]
theorem trail_front{v:Value}{p:Nat}{a:List Sw.Step}{s:Sw.Step}{y:Value×Nat}(h1:(trail (v,p) (a++[s])).length=(a++[s]).length+1)(h2:(trail (v,p) (a++[s])).getLast? =some y) :
  ∃u q i n,(trail (v,p) a).length=a.length+1/\(trail (v,p) a).getLast? =some (u,q)/\u.memberOf s=some i/\u.member i=some (n,y.1)/\y.2=mplace u q i/\trail (v,p) (a++[s])=trail (v,p) a++[y]:=by
 have hg:∀(a:List Sw.Step)(x:Value×Nat),(trail x (a++[s])).length=(a++[s]).length+1->(trail x a).length=a.length+1:=by
  intro a;induction a with
  | nil=>intro x _;unfold trail;rfl
  | cons t a ih =>
   intro x h;have h:(trail x (t::(a++[s]))).length=(a++[s]).length+1+1:=h
   unfold trail at h |-;cases e:go x t with
   | none=>rw[e]at h;simp at h
   | some z =>
    rw[e]at h;have h:(trail z (a++[s])).length+1=(a++[s]).length+1+1:=h
    show(trail z a).length+1=a.length+1+1
    rw[ih z (Nat.succ.inj h)]
 have k1:=hg a (v,p) h1
 cases e:(trail (v,p) a).getLast? with
 | none=>exact aW (bz.mp e) (trail_ne _ _)
 | some z =>
  obtain⟨u,q⟩:=z
  have k2:=trail_snoc a (v,p) (u,q) s [] k1 e
  cases g:go (u,q) s with
  | none =>
   rw[g]at k2;rw[k2]at h1;simp only[bJ,ae,ao,dB]at h1;lia
  | some z =>
   rw[g]at k2;have k2:trail (v,p) (a++[s])=trail (v,p) a++trail z []:=k2
   have kz:trail z []=[z]:=by unfold trail;rfl
   rw[kz]at k2;rw[k2,List.getLast?_concat]at h2;injection h2 with h2;subst h2;obtain⟨i,n,g1,g2,g3⟩:=kY g
   exact⟨u,q,i,n,k1,rfl,g1,g2,g3,k2⟩
theorem put_old{v:Value}{l:List Sw.Step}{u:Value}{q:Nat}(x:Value)(hv:v.plain=true)(hd:v.deep<=64)(hx:x.plain=true)
  (h1:(trail (v,0) l).length=l.length+1)(h2:(trail (v,0) l).getLast? =some (u,q)) :
  ∃w,v.doneAt l (.put x)=some w/\w.ok=(decide (l.length+x.deep<=64)&&decide (w.enc.length<=MOST))/\w.enc=v.enc.take q++(x.enc++v.enc.drop (q+u.enc.length)):=by
 obtain⟨pre,post,e1,e2,e3⟩:=repl_enc l v 0 u q h1 h2
 obtain⟨r1,r2,r3⟩:=repl_deep l v 0 u q x h1 h2
 refine⟨repl v l x,?_,?_,?_⟩
 .rcases cG l with rfl | ⟨a,s,rfl⟩
  .rfl
  .rw[cH]at h1 h2 |-;obtain⟨u0,q0,i,n,k1,k2,k3,k4,k5,k6⟩:=trail_front h1 h2
   rw[doneAt_snoc a v 0 u0 q0 s _ k1 k2,done_put k3 x,pH a v 0 u0 q0 s i n _ x k1 k2 k3 k4];rfl
 .rw[ok_of (repl_plain l v x hv hx)];congr 1
  unfold DEEP;exact decide_eq_decide.mpr (by lia)
 .have hq:pre.length=q:=by lia
  rw[e3,e1,<-hq,iH,<-cy,eE,eE]
theorem list_put{m:Row}{x:Value}(hp:(Value.list m).plain=true)(hx:x.plain=true)(i:Nat)(hi:i<=m.length) :
  (Value.list (m.insert i x)).plain=true/\(Value.list (m.insert i x)).deep=max (Value.list m).deep (x.deep+1)/\(Value.list (m.insert i x)).enc=UInt8.ofNat (Value.list m).kind::(vary (m.length+1)++((fR m false i).1++(x.enc++(fR m false i).2))):=by
 have hp:(m.plain&&m.names.all λ(n:Bytes)=>n==[])=true:=hp
 rw[aE]at hp;refine⟨?_,?_,?_⟩
 .show((m.insert i x).plain&&(m.insert i x).names.all λ(n:Bytes)=>n==[])=true
  rw[kU m i x hp.1 hx,kW m i x hp.2];rfl
 .rw[list_deep,list_deep,mK];lia
 .rw[iB,kc m i x hi,ki m i x hi];rfl
theorem rec_put{m:Row}{x:Value}{n:Bytes}(hp:(Value.rec_ m).plain=true)(hx:x.plain=true)(hn:m.indexOf n=none)(ho:nameOk n=true) :
  (Value.rec_ (m.under n x)).plain=true/\(Value.rec_ (m.under n x)).deep=max (Value.rec_ m).deep (x.deep+1)/\(Value.rec_ (m.under n x)).enc=UInt8.ofNat (Value.rec_ m).kind::(vary (m.length+1)++((fR m true (cntB m n)).1++((vary n.length++(n++x.enc))++(fR m true (cntB m n)).2))):=by
 have hp:(m.plain&&(m.names.all nameOk&&rising m.names))=true:=hp
 rw[aE,aE]at hp;have hn:=indexOf_none.mp hn
 refine⟨?_,?_,?_⟩
 .show((m.under n x).plain&&((m.under n x).names.all nameOk&&rising (m.under n x).names))=true
  rw[mw m n x hp.1 hx,kE m n x hp.2.2 hn];have:(m.under n x).names.all nameOk=true:=by
   rw[dU];intro k hk;rcases lI m n x k hk with rfl | hk
   .exact ho
   .exact dU.mp hp.2.1 k hk
  rw[this];rfl
 .rw[rec_deep,rec_deep,nJ];lia
 .rw[jj,lJ,lK m n x hp.2.2 hn];simp only[aY];rfl
theorem jV:∀a:Bytes,bytesBefore a a=false
 | []=>rfl
 | c::l=>by
  show(decide (c.toNat<c.toNat)||(c==c&&bytesBefore l l))=false
  rw[jV l,ai (cw _),gC];rfl
theorem yQ{a b:UInt8}{l r:Bytes}:bytesBefore (a::l) (b::r)=true↔a.toNat<b.toNat\/(a=b/\bytesBefore l r=true):=by
 show(decide (a.toNat<b.toNat)||(a==b&&bytesBefore l r))=true↔_
 rw[dN,aE,bw,beq_iff_eq]
theorem jM:∀{a b c:Bytes},bytesBefore a b=true->bytesBefore b c=true->bytesBefore a c=true
 | [],[],_,h,_=>by cases h
 | [],_::_,[],_,h=>by cases h
 | [],_::_,_::_,_,_=>rfl
 | _::_,[],_,h,_=>by cases h
 | _::_,_::_,[],_,h=>by cases h
 | x::a,y::b,z::c,h1,h2=>by
  rw[yQ]at h1 h2 |-;rcases h1 with h1 | ⟨rfl,h1⟩
  .rcases h2 with h2 | ⟨rfl,h2⟩
   .exact .inl (jt h1 h2)
   .exact .inl h1
  .rcases h2 with h2 | ⟨rfl,h2⟩
   .exact .inl h2
   .exact .inr ⟨rfl,jM h1 h2⟩
theorem mD{a:Bytes}{r:List Bytes}(h:rising (a::r)=true):rising r=true:=by
 cases r with
 | nil=>rfl
 | cons b r =>
  have h:(bytesBefore a b&&rising (b::r))=true:=h
  rw[aE]at h;exact h.2
theorem mE:∀{r:List Bytes}{a:Bytes},rising (a::r)=true->∀x∈r,bytesBefore a x=true
 | [],_,_,x,hx=>by simp at hx
 | b::r,a,h,x,hx=>by
  have h':(bytesBefore a b&&rising (b::r))=true:=h
  rw[aE]at h'
  rcases aI.mp hx with rfl | hx
  .exact h'.1
  .exact jM h'.1 (mE h'.2 x hx)
theorem gJ:∀{ns:List Bytes},rising ns=true->∀{i j:Nat}{x y:Bytes},i<j->ns[i]? =some x->ns[j]? =some y->bytesBefore x y=true
 | [],_,i,j,x,y,_,e,_=>by simp at e
 | a::r,h,0,j+1,x,y,_,e1,e2=>by
  have e1:some a=some x:=e1
  injection e1 with e1;subst e1;exact mE h y (di e2)
 | a::r,h,i+1,j+1,x,y,Vg,e1,e2=>gJ (mD h) (bA Vg) e1 e2
theorem cnt_split{p:Bytes->Bool}:∀{ns:List Bytes}{b:Nat},b<=ns.length->(∀j x,j<b->ns[j]? =some x->p x=true)->(∀j x,b<=j->ns[j]? =some x->p x=false)->(ns.filter p).length=b
 | [],b,hb,_,_=>by
  have:b=0:=by simpa using hb
  rw[this];rfl
 | a::r,0,_,h1,h2=>by
  rw[de,gz];intro x hx;obtain⟨j,hj⟩:=dZ hx
  rw[h2 j x (aX _) hj];exact aT
 | a::r,b+1,hb,h1,h2=>by
  rw[gS,h1 0 a (a8 _ _) rfl,ax rfl,ao,cnt_split (b:=b) (by simpa using hb) (λj x hj e=>h1 (j+1) x (bO hj) e) (λj x hj e=>h2 (j+1) x (bO hj) e)]
theorem AR{ns:List Bytes}(h:rising ns=true){i:Nat}{k:Bytes}(e:ns[i]? =some k):(ns.filter λx=>bytesBefore x k).length=i:=by
 refine cnt_split (by have:=(aK.mp e).1;exact cq this) (λj x hj ex=>gJ h hj ex e) (λj x hj ex=>?_)
 by_cases QJ:j=i
 .subst QJ;rw[e]at ex;injection ex with ex;rw[<-ex];exact jV k
 .have h1:=gJ h (show i<j from(f9 hj (ba QJ))) e ex
  cases hb:bytesBefore x k with
  | false=>rfl
  | true =>
   have:=jM h1 hb
   rw[jV]at this;cases this
theorem find_cnt{ns:List Bytes}(h:rising ns=true)(k:Bytes):ns.findIdx? (λx=>x==k)=if ns[(ns.filter λx=>bytesBefore x k).length]? =some k then some (ns.filter λx=>bytesBefore x k).length else none:=by
 by_cases c:ns[(ns.filter λx=>bytesBefore x k).length]? =some k
 .rw[ax c,List.findIdx?_eq_some_iff_getElem];have hl:=(aK.mp c).1
  refine⟨hl,?_,λj hj=>?_⟩
  .rw[(aK.mp c).2];simp
  .have Fc:j<ns.length:=(jt hj hl)
   have h1:=gJ h hj (aO Fc) c
   intro z;rw[beq_iff_eq]at z;rw[z,jV]at h1;cases h1
 .rw[ay c,List.findIdx?_eq_none_iff];intro x hx;rw[bu];intro z;subst z;obtain⟨j,hj⟩:=dZ hx
  have:=AR h hj
  rw[this]at c;exact c hj
theorem half_low{ns:List Bytes}(h:rising ns=true){m:Nat}{x k:Bytes}(e:ns[m]? =some x)(hb:bytesBefore x k=true):∀j y,j<m+1->ns[j]? =some y->bytesBefore y k=true:=λj y hj ey=>by
 by_cases J3:j=m
 .subst J3;rw[e]at ey;injection ey with ey;rw[<-ey];exact hb
 .exact jM (gJ h (show j<m from(f9 (bA hj) J3)) ey e) hb
theorem half_high{ns:List Bytes}(h:rising ns=true){m:Nat}{x k:Bytes}(e:ns[m]? =some x)(hb:bytesBefore x k=false):∀j y,m<=j->ns[j]? =some y->bytesBefore y k=false:=λj y hj ey=>by
 by_cases J3:j=m
 .subst J3;rw[e]at ey;injection ey with ey;rw[<-ey];exact hb
 .have h1:=gJ h (show m<j from(f9 hj (ba J3))) e ey
  cases hy:bytesBefore y k with
  | false=>rfl
  | true =>
   rw[jM h1 hy]at hb;cases hb
theorem rec_rising{m:Row}(h:(Value.rec_ m).plain=true):rising m.names=true:=by
 have h:(m.plain&&(m.names.all nameOk&&rising m.names))=true:=h
 rw[aE,aE]at h;exact h.2.2
def rapp:Row->Row->Row
 | .nil,k=>k
 | .cons n v r,k=>.cons n v (rapp r k)
theorem rapp_nil:∀a:Row,rapp a .nil=a
 | .nil=>rfl
 | .cons n v r=>by
  show Row.cons n v (rapp r .nil)=_
  rw[rapp_nil r]
theorem rapp_len:∀a b:Row,(rapp a b).length=a.length+b.length
 | .nil,b=>by show b.length=0+b.length;lia
 | .cons n v r,b=>by
  show(rapp r b).length+1=r.length+1+b.length
  rw[rapp_len r b];exact dS _ _ _
theorem nV(named:Bool):∀a b:Row,(rapp a b).enc named=a.enc named++b.enc named
 | .nil,b=>by rw[enc_nil];rfl
 | .cons n v r,b=>by
  show(Row.cons n v (rapp r b)).enc named=_
  rw[enc_cons,enc_cons,nV named r b];simp only[aY]
theorem rapp_get:∀(a b:Row)(i:Nat),(rapp a b).get? (a.length+i)=b.get? i
 | .nil,b,i=>by show b.get? (0+i)=_;rw[eP]
 | .cons n v r,b,i=>by
  show(Row.cons n v (rapp r b)).get? (r.length+1+i)=_
  rw[show r.length+1+i=r.length+i+1 from(dS _ _ _)];exact rapp_get r b i
theorem rapp_set:∀(a b:Row)(n:Bytes)(v x:Value),(rapp a (.cons n v b)).set a.length x=rapp a (.cons n x b)
 | .nil,b,n,v,x=>rfl
 | .cons k w r,b,n,v,x=>by
  show Row.cons k w ((rapp r (.cons n v b)).set r.length x)=_
  rw[rapp_set r b n v x];rfl
theorem lR:∀(a b:Row)(n:Bytes)(v:Value),(rapp a (.cons n v b)).drop_ a.length=rapp a b
 | .nil,b,n,v=>rfl
 | .cons k w r,b,n,v=>by
  show Row.cons k w ((rapp r (.cons n v b)).drop_ r.length)=_
  rw[lR r b n v];rfl
theorem rapp_insert:∀(a b:Row)(x:Value),(rapp a b).insert a.length x=rapp a (.cons [] x b)
 | .nil,b,x=>by cases b<;>rfl
 | .cons k w r,b,x=>by
  show Row.cons k w ((rapp r b).insert r.length x)=_
  rw[rapp_insert r b x];rfl
theorem under_at:∀(a b:Row)(n:Bytes)(x:Value),rising (rapp a b).names=true->n∉(rapp a b).names->cntB (rapp a b) n=a.length->(rapp a b).under n x=rapp a (.cons n x b)
 | .nil,.nil,n,x,_,_,_=>by
  show Row.nil.under n x=_
  rw[gI];rfl
 | .nil,.cons k v r,n,x,hr,hn,hc=>by
  show(Row.cons k v r).under n x =.cons n x (.cons k v r)
  rw[fB];have hb:bytesBefore k n=false:=by
   cases hb:bytesBefore k n with
   | false=>rfl
   | true =>
    have hc:((k::r.names).filter λ(y:Bytes)=>bytesBefore y n).length=0:=hc
    rw[gS,ax hb]at hc;simp at hc
  have hk:n≠k:=λz=>hn (by rw[z];exact a7)
  have:bytesBefore n k=true:=by
   cases Fh:bytesBefore n k with
   | true=>rfl
   | false=>exact aW (ik n k Fh hb) hk
  rw[ax this]
 | .cons k v r,b,n,x,hr,hn,hc=>by
  show(Row.cons k v (rapp r b)).under n x =.cons k v (rapp r (.cons n x b))
  rw[fB];have Qp:rising (k::(rapp r b).names)=true:=hr
  have Eh:n∉k::(rapp r b).names:=hn
  have hc':((k::(rapp r b).names).filter λ(y:Bytes)=>bytesBefore y n).length=r.length+1:=hc
  have QE:bytesBefore k n=true:=by
   cases hb:bytesBefore k n with
   | true=>rfl
   | false =>
    have Bw:=half_high Qp (m:=0) (x:=k) (k:=n) rfl hb
    have:((k::(rapp r b).names).filter λ(y:Bytes)=>bytesBefore y n)=[]:=by
     rw[gz];intro y hy;obtain⟨j,hj⟩:=dZ hy
     rw[Bw j y (aX _) hj];exact aT
    rw[this]at hc'
    simp at hc'
  have Gb:¬bytesBefore n k=true:=λz=>by
   rw[jq k n QE]at z;cases z
  rw[ay Gb,under_at r b n x (mD Qp) (λz=>Eh (aA _ z)) ?_]
  unfold cntB;rw[gS,ax QE]at hc'
  simpa using hc'
def withRow:Value->Row->Value
 | .list _,r=>.list r
 | .rec_ _,r=>.rec_ r
 | v,_=>v
theorem withRow_kind(u:Value)(r:Row):(withRow u r).kind=u.kind:=by cases u<;>rfl
theorem withRow_row{u:Value}(h:isHold u)(r:Row):rowOf (withRow u r)=r:=by
 cases u with
 | list m=>rfl
 | rec_ m=>rfl
 | _=>rcases h with h | h<;>cases h
theorem jX(u:Value)(r:Row):namedOf (withRow u r)=namedOf u:=by cases u<;>rfl
theorem ku{u:Value}(h:isHold u)(r:Row):isHold (withRow u r):=by
 unfold isHold at *
 rw[withRow_kind];exact h
theorem hold_len{u:Value}(h:isHold u):u.enc.length=1+(vary (rowOf u).length).length+((rowOf u).enc (namedOf u)).length:=by
 obtain⟨e,_⟩:=hold_enc h
 rw[e,ao,ae];exact Eq.trans (dj _ _) (bh _ _ _).symm
theorem nmB_is{u:Value}(hp:u.plain=true){i:Nat}{n:Bytes}{w:Value}(hm:u.member i=some (n,w)):nmB (namedOf u) n=if n=[]then[]else vary n.length++n:=by
 obtain⟨h1,h2⟩:=name_of hp hm
 unfold nmB;cases e:namedOf u with
 | true=>rw[ax rfl,ay (h2 e)]
 | false=>rw[ay aT,ax (h1 e)]
theorem len_more{u:Value}(h:isHold u){r1 r2:Row}{n:Bytes}{w:Value} :
  ((withRow u (rapp r1 (.cons n w r2))).enc.length:Int)=((withRow u (rapp r1 r2)).enc.length:Int)+(((nmB (namedOf u) n).length:Int)+(w.enc.length:Int)+((vary (r1.length+r2.length+1)).length:Int)-((vary (r1.length+r2.length)).length:Int)):=by
 rw[hold_len (ku h _),hold_len (ku h _),withRow_row h,withRow_row h,jX,jX,nV,nV,rapp_len,rapp_len,enc_cons];have e:r1.length+(Row.cons n w r2).length=r1.length+r2.length+1:=by
  show r1.length+(r2.length+1)=_
  exact rfl
 rw[e];simp only[ae];lia
theorem take_done{u:Value}{s:Sw.Step}{i:Nat}{r1 r2:Row}{n:Bytes}{w:Value}(h:u.memberOf s=some i)(er:rowOf u=rapp r1 (.cons n w r2))(el:r1.length=i):u.done s .take=some (withRow u (rapp r1 r2)):=by
 cases u with
 | list m =>
  have er:m=_:=er
  unfold Value.done;rw[h,er,<-el];show some (Value.list ((rapp r1 (.cons n w r2)).drop_ r1.length))=_
  rw[lR];rfl
 | rec_ m =>
  have er:m=_:=er
  unfold Value.done;rw[h,er,<-el];show some (Value.rec_ ((rapp r1 (.cons n w r2)).drop_ r1.length))=_
  rw[lR];rfl
 | _=>cases s<;>cases h
theorem rapp_inj:∀{a b c d:Row},rapp a b=rapp c d->a.length=c.length->a=c/\b=d
 | .nil,b,.nil,d,h,_=>⟨rfl,h⟩
 | .nil,_,.cons _ _ _,_,_,h=>by cases h
 | .cons _ _ _,_,.nil,_,_,h=>by cases h
 | .cons n v r,b,.cons k w q,d,h,hl=>by
  have h:Row.cons n v (rapp r b)=Row.cons k w (rapp q d):=h
  injection h with h1 h2 h3;obtain⟨e1,e2⟩:=rapp_inj h3 (Nat.succ.inj hl)
  rw[h1,h2,e1];exact⟨rfl,e2⟩
theorem row_self{u:Value}(h:isHold u):withRow u (rowOf u)=u:=by
 cases u with
 | list m=>rfl
 | rec_ m=>rfl
 | _=>rcases h with h | h<;>cases h
theorem row_short{u:Value}(h:isHold u):(rowOf u).length+2<=u.enc.length:=by
 rw[hold_len h];have:∀(m:Row)(b:Bool),m.length<=(m.enc b).length:=by
  intro m b;induction m using Row.rec (motive_1:=λξ=>True)with
  | nil=>exact aX _
  | cons n v r _ ih =>
   rw[enc_cons];have:=enc_pos v
   simp only[ae];show r.length+1<=_
   lia
  | _=>trivial
 have:=this (rowOf u) (namedOf u)
 have v1:1<=(vary (rowOf u).length).length:=by
  unfold vary;split<;>simp
 lia
theorem nL{k:Nat}(h:k<256):(UInt8.ofNat k).toNat=k:=by
 rw[UInt8.toNat_ofNat',Nat.mod_eq_of_lt h]
theorem gK{k lo hi x p:Nat}{c:UInt8}{b:Bytes}(h1:lo<=c.toNat)(h2:c.toNat<=hi):Sw.follow (k+1) lo hi x p (c::b)=Sw.follow k 0x80 0xBF (64*x+c.toNat % 64) (p+1) b:=by
 show(if lo<=c.toNat/\c.toNat<=hi then _ else _)=_
 rw[ax ⟨h1,h2⟩]
theorem uJ(k:Nat):0x80<=(UInt8.ofNat (0x80+k % 64)).toNat/\(UInt8.ofNat (0x80+k % 64)).toNat<=0xBF/\(UInt8.ofNat (0x80+k % 64)).toNat % 64=k % 64/\(UInt8.ofNat (0x80+k % 64)).toNat=0x80+k % 64:=by
 have h:=Nat.mod_lt k (show 0<64 by decide)
 generalize k % 64=x at h;rw[nL (by lia)]
 lia
theorem lead2:∀x:Fin 32,2<=x.val->Sw.leads (0xC0+x.val)=some (1,0x80,0xBF):=by decide
theorem lead3:∀x:Fin 16,Sw.leads (0xE0+x.val)=some (2,if x.val=0 then 0xA0 else 0x80,if x.val=13 then 0x9F else 0xBF):=by decide
theorem lead4:∀x:Fin 5,Sw.leads (0xF0+x.val)=some (3,if x.val=0 then 0x90 else 0x80,if x.val=4 then 0x8F else 0xBF):=by decide
theorem fb2:∀x:Fin 32,(0xC0+x.val) % 32=x.val:=by decide
theorem fb3:∀x:Fin 16,(0xE0+x.val) % 16=x.val:=by decide
theorem fb4:∀x:Fin 5,(0xF0+x.val) % 8=x.val:=by decide
theorem d64(c:Nat):c / 4096=c / 64 / 64:=(cQ c 64 64).symm
theorem d64'(c:Nat):c / 262144=c / 64 / 64 / 64:=by rw[cQ,cQ]
theorem l3a{c:Nat}(h:¬c<0x800)(z:c / 4096=0):0xA0<=0x80+c / 64 % 64:=by omega
theorem l3b{c:Nat}(h:c<0xD800\/(0xE000<=c/\c<=0x10FFFF))(z:c / 4096=13):0x80+c / 64 % 64<=0x9F:=by omega
theorem l4a{c:Nat}(h:¬c<0x10000)(z:c / 262144=0):0x90<=0x80+c / 4096 % 64:=by omega
theorem l4b{c:Nat}(h:c<0x110000)(z:c / 262144=4):0x80+c / 4096 % 64<=0x8F:=by omega
theorem sN{c:Nat}(h:isScalar c=true)(p:Nat)(r:Bytes):scalarAt p (utf8One c++r) =.ok (c,r):=by
 have hc:c<0xD800\/(0xE000<=c/\c<=0x10FFFF):=by
  unfold isScalar at h;rw[dN,aE,bw,bw,bw]at h;exact h
 have hx:c<0x110000:=by lia
 unfold utf8One;by_cases h1:c<0x80
 .rw[ax h1];have e:=nL (aR h1 (show 128<=256 by decide))
  show(match Sw.leads (UInt8.ofNat c).toNat with
   | none=>Except.error p
   | some (k,lo,hi)=>Sw.follow k lo hi (firstBits k (UInt8.ofNat c).toNat) (p+1) r)=_
  rw[e];unfold Sw.leads;rw[ax h1];rfl
 .rw[ay h1];by_cases h2:c<0x800
  .rw[ax h2];have a1:c / 64<32:=g9 h2
   have a2:2<=c / 64:=(Nat.le_div_iff_mul_le (by decide)).mpr (bg h1)
   have e:=nL (show 0xC0+c / 64<256 by lia)
   obtain⟨t1,t2,t3,_⟩:=uJ c
   show(match Sw.leads (UInt8.ofNat (0xC0+c / 64)).toNat with
    | none=>Except.error p
    | some (k,lo,hi)=>Sw.follow k lo hi (firstBits k (UInt8.ofNat (0xC0+c / 64)).toNat) (p+1) (UInt8.ofNat (0x80+c % 64)::r))=_
   rw[e,lead2 ⟨c / 64,a1⟩ a2];show Sw.follow 1 0x80 0xBF ((0xC0+c / 64) % 32) (p+1) _=_
   rw[gK t1 t2,t3,fb2 ⟨c / 64,a1⟩];show Except.ok (64*(c / 64)+c % 64,r)=_
   rw[fq]
  .rw[ay h2];by_cases h3:c<0x10000
   .rw[ax h3];have a1:c / 4096<16:=g9 h3
    have e:=nL (show 0xE0+c / 4096<256 by omega)
    obtain⟨t1,t2,t3,t4⟩:=uJ (c / 64)
    obtain⟨s1,s2,s3,_⟩:=uJ c
    show(match Sw.leads (UInt8.ofNat (0xE0+c / 4096)).toNat with
     | none=>Except.error p
     | some (k,lo,hi)=>Sw.follow k lo hi (firstBits k (UInt8.ofNat (0xE0+c / 4096)).toNat) (p+1) (UInt8.ofNat (0x80+c / 64 % 64)::UInt8.ofNat (0x80+c % 64)::r))=_
    rw[e,lead3 ⟨c / 4096,a1⟩];have key:∀lo hi,lo<=(UInt8.ofNat (0x80+c / 64 % 64)).toNat->(UInt8.ofNat (0x80+c / 64 % 64)).toNat<=hi->Sw.follow 2 lo hi ((0xE0+c / 4096) % 16) (p+1) (UInt8.ofNat (0x80+c / 64 % 64)::UInt8.ofNat (0x80+c % 64)::r) =.ok (c,r):=λlo hi a b=>by
     rw[gK a b,gK s1 s2,t3,s3,fb3 ⟨c / 4096,a1⟩];show Except.ok (64*(64*(c / 4096)+c / 64 % 64)+c % 64,r)=_
     rw[d64,fq,fq]
    refine key _ _ ?_ ?_
    .dsimp only;split
     .next z=>rw[t4];exact l3a h2 z
     .exact t1
    .dsimp only;split
     .next z=>rw[t4];exact l3b hc z
     .exact t2
   .rw[ay h3];have a1:c / 262144<5:=g9 (aR hx (by decide))
    have e:=nL (show 0xF0+c / 262144<256 by omega)
    obtain⟨t1,t2,t3,t4⟩:=uJ (c / 4096)
    obtain⟨s1,s2,s3,_⟩:=uJ (c / 64)
    obtain⟨u1,u2,u3,_⟩:=uJ c
    show(match Sw.leads (UInt8.ofNat (0xF0+c / 262144)).toNat with
     | none=>Except.error p
     | some (k,lo,hi)=>Sw.follow k lo hi (firstBits k (UInt8.ofNat (0xF0+c / 262144)).toNat) (p+1) (UInt8.ofNat (0x80+c / 4096 % 64)::UInt8.ofNat (0x80+c / 64 % 64)::UInt8.ofNat (0x80+c % 64)::r))=_
    rw[e,lead4 ⟨c / 262144,a1⟩];have key:∀lo hi,lo<=(UInt8.ofNat (0x80+c / 4096 % 64)).toNat->(UInt8.ofNat (0x80+c / 4096 % 64)).toNat<=hi->Sw.follow 3 lo hi ((0xF0+c / 262144) % 8) (p+1) (UInt8.ofNat (0x80+c / 4096 % 64)::UInt8.ofNat (0x80+c / 64 % 64)::UInt8.ofNat (0x80+c % 64)::r) =.ok (c,r):=λlo hi a b=>by
     rw[gK a b,gK s1 s2,gK u1 u2,t3,s3,u3,fb4 ⟨c / 262144,a1⟩];show Except.ok (64*(64*(64*(c / 262144)+c / 4096 % 64)+c / 64 % 64)+c % 64,r)=_
     rw[d64',d64,fq,fq,fq]
    refine key _ _ ?_ ?_
    .dsimp only;split
     .next z=>rw[t4];exact l4a h3 z
     .exact t1
    .dsimp only;split
     .next z=>rw[t4];exact l4b hx z
     .exact t2
theorem yq(c:Nat):1<=(utf8One c).length:=by
 unfold utf8One;split
 .exact aF 1
 .split
  .show 1<=2;exact a8 _ _
  .split
   .show 1<=3;exact a8 _ _
   .show 1<=4;exact a8 _ _
theorem mC:∀(t:List Nat)(f p:Nat),t.all isScalar=true->(utf8 t).length<=f->scalarsFrom f p (utf8 t) =.ok t
 | [],f,p,_,_=>by
  show scalarsFrom f p []=_
  cases f<;>rfl
 | c::t,f,p,h,hf=>by
  have h:(isScalar c&&t.all isScalar)=true:=h
  rw[aE]at h;have e:utf8 (c::t)=utf8One c++utf8 t:=rfl
  rw[e]at hf |-;have hl:=yq c
  rw[ae]at hf;cases f with
  | zero=>lia
  | succ f =>
   have BH:utf8One c++utf8 t≠[]:=λz=>by
    have:=congrArg List.length z
    rw[ae,dB]at this;exact gR hl (leR this (b8 _ _))
   have eq:scalarsFrom (f+1) p (utf8One c++utf8 t)=match scalarAt p (utf8One c++utf8 t)with
     | .error q=>.error q
     | .ok (d,r)=>(scalarsFrom f (p+((utf8One c).length+(utf8 t).length-r.length)) r).map λ(l:List Nat)=>d::l:=by
    cases hb:utf8One c++utf8 t with
    | nil=>exact aW hb BH
    | cons x y =>
     have IE:(x::y).length=(utf8One c).length+(utf8 t).length:=by rw[<-hb,ae]
     conv=>lhs;unfold scalarsFrom
     rw[IE];rfl
   rw[eq,sN h.1];show(scalarsFrom f _ (utf8 t)).map (λ(l:List Nat)=>c::l)=_
   rw[mC t f _ h.2 (by lia)]
   rfl
theorem name_ok{t:List Nat}(h:t.all isScalar=true):nameOk (utf8 t)=(decide (1<=(utf8 t).length)&&decide ((utf8 t).length<=255)):=by
 unfold nameOk scalars;rw[mC t _ 0 h (aF _)];show(decide (1<=(utf8 t).length)&&(decide ((utf8 t).length<=NAME)&&true))=_
 rw[Bool.and_true];rfl
def deedL:Deed->Nat
 | .put x=>x.enc.length+300
 | .take=>10
 | .add x=>x.enc.length+300
theorem mX{n:Nat}(h:n<=34359738367):(vary n).length<=5:=by
 have e:(vary 34359738367).length=5:=by decide +kernel
 exact e▸vary_mono n _ h
theorem oK:∀(m:Row)(named:Bool)(i:Nat),((m.drop_ i).enc named).length<=(m.enc named).length
 | .nil,named,i=>by cases i<;>exact aF _
 | .cons n v r,named,0=>by
  show(r.enc named).length<=_
  rw[enc_cons];simp only[ae];exact leL (eP _) (fF (aX _) (a8 _ _))
 | .cons n v r,named,i+1=>by
  have:=oK r named i
  show((Row.cons n v (r.drop_ i)).enc named).length<=_
  rw[enc_cons,enc_cons];simp only[ae];exact fT (fT this _) _
theorem wI:∀(m:Row)(i:Nat),i<m.length->∃y,m.get? i=some y
 | .nil,i,h=>by cases h
 | .cons n v r,0,h=>⟨_,rfl⟩
 | .cons n v r,i+1,h=>wI r i (Nat.lt_of_succ_lt_succ h)
theorem mJ{m:Row}{x:Value}{i:Nat}(hi:i<=m.length)(hl:(Value.list m).enc.length<=16777216):(Value.list (m.insert i x)).enc.length<=(Value.list m).enc.length+(x.enc.length+300):=by
 have h1:=kc m i x hi
 have hs:m.length+2<=(Value.list m).enc.length:=row_short (u:=.list m) (.inl rfl)
 have h2:=(qe m false i).1
 have h3:=mX (n:=m.length+1) (by lia)
 have h4:=congrArg List.length h2
 rw[iB,iB,h1,ki m i x hi];rw[ae]at h4;simp only[ao,ae];lia
theorem so{m:Row}{x:Value}{n:Bytes}(hp:(Value.rec_ m).plain=true)(hn:m.indexOf n=none)(ho:nameOk n=true)(hl:(Value.rec_ m).enc.length<=16777216):(Value.rec_ (m.under n x)).enc.length<=(Value.rec_ m).enc.length+(x.enc.length+300):=by
 have hp:(m.plain&&(m.names.all nameOk&&rising m.names))=true:=hp
 rw[aE,aE]at hp;have h1:=lJ m n x
 have hs:m.length+2<=(Value.rec_ m).enc.length:=row_short (u:=.rec_ m) (.inr rfl)
 have h2:=(qe m true (cntB m n)).1
 have h3:=mX (n:=m.length+1) (by lia)
 have h4:=congrArg List.length h2
 have h5:n.length<=255:=by
  unfold nameOk at ho;rw[aE,aE]at ho;exact of_decide_eq_true ho.2.1
 have h6:=mX (n:=n.length) (by lia)
 rw[jj,jj,h1,lK m n x hp.2.2 (indexOf_none.mp hn)];rw[ae]at h4;simp only[ao,ae];lia
theorem uE{u:Value}{i:Nat}{x:Value}{n:Bytes}{w:Value}(h:u.member i=some (n,w)):(u.with_ i x).enc.length<=u.enc.length+(x.enc.length+300):=by
 obtain⟨pre,post,e1,_,e2⟩:=with_enc h
 rw[e2,e1];simp only[ae];lia
theorem vi{u u':Value}{s:Sw.Step}{d:Deed}(hp:u.plain=true)(hl:u.enc.length<=16777216)(h:u.done s d=some u'):u'.enc.length<=u.enc.length+deedL d:=by
 cases d with
 | take =>
  cases e:u.memberOf s with
  | none=>rw[lj e]at h;cases h
  | some i =>
   obtain⟨w,e1,_,_,e2⟩:=done_take e hp
   rw[e1]at h;injection h with h;subst h;have hi:=memberOf_lt e
   have hh:=memberOf_hold e
   have h0:=row_short hh
   have h1:=hold_len hh
   have h6:=mX (n:=(rowOf u).length-1) (by lia)
   have h7:=oK (rowOf u) (namedOf u) i
   rw[lg _ _ _ hi]at h7;rw[e2];show _<=_+10
   simp only[ao,ae]at h7 |-;lia
 | put x =>
  show _<=_+(x.enc.length+300)
  cases e:u.memberOf s with
  | some i =>
   rw[done_put e x]at h;injection h with h;subst h;cases em:u.member i with
   | none =>
    rw[member_eq]at em;obtain⟨y,ey⟩:=wI (rowOf u) i (memberOf_lt e)
    rw[ey]at em;cases em
   | some y=>exact uE em
  | none =>
   cases u with
   | list m =>
    cases s with
    | index z =>
     have h:(if 0<=z/\z<(m.length:Int)then some (Value.list (m.set z.toNat x))else if z=(m.length:Int)then some (Value.list (m.insert m.length x))else none)=some u':=h
     have e:(if 0<=z/\z<(m.length:Int)then some z.toNat else none)=none:=e
     by_cases c:0<=z/\z<(m.length:Int)
     .rw[ax c]at e;cases e
     .rw[ay c]at h;by_cases c2:z=(m.length:Int)
      .rw[ax c2]at h;injection h with h;subst h;exact mJ (aF _) hl
      .rw[ay c2]at h;cases h
    | name n=>cases h
   | rec_ m =>
    cases s with
    | name n =>
     have e:m.indexOf n=none:=e
     have h:(match m.indexOf n with
      | some i=>some (Value.rec_ (m.set i x))
      | none=>if nameOk n=true then some (Value.rec_ (m.under n x))else none)=some u':=h
     rw[e]at h;have h:(if nameOk n=true then some (Value.rec_ (m.under n x))else none)=some u':=h
     by_cases c:nameOk n=true
     .rw[ax c]at h;injection h with h;subst h;exact so hp e c hl
     .rw[ay c]at h;cases h
    | index z=>cases h
   | _=>cases s<;>cases h
 | add x =>
  cases u with
  | list m =>
   cases s with
   | index z =>
    have h:(if 0<=z/\z<=(m.length:Int)then some (Value.list (m.insert z.toNat x))else none)=some u':=h
    by_cases c:0<=z/\z<=(m.length:Int)
    .rw[ax c]at h;injection h with h;subst h;exact mJ (by lia) hl
    .rw[ay c]at h;cases h
   | name n=>cases h
  | _=>cases s<;>cases h
theorem doneAt_long{v v':Value}{l:List Sw.Step}{d:Deed}(hp:v.plain=true)(hl:v.enc.length<=16777216)(h:v.doneAt l d=some v'):v'.enc.length<=v.enc.length+deedL d:=by
 rcases cG l with el | ⟨la,ls,el⟩
 .subst el;cases d with
  | put x =>
   have h:some x=some v':=h
   injection h with h;subst h;show x.enc.length<=_+(x.enc.length+300)
   lia
  | _=>cases h
 .rw[cH]at el;subst el;by_cases c:(trail (v,0) la).length<=la.length
  .rw[doneAt_no la v 0 ls d c]at h;cases h
  .have hle:=leads_le la v
   have BG:(trail (v,0) la).length=(v.leads la).length+1:=trail_len la (v,0)
   have hf:(trail (v,0) la).length=la.length+1:=by lia
   cases e:(trail (v,0) la).getLast? with
   | none=>exact aW (bz.mp e) (trail_ne _ _)
   | some y =>
    obtain⟨u,p⟩:=y
    rw[doneAt_snoc la v 0 u p ls d hf e]at h;obtain⟨pre,post,e1,_,e2⟩:=repl_enc la v 0 u p hf e
    have MT:u.enc.length<=16777216:=by
     rw[e1]at hl;simp only[ae]at hl;lia
    cases ed:u.done ls d with
    | none=>rw[ed]at h;cases h
    | some u' =>
     rw[ed]at h;have h:some (repl v la u')=some v':=h
     injection h with h;subst h;have:=vi (trail_last_pl hp e) MT ed
     rw[e2,e1];simp only[ae];lia
end Pm
namespace L2
open PySem PySem.Spec PyProof.Rows
def sOf(l:List Nat):Str:=⟨l.toArray⟩
end L2
namespace Ri
end Ri
namespace Ri
open Sw
end Ri
namespace Fo
open Sw Pm
def hasN(v:Value)(ws:List (List UInt8)):Bool:=decide (v.kind=6)&&((rowOf v).names==ws)
def mem(v:Value)(i:Nat):Value:=match v.member i with
 | some (_,w)=>w
 | none=>.no
def W(s:String):List UInt8:=word s
theorem has_rec(m:Row)(ws:List (List UInt8)):hasN (.rec_ m) ws=(m.names==ws):=by
 unfold hasN;rw[ah (show(Value.rec_ m).kind=6 from rfl),gX];rfl
end Fo
namespace L2.J
open PySem PySem.Spec PyProof.Rows L2.XC
theorem fs_{N P:List Str}{c:Scope}(a:c.kind=.function:=by rfl)(b:c.isCoroutine=false:=by rfl)(d:c.isGenerator=false:=by rfl)(e:N.Nodup:=by decide +kernel)(f:N.take P.length=P:=by rfl)(g:∀ x∈P,c.names.lookup x=some .local\/c.names.lookup x=some .cell:=by decide +kernel)(h:∀ y∈c.names,y.2≠.free:=by decide +kernel):bq N P c:=⟨a,b,d,e,f,g,h⟩
def top(i:Nat):Stmt:=PySem.Challenge.pw_onevalues_s11_patch.main.body.getD i (.Pass ⟨0,0,0,0⟩)
abbrev sFI:Stmt:=eY (top 16) 0
abbrev sRI:Stmt:=eY (top 29) 0
abbrev sSB:Stmt:=eY (top 29) 1
abbrev sRB:Stmt:=eY (top 29) 2
abbrev sPB:Stmt:=eY (top 29) 4
abbrev sRV:Stmt:=eY (top 29) 5
abbrev sSL:Stmt:=top 33
abbrev sLS:Stmt:=top 34
abbrev sHS:Stmt:=top 35
abbrev sPS:Stmt:=top 36
abbrev sCU:Stmt:=top 37
abbrev sPI:Stmt:=eY (top 39) 0
abbrev sRW:Stmt:=top 40
abbrev sLM:Stmt:=top 41
abbrev sDP:Stmt:=top 42
abbrev sBM:Stmt:=top 43
abbrev sBP:Stmt:=top 44
abbrev sPN:Stmt:=top 45
abbrev sPR:Stmt:=top 46
abbrev sRN:Stmt:=top 47
abbrev sAB:Stmt:=top 48
abbrev sIB:Stmt:=top 49
abbrev sAO:Stmt:=top 51
abbrev sNO:Stmt:=top 52
abbrev sUI:Stmt:=eY (top 54) 0
abbrev sUP:Stmt:=eY (top 55) 0
abbrev sUL:Stmt:=eY (top 56) 0
abbrev sUV:Stmt:=eY (top 57) 0
abbrev sUS:Stmt:=eY (top 58) 0
abbrev sUT:Stmt:=eY (top 59) 0
abbrev sUW:Stmt:=eY (top 60) 0
abbrev sSO:Stmt:=top 62
abbrev sHN:Stmt:=top 64
abbrev sRP:Stmt:=top 67
abbrev sRS:Stmt:=top 68
abbrev sIN:Stmt:=top 69
abbrev sFW:Stmt:=top 70
abbrev sFM:Stmt:=top 71
abbrev sCB:Stmt:=top 72
abbrev sVR:Stmt:=top 74
abbrev sNW:Stmt:=top 75
abbrev sKR:Stmt:=top 76
abbrev sNI:Stmt:=eY (top 78) 0
abbrev sMK:Stmt:=top 79
abbrev sML:Stmt:=top 80
abbrev sTW:Stmt:=top 81
abbrev sPA:Stmt:=top 83
abbrev sMH:Stmt:=top 84
abbrev sPW:Stmt:=top 85
abbrev sTA:Stmt:=top 86
abbrev sAA:Stmt:=top 87
abbrev sMA:Stmt:=top 88
abbrev sCD:Stmt:=top 89
abbrev sRL:Stmt:=top 90
abbrev sIM:Stmt:=top 91
abbrev sRM:Stmt:=top 92
abbrev sCO:Stmt:=top 93
abbrev sLN:Stmt:=top 94
abbrev Ap:Stmt:=eY (top 99) 0
abbrev sRX:Stmt:=top 100
abbrev sRY:Stmt:=top 101
abbrev sRA:Stmt:=top 102
abbrev sDO:Stmt:=top 103
abbrev sDS:Stmt:=top 104
abbrev sPT:Stmt:=top 106
def bv(c:UInt8):V:=.int (c.toNat:Int)
def Kp(H H':Hp)(r:Addr):Prop:=∀b o,H b=some o->b≠r->H' b=some o
theorem Kp.trans{H H1 H2:Hp}{r:Addr}(a:Kp H H1 r)(b:Kp H1 H2 r):Kp H H2 r:=λc o e n=>b c o (a c o e n) n
theorem Kp.refl(H:Hp)(r:Addr):Kp H H r:=λξ ξ e ξ=>e
theorem ju{K:Fg_}{H H':Hp}{r a C dx:Addr}{fs:List (Str×V)}{xs:List V}(h:SqL K H a xs)(k:Kp H H' r)(hr:H r=some (.ins C dx fs)):SqL K H' a xs:=by
 rcases h with(h | ⟨o,h⟩) | h
 .exact .inl (.inl (k _ _ h (dC h hr (by intro z;cases z))))
 .exact .inl (.inr ⟨o,k _ _ h (dC h hr (by intro z;cases z))⟩)
 .exact .inr h
def GI(mg:Str->Option Value)(x:Str)(n:Int):Prop:=∃t,mg x=some (.int n t)
theorem pgi{X:Cx}{x:Str}{n:Int}{pos:Pos}(h:GI X.mg x n)(hg:Gl X x)(hd:(x==("__debug__" :Str))=false:=by decide):PE X (.Name x pos) (tC (.int n)):=by
 obtain⟨t,e⟩:=h
 exact yi hg e ⟨t,rfl⟩ hd
def fw(b:List UInt8):List Int:=b.map λc=>(c.toNat:Int)
theorem lq(b:List UInt8):b.map bv=(fw b).map V.int:=by
 unfold fw;rw[eT];rfl
theorem pR:∀(q m:List UInt8),HT.lexB true (fw m) (fw q) =!Sw.bytesBefore q m
 | [],[]=>rfl
 | [],_::_=>rfl
 | _::_,[]=>rfl
 | a::q,b::m=>by
  have ih:=pR q m
  show(if(b.toNat:Int)=(a.toNat:Int)then HT.lexB true (fw m) (fw q)else decide ((b.toNat:Int)<(a.toNat:Int))) =!(decide (a.toNat<b.toNat)||(a==b&&Sw.bytesBefore q m))
  by_cases e:a=b
  .subst e;rw[ax rfl,ih,ai (cw _),beq_self_eq_true];rfl
  .have hn:¬a.toNat=b.toNat:=λz=>e (UInt8.toNat_inj.mp z)
   have hb:(a==b)=false:=bu.mpr e
   rw[ay (by lia),hb,fJ,Bool.or_false]
   by_cases hl:a.toNat<b.toNat
   .rw[ah hl,ai (by lia)]
    rfl
   .rw[ai hl,ah (by lia)]
    rfl
theorem jT(bs:List UInt8)(p n:Nat)(h:p+n<=bs.length){x y:Int}(hx:x=(p:Int))(hy:y=((p+n:Nat):Int)):pk (bs.map bv) (some x) (some y)=((bs.drop p).take n).map bv:=by
 unfold pk;rw[hx,hy,HT.sIx_nat,HT.sIx_nat,au,cI h,cI (Nat.le_of_add_right_le h),<-iS,<-gU];congr 2
 exact d6 _ _
theorem pC(bs:List UInt8):ValuesNeutral.text (fw bs)=bs:=by
 unfold ValuesNeutral.text fw;rw[eT];conv=>rhs;rw[<-List.map_id bs]
 congr 1
 funext c
 simp
theorem tp:∀(ns:List Int),(∀x∈ns,0<=x/\x<=255)->∃bs:List UInt8,ns=fw bs/\bs.length=ns.length
 | [],_=>⟨[],rfl,rfl⟩
 | x::ns,h=>by
  obtain⟨bs,e,l⟩:=tp ns λy hy=>h y (by simp[hy])
  obtain⟨h0,h1⟩:=h x (by simp)
  refine⟨UInt8.ofNat x.toNat::bs,?_,by simp[l]⟩
  show x::ns=((UInt8.ofNat x.toNat).toNat:Int)::fw bs
  rw[<-e];congr 1
  rw[UInt8.toNat_ofNat'];lia
def ansL(a:Values.Answer):List Int:=a.num::(a.more++((a.bytes.getD []).map λ(x:UInt8)=>((x.toNat:Nat):Int)))
theorem ln1{α:Type _}{us:List α}(h:us.length=1):∃a,us=[a]:=List.length_eq_one_iff.mp h
theorem ln2{us:List Value}(h:us.length=2):∃a b,us=[a,b]:=by
 cases us with
 | nil=>cases h
 | cons a r =>
  obtain⟨b,rfl⟩:=ln1 (us:=r) (Nat.succ.inj h)
  exact⟨a,b,rfl⟩
theorem ln3{us:List Value}(h:us.length=3):∃a b c,us=[a,b,c]:=by
 cases us with
 | nil=>cases h
 | cons a r =>
  obtain⟨b,c,rfl⟩:=ln2 (us:=r) (Nat.succ.inj h)
  exact⟨a,b,c,rfl⟩
theorem ln4{us:List Value}(h:us.length=4):∃a b c d,us=[a,b,c,d]:=by
 cases us with
 | nil=>cases h
 | cons a r =>
  obtain⟨b,c,d,rfl⟩:=ln3 (us:=r) (Nat.succ.inj h)
  exact⟨a,b,c,d,rfl⟩
theorem jO{n:Nat}(h:n<128):Sw.vary n=[UInt8.ofNat n]:=by
 unfold Sw.vary;rw[ax h]
theorem kC{n:Nat}(h:¬n<128):Sw.vary n=UInt8.ofNat (128+n % 128)::Sw.vary (n / 128):=by
 conv=>lhs;unfold Sw.vary
 rw[ay h]
theorem wU{k:Nat}(h:k<256):bv (UInt8.ofNat k) =.int (k:Int):=by
 unfold bv;rw[UInt8.toNat_ofNat',Nat.mod_eq_of_lt h]
theorem jP{n:Nat}(h:n<34359738368):(Sw.vary n).length<=5:=by
 by_cases h1:n<128
 .rw[jO h1];simp
 rw[kC h1,ao];by_cases h2:n / 128<128
 .rw[jO h2];simp
 rw[kC h2,ao];by_cases h3:n / 128 / 128<128
 .rw[jO h3];simp
 rw[kC h3,ao];by_cases h4:n / 128 / 128 / 128<128
 .rw[jO h4];simp
 rw[kC h4,ao,jO (by lia)]
 simp
def rLen(K:Fg_)(xs:List V)(H:Hp)(Q:VK):Prop:=∃p ys,xs=[.ref p]/\(SqL K H p ys\/SqT K H p ys)/\Q (.int ys.length) H
theorem cB{X:Cx}:oY X (.builtin "len") (rLen X.K):=qF
structure Co(P:Program)(w:World)(K:Fg_)(mg:Str->Option Value)(base:Heap)(CX:CXT)(k:Nat)(f:Addr)(fd:FuncData)(ps:List Str)(sp:Sp)(x:Str):Prop where
 g:bQ P w K mg base CX k f fd ps sp
 b:bZ K fd ps []
 k:PySem.W.keepIn K (.ref f)=true
 m:mg x=some (.ref f)
theorem cj{X:Cx}{CX:CXT}{k:Nat}{f:Addr}{fd:FuncData}{ps:List Str}{sp:Sp}{x:Str}{E:XK}{e:Expr}{es:List Expr}{t:TA}{p pos:Pos}(F:Co X.prog X.w X.K X.mg X.base CX k f fd ps sp x)(hr:cD k X.A)(hg:Gl X x)(hx:hZ CX X E)(ha:PA X (e::es) t)
  (BP:(x==("__debug__" :Str))=false:=by decide)(he:starEach (e::es) X.env=(false,eval e X.env)::starEach es X.env:=by rfl)(Bn:(backTo pos (starEach es X.env)).any (·.1)=false:=by rfl) :
  PE X (.Call (.Name x p) (e::es) [] pos) (vH sp [] E t):=m7 F.g hr hg F.m F.k F.b .nil hx ha BP he Bn
theorem b1_{K:Fg_}{x q:Str}{st:Stmt}{f:Addr}{fd:FuncData}{a0:Str}(F:Fun K x q st f fd)(h:∀(kV doc pm:Value)(an:Option Addr)(AY ct u0:Value),bindArgs (PySem.W.fnOf x q (ig st) (fY st) (aS st) .none kV doc pm an AY ct) ⟨[u0],[]⟩=pure [(a0,u0)]:=by intros;rfl):bZ K fd [a0] []:=F.binds λξ ξ ξ ξ ξ ξ us hl=>by obtain⟨_,rfl⟩:=ln1 hl;exact h ..
theorem b2_{K:Fg_}{x q:Str}{st:Stmt}{f:Addr}{fd:FuncData}{a0 a1:Str}(F:Fun K x q st f fd)(h:∀(kV doc pm:Value)(an:Option Addr)(AY ct u0 u1:Value),bindArgs (PySem.W.fnOf x q (ig st) (fY st) (aS st) .none kV doc pm an AY ct) ⟨[u0,u1],[]⟩=pure [(a0,u0),(a1,u1)]:=by intros;rfl):bZ K fd [a0,a1] []:=F.binds λξ ξ ξ ξ ξ ξ us hl=>by obtain⟨_,_,rfl⟩:=ln2 hl;exact h ..
theorem b3_{K:Fg_}{x q:Str}{st:Stmt}{f:Addr}{fd:FuncData}{a0 a1 a2:Str}(F:Fun K x q st f fd)(h:∀(kV doc pm:Value)(an:Option Addr)(AY ct u0 u1 u2:Value),bindArgs (PySem.W.fnOf x q (ig st) (fY st) (aS st) .none kV doc pm an AY ct) ⟨[u0,u1,u2],[]⟩=pure [(a0,u0),(a1,u1),(a2,u2)]:=by intros;rfl):bZ K fd [a0,a1,a2] []:=F.binds λξ ξ ξ ξ ξ ξ us hl=>by obtain⟨_,_,_,rfl⟩:=ln3 hl;exact h ..
theorem b4_{K:Fg_}{x q:Str}{st:Stmt}{f:Addr}{fd:FuncData}{a0 a1 a2 a3:Str}(F:Fun K x q st f fd)(h:∀(kV doc pm:Value)(an:Option Addr)(AY ct u0 u1 u2 u3:Value),bindArgs (PySem.W.fnOf x q (ig st) (fY st) (aS st) .none kV doc pm an AY ct) ⟨[u0,u1,u2,u3],[]⟩=pure [(a0,u0),(a1,u1),(a2,u2),(a3,u3)]:=by intros;rfl):bZ K fd [a0,a1,a2,a3] []:=F.binds λξ ξ ξ ξ ξ ξ us hl=>by obtain⟨_,_,_,_,rfl⟩:=ln4 hl;exact h ..
theorem fd_{K:Fg_}{H:Hp}{a C dx:Addr}{fs:List (Str×V)}{f:Str}{v:V}{q:V->Prop}(h:H a=some (.ins C dx fs))(c:Cls K C)(n:dk K C f)(l:fs.lookup f=some v)(z:q v):∃a' C' Cc Di v',V.ref a =.ref a'/\H a'=some (.ins C' Cc Di)/\Cls K C'/\dk K C' f/\Di.lookup f=some v'/\q v':=⟨a,C,dx,fs,v,rfl,h,c,n,l,z⟩
theorem fw_{K:Fg_}{H:Hp}{a C dx:Addr}{fs:List (Str×V)}{f:Str}{q:Addr->Addr->Addr->List (Str×V)->Prop}(h:H a=some (.ins C dx fs))(c:Cls K C)(n:dk K C f)(l:fs.length<1000)(z:q a C dx fs):∃a' C' Cc Di,V.ref a =.ref a'/\H a'=some (.ins C' Cc Di)/\Cls K C'/\dk K C' f/\Di.length<1000/\q a' C' Cc Di:=⟨a,C,dx,fs,rfl,h,c,n,l,z⟩
variable {P:Program}{w:World}{K:Fg_}{mg:Str->Option Value}{base:Heap}{CF CR CP CT CS Bu U CN Gp CL Fl CV Gn Eb Ec Dt CO ak CB Zk Zl:Addr}{Cv Cw DJ Rj:FuncData}
def rf(a:Addr)(p:Nat):List (Str×V):=[("row",.ref a),("place",.int (p:Int))]
theorem iP(a:Addr)(p:Nat):(rf a p).lookup ("row" :Str)=some (.ref a):=rfl
theorem dO(a:Addr)(p:Nat):(rf a p).lookup ("place" :Str)=some (.int (p:Int)):=rfl
theorem jv(a:Addr)(p:Nat){m:Str}(h1:¬m = "row")(h2:¬m = "place"):(rf a p).lookup m=none:=by
 have a1:(m==("row" :Str))=false:=bu.mpr h1
 have a2:(m==("place" :Str))=false:=bu.mpr h2
 simp only[rf,List.lookup,a1,a2]
def f7(CR:Addr)(H:Hp)(r a:Addr)(p:Nat):Prop:=∃dx,H r=some (.ins CR dx (rf a p))
structure TxR(K:Fg_)(mg:Str->Option Value)(CF CR Bu:Addr):Prop where
 xc:mj K CF Bu
 cR:Cls K CR
 nRow:dk K CR "row"
 nPl:dk K CR "place"
 mF:mg "Fault" =some (.ref CF)
 len:mg "len" =none
 rng:mg "range" =none
 e1:GI mg "ENDS_TOO_SOON" 1
 e3:GI mg "WRONG_VARYING" 3
 mv:GI mg "MOST_VARYING_BYTES" 5
 hv:GI mg "HIGHEST_VARYING" 4294967295
def zO(CR:Addr):Sp:=λvs H Q ξ=>∃(r dx a:Addr),vs=[.ref r,.ref a]/\H r=some (.ins CR dx [])/\∀H':Hp,f7 CR H' r a 0->Kp H H' r->Q .non H'
def zF(K:Fg_)(CF CR:Addr):Sp:=λvs H Q E=>∃(r a:Addr)(p:Nat)(bs:List UInt8),vs=[.ref r]/\f7 CR H r a p/\SqL K H a (bs.map bv) /\
 (match bs[p]? with
  | some c=>Q (bv c) H
  | none=>Err E CF (.int 1) (.int (bs.length:Int)))
def xA(K:Fg_)(CF CR:Addr):Sp:=λvs H Q E=>∃(r a:Addr)(p:Nat)(bs:List UInt8),vs=[.ref r]/\f7 CR H r a p/\SqL K H a (bs.map bv) /\
 (match bs[p]? with
  | some c=>∀H':Hp,f7 CR H' r a (p+1)->Kp H H' r->Q (bv c) H'
  | none=>Err E CF (.int 1) (.int (bs.length:Int)))
theorem scFI:bq ["self","kind","place"] ["self","kind","place"] (aS sFI):=fs_
theorem pN{f:Addr}{fd:FuncData}(F:Fun K "__init__" "Fault.__init__" sFI f fd)(T:TxR K mg CF CR Bu):bQ P w K mg base CX0 1 f fd ["self","kind","place"] (lM CF):=by
 refine F.ok scFI (λvs H Q E h=>?_) (λAY A outer s H vs Q E hr h=>?_)
 .obtain ⟨e,k,p,rfl,_⟩:=h
  rfl
 .obtain ⟨e,k,p,rfl,he,q⟩:=h
  refine ⟨_,az (ps_x1 T.xc (.inl rfl) (pv 0) (pv 1) rfl) (aJ (ps_x2 T.xc (.inr rfl) (pv 0) (pv 2) rfl)),?_⟩
  try dsimp only [cW]
  refine ⟨_,rfl,_,rfl,e,rfl,he,λdx n ne=>?_⟩
  refine ⟨_,rfl,_,rfl,e,dx,_,rfl,aC,by rw [aj ne,aC],ne,by show 1<=1000;decide,?_⟩
  exact q dx _ ne (by rw [aj (ba ne),aC]) aC
theorem scRI:bq ["self","row"] ["self","row"] (aS sRI):=fs_
theorem ok_RI{f:Addr}{fd:FuncData}(F:Fun K "__init__" "Reader.__init__" sRI f fd)(T:TxR K mg CF CR Bu):bQ P w K mg base CX0 1 f fd ["self","row"] (zO CR):=by
 refine F.ok scRI (λvs H Q E h=>?_) (λAY A outer s H vs Q E hr h=>?_)
 .obtain⟨r,dx,a,rfl,_⟩:=h
  rfl
 .obtain⟨r,dx,a,rfl,hp,k⟩:=h
  refine⟨_,az (dv (pv 0) (pv 1) rfl) (aJ (dv (pv 0) bb rfl)),?_⟩
  try dsimp only[cW];refine⟨_,rfl,_,rfl,r,CR,dx,[],rfl,hp,T.cR,T.nRow,(by show 0<1000;decide),?_⟩
  refine⟨_,rfl,r,CR,dx,_,rfl,aC,T.cR,T.nPl,(by show 1<1000;decide),?_⟩
  exact k _ ⟨dx,aC⟩ λb o e n=>by rw[aj n,aj n];exact e
theorem scSB:bq ["self"] ["self"] (aS sSB):=fs_
theorem ok_SB{f:Addr}{fd Bl:FuncData}(F:Fun K "see_byte" "Reader.see_byte" sSB f fd)(T:TxR K mg CF CR Bu)(FI:Fun K "__init__" "Fault.__init__" sFI Bu Bl)(bI:bZ K Bl ["self","kind","place"] []) :
  bQ P w K mg base (CXF P w) 3 f fd ["self"] (zF K CF CR):=by
 have GI:bQ P w K mg base CX0 1 Bu Bl ["self","kind","place"] (lM CF):=pN FI T
 refine okX F scSB (λvs H Q E h=>?_) (λAY A outer s H vs Q E hr h=>?_)
 .obtain⟨r,a,p,bs,rfl,_⟩:=h
  rfl
 .obtain⟨r,a,p,bs,rfl,⟨dx,Bf⟩,hs,q⟩:=h
  refine⟨_,az (cE (bC ze (a6 (pv 0) rfl) (ck cB (by rfl) T.len bo (aa (a6 (pv 0) rfl) aG)) (bX _))
    (aJ (eJ T.xc GI bI hr cN rfl rfl T.mF (aa (pgi T.e1 rfl) (aa (ck cB (by rfl) T.len bo (aa (a6 (pv 0) rfl) aG)) aG)))) b7)
   (aJ (bK (dJ cx (a6 (pv 0) rfl) (a6 (pv 0) rfl) (λξ ξ=>rfl)))),?_⟩
  try dsimp only[cW];refine⟨_,rfl,fd_ Bf T.cR T.nPl (dO a p) ⟨_,rfl,fd_ Bf T.cR T.nRow (iP a p) (ex2 a _ ⟨rfl,.inl hs,ex2 _ _ ⟨rfl,rfl,_,rfl,?_⟩⟩)⟩⟩
  rw[au];refine j9 (λz=>?_) (λz=>?_)
  .have z:=of_decide_eq_true z
   have e:bs[p]? =none:=cv.mpr (icE z)
   rw[e]at q;exact⟨_,rfl,fd_ Bf T.cR T.nRow (iP a p) (ex2 a _ ⟨rfl,.inl hs,_,_,rfl,by rw[au];exact q⟩)⟩
  .have z:p<bs.length:=by
    have z:=z
    simp at z
    exact z
   have e:bs[p]? =some bs[p]:=aO z
   rw[e]at q;exact⟨_,rfl,fd_ Bf T.cR T.nRow (iP a p) ⟨_,rfl,fd_ Bf T.cR T.nPl (dO a p) ⟨a,_,_,bv bs[p],rfl,rfl,hs,iN (by rw[bt,e];rfl),q⟩⟩⟩
theorem scRB:bq ["self","byte"] ["self"] (aS sRB):=fs_
theorem ok_RB{f IR:Addr}{fd CM:FuncData}(F:Fun K "read_byte" "Reader.read_byte" sRB f fd)(T:TxR K mg CF CR Bu)
  (GS:bQ P w K mg base (CXF P w) 3 IR CM ["self"] (zF K CF CR))(bS:bZ K CM ["self"] [])(mS:mR K CR "see_byte" IR) :
  bQ P w K mg base (CXF P w) 4 f fd ["self"] (xA K CF CR):=by
 refine okX F scRB (λvs H Q E h=>?_) (λAY A outer s H vs Q E hr h=>?_)
 .obtain⟨r,a,p,bs,rfl,_⟩:=h
  rfl
 .obtain⟨r,a,p,bs,rfl,⟨dx,Bf⟩,hs,q⟩:=h
  refine⟨_,az (bE (i:=1) scRB.nd rfl (.inl rfl) (iz (pv 0) T.cR mS GS hr bS .nil dG))
   (az (lT (pv 0) bb tw) (aJ (bK (pv 1)))),?_⟩
  try dsimp only[cW];refine⟨_,rfl,ex3 r dx _ ⟨rfl,Bf,jv a p (by decide +kernel) (by decide +kernel),r,a,p,bs,rfl,⟨dx,Bf⟩,hs,?_⟩⟩
  cases e:bs[p]? with
  | none =>
   rw[e]at q;exact q
  | some c =>
   rw[e]at q;refine⟨_,rfl,r,CR,dx,_,_,rfl,Bf,T.cR,T.nPl,dO a p,_,_,rfl,rfl,dx,_,Bf,(by show 2<1000;decide),?_⟩
   refine⟨_,rfl,q _ ⟨dx,?_⟩ λb o e n=>by rw[aj n];exact e⟩
   rw[aC];rfl
def zV(K:Fg_)(CF CR:Addr):Sp:=λvs H Q E=>∃(r a:Addr)(p n:Nat)(bs:List UInt8),vs=[.ref r,.int (n:Int)]/\f7 CR H r a p/\SqL K H a (bs.map bv)/\p<=bs.length /\
 (if bs.length-p<n then Err E CF (.int 1) (.int (bs.length:Int))else ∀H':Hp,f7 CR H' r a (p+n)->Kp H H' r->Q (.int (p:Int)) H')
theorem scPB:bq ["self","how_many","first"] ["self","how_many"] (aS sPB):=fs_
theorem ok_PB{f:Addr}{fd Bl:FuncData}(F:Fun K "pass_bytes" "Reader.pass_bytes" sPB f fd)(T:TxR K mg CF CR Bu)(FI:Fun K "__init__" "Fault.__init__" sFI Bu Bl)(bI:bZ K Bl ["self","kind","place"] []) :
  bQ P w K mg base (CXF P w) 3 f fd ["self","how_many"] (zV K CF CR):=by
 have GI:bQ P w K mg base CX0 1 Bu Bl ["self","kind","place"] (lM CF):=pN FI T
 refine okX F scPB (λvs H Q E h=>?_) (λAY A outer s H vs Q E hr h=>?_)
 .obtain⟨r,a,p,n,bs,rfl,_⟩:=h
  rfl
 .obtain⟨r,a,p,n,bs,rfl,⟨dx,Bf⟩,hs,hp,q⟩:=h
  refine⟨_,az (cE (bC jx (pv 1) (dI iA (ck cB (by rfl) T.len bo (aa (a6 (pv 0) rfl) aG)) (a6 (pv 0) rfl)) (bX _))
    (aJ (eJ T.xc GI bI hr cN rfl rfl T.mF (aa (pgi T.e1 rfl) (aa (ck cB (by rfl) T.len bo (aa (a6 (pv 0) rfl) aG)) aG)))) b7)
   (az (bE (i:=2) scPB.nd rfl (.inl rfl) (a6 (pv 0) rfl))
   (az (lT (pv 0) (pv 1) tw) (aJ (bK (pv 2))))),?_⟩
  try dsimp only[cW];refine⟨_,rfl,_,rfl,fd_ Bf T.cR T.nRow (iP a p) (ex2 a _ ⟨rfl,.inl hs,_,rfl,fd_ Bf T.cR T.nPl (dO a p) (ex2 _ _ ⟨rfl,rfl,ex2 _ _ ⟨rfl,rfl,_,rfl,?_⟩⟩)⟩)⟩
  rw[au];refine j9 (λz=>?_) (λz=>?_)
  .have z:=of_decide_eq_true z
   rw[ax (by omega)]at q
   exact⟨_,rfl,fd_ Bf T.cR T.nRow (iP a p) (ex2 a _ ⟨rfl,.inl hs,_,_,rfl,by rw[au];exact q⟩)⟩
  .have z:¬bs.length-p<n:=by
    have z:=z
    simp at z
    omega
   rw[ay z]at q;refine⟨_,rfl,fd_ Bf T.cR T.nPl (dO a p) ?_⟩
   refine⟨_,rfl,r,CR,dx,_,_,rfl,Bf,T.cR,T.nPl,dO a p,_,rfl,_,_,rfl,rfl,dx,_,Bf,(by show 2<1000;decide),?_⟩
   refine⟨_,rfl,q _ ⟨dx,?_⟩ λb o e n=>by rw[aj n];exact e⟩
   rw[aC];rfl
def Out{α:Type}(E:XK)(CF:Addr)(r:Except Sw.Fault α)(k:α->Prop):Prop:=match r with
 | .ok x=>k x
 | .error e=>Err E CF (.int (e.kind:Int)) (.int (e.place:Int))
def zJ(K:Fg_)(CF CR:Addr):Sp:=λvs H Q E=>∃(r a:Addr)(p:Nat)(bs:List UInt8),vs=[.ref r]/\f7 CR H r a p/\SqL K H a (bs.map bv)/\p<=bs.length /\
 Out E CF (Sw.varyOf p (bs.drop p)) λ(x:Nat×Nat)=>∀H':Hp,f7 CR H' r a (p+x.2)->Kp H H' r->Q (.int (x.1:Int)) H'
theorem mZ{j:Nat}{x y:Int}{σ:St}{H:Hp}{Q:Bool->Hp->Prop}(h:σ[j]? =some (some (.int x)))(q:Q (decide (y<x)) H):pE (tOp (rI0 λi j=>V.bl (decide (j<i))) (sH j) (tC (V.int y))) σ H Q :=
 ⟨_,h,_,_,rfl,rfl,_,rfl,q⟩
theorem rb:bq ["self","first","amount","weight","before","byte"] ["self"] (aS sRV):=fs_
theorem ok_RV{f Dt:Addr}{fd Bl DJ:FuncData}(F:Fun K "read_varying" "Reader.read_varying" sRV f fd)(T:TxR K mg CF CR Bu)(FI:Fun K "__init__" "Fault.__init__" sFI Bu Bl)(bI:bZ K Bl ["self","kind","place"] [])
  (GB:bQ P w K mg base (CXF P w) 4 Dt DJ ["self"] (xA K CF CR))(bB:bZ K DJ ["self"] [])(mB:mR K CR "read_byte" Dt) :
  bQ P w K mg base (CXF P w) 5 f fd ["self"] (zJ K CF CR):=by
 have GI:bQ P w K mg base CX0 1 Bu Bl ["self","kind","place"] (lM CF):=pN FI T
 refine okX F rb (λvs H Q E h=>?_) (λAY A outer s H vs Q E hr h=>?_)
 .obtain⟨r,a,p,bs,rfl,_⟩:=h
  rfl
 .obtain⟨r,a,p,bs,rfl,⟨dx,Bf⟩,hs,hp,q⟩:=h
  have Bm:cD 2 _:=hr.mono (by decide)
  refine⟨_,az (bE (i:=1) rb.nd rfl (.inl rfl) (a6 (pv 0) rfl))
   (az (bE (i:=2) rb.nd rfl (.inl rfl) bb)
   (az (bE (i:=3) rb.nd rfl (.inl rfl) bb)
   (az (lS PassesOwn.leaving rfl (uV rfl T.rng (aa (pgi T.mv rfl) aG)) (fv (i:=4) rb.nd rfl (.inl rfl))
    (az (bE (i:=5) rb.nd rfl (.inl rfl) (iz (pv 0) T.cR mB GB hr bB .nil dG))
    (az (sQ (i:=2) rb.nd rfl (.inl rfl) (dI we (dI qj (pv 5) bb) (pv 3)) uo)
    (az (sQ (i:=3) rb.nd rfl (.inl rfl) bb yF)
    (aJ (cE (bC jw (pv 5) bb (bX _))
     (az (cE (PW.pt (kJ (PW.pt (j7 (bC eN (pv 5) bb (bX _)) (jk (bC jx (pv 4) bb (bX _))))) (jB (bC jx (pv 2) (pgi T.hv rfl) (bX _)))))
      (aJ (eJ T.xc GI bI Bm cN rfl rfl T.mF (aa (pgi T.e3 rfl) (aa (pv 1) aG)))) b7)
     (aJ (bK (pv 2)))) b7))))))
   (aJ (eJ T.xc GI bI Bm cN rfl rfl T.mF (aa (pgi T.e3 rfl) (aa (pv 1) aG))))))),?_⟩
  try dsimp only[cW];refine⟨_,rfl,fd_ Bf T.cR T.nPl (dO a p) ?_⟩
  refine⟨5,rfl,by decide,by decide,pV (lo:=0) (n:=5) (λi σ H'=>∃(am wt:Int)(v4 v5:Option V),σ=[some (.ref r),some (.int (p:Int)),some (.int am),some (.int wt),v4,v5] /\
    am=((Vm.val ((bs.drop p).take i):Nat):Int)/\wt=((128 ^ i:Nat):Int)/\f7 CR H' r a (p+i)/\Kp H H' r/\i<=(bs.drop p).length/\Vm.High ((bs.drop p).take i))
   ⟨0,1,none,none,rfl,rfl,rfl,⟨dx,Bf⟩,Kp.refl H r,aX _,λc hc=>by simp at hc⟩ ?_ ?_⟩
  .rintro i σ H1 hi ⟨am,wt,v4,v5,rfl,IM,Lr,⟨BV,h1⟩,k1,li,hh⟩
   have sq:=ju hs k1 Bf
   have Qc:(bs.drop p).length=bs.length-p:=aD
   have Qb:((bs.drop p).take i).length=i:=by rw[aP];lia
   have hx:(bs.drop p)[i]? =bs[p+i]?:=by rw[gb]
   refine⟨_,rfl,ex3 r BV _ ⟨rfl,h1,jv a (p+i) (by decide +kernel) (by decide +kernel),r,a,p+i,bs,rfl,⟨BV,h1⟩,sq,?_⟩⟩
   cases e:bs[p+i]? with
   | none =>
    have l1:bs.length<=p+i:=cv.mp e
    have e1:(bs.drop p).take i=bs.drop p:=cC (by lia)
    rw[e1]at hh;have e2:=Vm.vary_end (p:=p) hh (by lia)
    rw[e2]at q;have e3:p+(bs.drop p).length=bs.length:=by lia
    have q':Err E CF (.int 1) (.int ((p+(bs.drop p).length:Nat):Int)):=q
    rw[e3]at q'
    exact q'
   | some c =>
    intro H2 JO k2
    have l1:p+i<bs.length:=(aK.mp e).1
    have e0:bs.drop p=(bs.drop p).take i++c::bs.drop (p+i+1):=by
     have t1:(bs.drop p).drop i=c::bs.drop (p+i+1):=by
      rw[cy,bW l1];rw[aO l1]at e;cases e;rfl
     rw[<-t1,du]
    have e1:(bs.drop p).take (i+1)=(bs.drop p).take i++[c]:=by
     rw[eQ,hx,e];rfl
    have ev:=Vm.val_snoc ((bs.drop p).take i) c
    rw[Qb]at ev;have ea:am+((c.toNat:Int) % 128)*wt=((Vm.val ((bs.drop p).take (i+1)):Nat):Int):=by
     rw[IM,Lr,e1,ev,Int.natCast_add,Int.natCast_mul,Int.natCast_emod];rfl
    have ew:wt*128=((128 ^ (i+1):Nat):Int):=by
     rw[Lr,gu,Int.natCast_mul];rfl
    refine⟨_,rfl,_,rfl,ex2 _ _ ⟨rfl,rfl,(by show(0:Int)<128;decide),_,rfl,ex2 _ _ ⟨rfl,rfl,.inl ⟨?_,?_⟩,ex2 _ _ ⟨rfl,rfl,?_⟩⟩⟩⟩
    .show -(2 ^ 64:Int)<(c.toNat:Int) % 128
     exact cV _
    .show(c.toNat:Int) % 128<2 ^ 64
     lia
    refine⟨_,rfl,ex2 _ _ ⟨rfl,rfl,.inr ⟨by decide,by decide⟩,?_⟩⟩
    refine⟨_,rfl,ex2 _ _ ⟨rfl,rfl,_,rfl,?_⟩⟩
    refine j9 (λz=>?_) (λz=>?_)
    .have z:=of_decide_eq_true z
     have hc:c.toNat<128:=(icL z)
     have Ru:=(congrArg (Sw.varyOf p) e0).trans (Vm.vary_stop (r:=bs.drop (p+i+1)) hh (by lia) hc)
     rw[Qb,<-e1]at Ru;rw[Ru]at q;have bad:(i>0/\c=0)\/2 ^ 32<=Vm.val ((bs.drop p).take (i+1))->Err E CF (.int 3) (.int (p:Int)):=λhb=>by
      rcases hb with hb | hb
      .rw[ax hb]at q;exact q
      .by_cases hz:i>0/\c=0
       .rw[ax hz]at q;exact q
       .rw[ay hz,ax hb]at q;exact q
     have good:¬(i>0/\c=0)->¬2 ^ 32<=Vm.val ((bs.drop p).take (i+1))->Q (.int (am+((c.toNat:Int) % 128)*wt)) H2:=λh1 h2=>by
      rw[ay h1,ay h2]at q;rw[ea];exact q H2 (by show f7 CR H2 r a (p+(i+1));rw[<-bh];exact JO) (k1.trans k2)
     have c0:(V.int (c.toNat:Int)=V.int 0)↔c=0:=by
      constructor
      .intro EO;injection EO with EO;exact UInt8.toNat_inj.mp (by show c.toNat=0;exact icQ EO)
      .intro EO;rw[EO];rfl
     refine⟨_,rfl,rfl,_,rfl,j9 (λz1=>?_) (λz1=>?_)⟩
     .have z1:=c0.mp (of_decide_eq_true z1)
      refine⟨_,rfl,ex2 _ _ ⟨rfl,rfl,_,rfl,?_⟩⟩
      by_cases z2:i>0
      .rw[ah (show(0:Int)<0+(i:Int)from(ciL (aR z2 (a8 _ _))))];exact⟨_,rfl,ex2 _ _ ⟨rfl,bad (.inl ⟨z2,z1⟩)⟩⟩
      .rw[ai (show ¬(0:Int)<0+(i:Int)by lia)]
       refine mZ rfl (j9 (λz3=>?_) (λz3=>?_))
       .have z3:=of_decide_eq_true z3
        exact⟨_,rfl,ex2 _ _ ⟨rfl,bad (.inr (by omega))⟩⟩
       .exact⟨_,rfl,good (λhz=>z2 hz.1) λhz=>z3 (ah (by omega))⟩
     .refine mZ rfl (j9 (λz3=>?_) (λz3=>?_))
      .have z3:=of_decide_eq_true z3
       exact⟨_,rfl,ex2 _ _ ⟨rfl,bad (.inr (by omega))⟩⟩
      .exact⟨_,rfl,good (λhz=>z1 (ah (c0.mpr hz.2))) λhz=>z3 (ah (by omega))⟩
    .have z:¬c.toNat<128:=by
      have z:=z
      simp at z
      exact eB (icL z)
     refine ex4 _ _ _ _ ⟨rfl,ea,ew,?_,k1.trans k2,by lia,?_⟩
     .rw[<-bh];exact JO
     .rw[e1];intro d hd;rcases aM.mp hd with hd | hd
      .exact hh d hd
      .rw[aN.mp hd];exact bg z
  .rintro σ H1 ⟨am,wt,v4,v5,rfl,_,_,_,_,l5,hh⟩
   have e5:=Vm.vary_five (p:=p) (r:=(bs.drop p).drop 5) hh (by rw[aP];lia)
   rw[du]at e5;rw[e5]at q;exact⟨_,rfl,ex2 _ _ ⟨rfl,q⟩⟩
structure TxU(mg:Str->Option Value):Prop where
 lf:GI mg "LOWEST_FURTHER" 128
 hf:GI mg "HIGHEST_FURTHER" 191
 e5:GI mg "WRONG_UTF8" 5
 mn:mg "min" =none
def xN(c:Nat):Nat:=if Um.cf c=0 then 0 else Um.cf c+1
def Aw(p:Nat)(c:UInt8)(b:List UInt8):Except Nat Nat:=if Um.cf c.toNat=0 then .error p else match Um.fbad (Um.ls c.toNat) (Um.hs c.toNat) (p+1) (b.take (Um.cf c.toNat))with
 | some q=>.error q
 | none=>.ok (p+1+Um.cf c.toNat)
def spN(g:Nat->Nat):Sp:=λvs H Q ξ=>∃c:Nat,vs=[.int (c:Int)]/\Q (.int ((g c:Nat):Int)) H
def zR(K:Fg_)(CF:Addr):Sp:=λvs H Q E=>∃(a:Addr)(pl en:Nat)(c:UInt8)(bs:List UInt8),vs=[.ref a,.int (pl:Int),.int (en:Int)]/\SqL K H a (bs.map bv)/\bs[pl]? =some c/\pl<en/\en<=bs.length/\bs.length<=65536 /\
 (match Aw pl c ((bs.drop (pl+1)).take (en-(pl+1)))with
  | .error q=>Err E CF (.int 5) (.int (q:Int))
  | .ok z=>Q (.int (z:Int)) H)
def xH(K:Fg_)(CF:Addr):Sp:=λvs H Q E=>∃(a:Addr)(st en:Nat)(bs:List UInt8),vs=[.ref a,.int (st:Int),.int (en:Int)]/\SqL K H a (bs.map bv)/\st<=en/\en<=bs.length/\bs.length<=65536 /\
 (match Um.urun 0 128 191 st ((bs.drop st).take (en-st))with
  | some q=>Err E CF (.int 5) (.int (q:Int))
  | none=>Q .non H)
theorem scSL:bq ["first"] ["first"] (aS sSL):=fs_
theorem qG{lo hi c:Nat}{i:Nat}{σ:St}{H:Hp}{Q:Bool->Hp->Prop}(h:σ[i]? =some (some (.int (c:Int))))(q:Q (decide (lo<=c/\c<=hi)) H) :
  pE (sI (rI0 λi j=>V.bl (decide (i<=j))) (rI0 λi j=>V.bl (decide (i<=j))) (tC (.int (lo:Int))) (sH i) (tC (.int (hi:Int)))) σ H Q:=by
 refine⟨_,h,ex2 _ _ ⟨rfl,rfl,_,rfl,?_⟩⟩
 by_cases h1:lo<=c
 .rw[ah (show(lo:Int)<=(c:Int)by lia)]
  refine c9 (ex2 _ _ ⟨rfl,rfl,_,rfl,?_⟩)
  have e:decide ((c:Int)<=(hi:Int))=decide (lo<=c/\c<=hi):=by
   by_cases h2:c<=hi
   .rw[ah (show(c:Int)<=(hi:Int)by lia),ah ⟨h1,h2⟩]
   .rw[ai (show ¬(c:Int)<=(hi:Int)by lia),ai (λz=>h2 z.2)]
  rw[e];exact q
 .rw[ai (show ¬(lo:Int)<=(c:Int)by lia)]
  refine cK ⟨_,rfl,?_⟩
  rw[ai (λz=>h1 z.1)]at q
  exact q
theorem ok_SL{f:Addr}{fd:FuncData}(F:Fun K "scalar_length" "scalar_length" sSL f fd):bQ P w K mg base CX0 1 f fd ["first"] (spN xN):=by
 refine F.ok scSL (λvs H Q E h=>?_) (λAY A outer s H vs Q E hr h=>?_)
 .obtain ⟨c,rfl,_⟩:=h
  rfl
 .obtain ⟨c,rfl,q⟩:=h
  refine ⟨_,az (cE (kL jE jE bb (pv 0) bb) (aJ (bK bb)) b7)
   (az (cE (kL jE jE bb (pv 0) bb) (aJ (bK bb)) b7)
   (az (cE (kL jE jE bb (pv 0) bb) (aJ (bK bb)) b7) (aJ (bK bb)))),?_⟩
  try dsimp only [cW]
  unfold xN Um.cf at q
  refine qG (lo:=194) (hi:=223) rfl (j9 (λz=>?_) (λz=>?_))
  .rw [ax (of_decide_eq_true z)] at q
   exact q
  .rw [ay (λy=>z (ah y))] at q
   refine qG (lo:=224) (hi:=239) rfl (j9 (λz=>?_) (λz=>?_))
   .rw [ax (of_decide_eq_true z)] at q
    exact q
   .rw [ay (λy=>z (ah y))] at q
    refine qG (lo:=240) (hi:=244) rfl (j9 (λz=>?_) (λz=>?_))
    .rw [ax (of_decide_eq_true z)] at q
     exact q
    .rw [ay (λy=>z (ah y))] at q
     exact q
theorem jI{n c:Nat}{i:Nat}{σ:St}{H:Hp}{Q:Bool->Hp->Prop}(h:σ[i]? =some (some (.int (c:Int))))(q:Q (decide (c=n)) H):pE (tOp rEq (sH i) (tC (.int (n:Int)))) σ H Q:=by
 refine⟨_,h,rfl,_,rfl,?_⟩
 have e:decide (V.int (c:Int)=V.int (n:Int))=decide (c=n):=by
  by_cases z:c=n
  .rw[z,ah rfl,ah rfl]
  .rw[ai z,ai (λy=>z (by injection y with y;lia))]
 rw[e];exact q
theorem scLS:bq ["first"] ["first"] (aS sLS):=fs_
theorem ok_LS{f:Addr}{fd:FuncData}(F:Fun K "lowest_second" "lowest_second" sLS f fd)(U:TxU mg):bQ P w K mg base CX0 1 f fd ["first"] (spN Um.ls):=by
 refine F.ok scLS (λvs H Q E h=>?_) (λAY A outer s H vs Q E hr h=>?_)
 .obtain ⟨c,rfl,_⟩:=h
  rfl
 .obtain ⟨c,rfl,q⟩:=h
  refine ⟨_,az (cE (bC eN (pv 0) bb (bX _)) (aJ (bK bb)) b7)
   (az (cE (bC eN (pv 0) bb (bX _)) (aJ (bK bb)) b7) (aJ (bK (pgi U.lf rfl)))),?_⟩
  try dsimp only [cW]
  unfold Um.ls at q
  refine jI (n:=224) rfl (j9 (λz=>?_) (λz=>?_))
  .rw [ax (of_decide_eq_true z)] at q
   exact q
  .rw [ay (λy=>z (ah y))] at q
   refine jI (n:=240) rfl (j9 (λz=>?_) (λz=>?_))
   .rw [ax (of_decide_eq_true z)] at q
    exact q
   .rw [ay (λy=>z (ah y))] at q
    exact q
theorem scHS:bq ["first"] ["first"] (aS sHS):=fs_
theorem ok_HS{f:Addr}{fd:FuncData}(F:Fun K "highest_second" "highest_second" sHS f fd)(U:TxU mg):bQ P w K mg base CX0 1 f fd ["first"] (spN Um.hs):=by
 refine F.ok scHS (λvs H Q E h=>?_) (λAY A outer s H vs Q E hr h=>?_)
 .obtain ⟨c,rfl,_⟩:=h
  rfl
 .obtain ⟨c,rfl,q⟩:=h
  refine ⟨_,az (cE (bC eN (pv 0) bb (bX _)) (aJ (bK bb)) b7)
   (az (cE (bC eN (pv 0) bb (bX _)) (aJ (bK bb)) b7) (aJ (bK (pgi U.hf rfl)))),?_⟩
  try dsimp only [cW]
  unfold Um.hs at q
  refine jI (n:=237) rfl (j9 (λz=>?_) (λz=>?_))
  .rw [ax (of_decide_eq_true z)] at q
   exact q
  .rw [ay (λy=>z (ah y))] at q
   refine jI (n:=244) rfl (j9 (λz=>?_) (λz=>?_))
   .rw [ax (of_decide_eq_true z)] at q
    exact q
   .rw [ay (λy=>z (ah y))] at q
    exact q
theorem rg:bq ["row","place","end","first","length","lowest","highest","further"] ["row","place","end"] (aS sPS):=fs_
theorem ok_PS{f f1 f2 f3:Addr}{fd Bl N1 N0 NZ:FuncData}(F:Fun K "pass_scalar" "pass_scalar" sPS f fd)(T:TxR K mg CF CR Bu)(U:TxU mg)(FI:Fun K "__init__" "Fault.__init__" sFI Bu Bl)(bI:bZ K Bl ["self","kind","place"] [])
  (F1:Fun K "scalar_length" "scalar_length" sSL f1 N1)(b1:bZ K N1 ["first"] [])(m1:mg "scalar_length" =some (.ref f1))
  (F2:Fun K "lowest_second" "lowest_second" sLS f2 N0)(b2:bZ K N0 ["first"] [])(m2:mg "lowest_second" =some (.ref f2))
  (F3:Fun K "highest_second" "highest_second" sHS f3 NZ)(b3:bZ K NZ ["first"] [])(m3:mg "highest_second" =some (.ref f3)) :
  bQ P w K mg base (CXF P w) 3 f fd ["row","place","end"] (zR K CF):=by
 have GI:bQ P w K mg base CX0 1 Bu Bl ["self","kind","place"] (lM CF):=pN FI T
 have G1:bQ P w K mg base CX0 1 f1 N1 ["first"] (spN xN):=ok_SL F1
 have G2:bQ P w K mg base CX0 1 f2 N0 ["first"] (spN Um.ls):=ok_LS F2 U
 have G3:bQ P w K mg base CX0 1 f3 NZ ["first"] (spN Um.hs):=ok_HS F3 U
 refine okX F rg (λvs H Q E h=>?_) (λAY A outer s H vs Q E hr h=>?_)
 .obtain⟨a,pl,en,c,bs,rfl,_⟩:=h
  rfl
 .obtain⟨a,pl,en,c,bs,rfl,hs,hc,h1,h2,h3,q⟩:=h
  have Bf:cD 1 _:=hr.mono (by decide)
  refine⟨_,az (bE (i:=3) rg.nd rfl (.inl rfl) (dJ cx (pv 0) (pv 1) (λξ ξ=>rfl)))
   (az (bE (i:=4) rg.nd rfl (.inl rfl) (m7 G1 Bf rfl m1 F1.kp b1 .nil cM (aa (pv 3) aG)))
   (az (cE (bC eN (pv 4) bb (bX _)) (aJ (eJ T.xc GI bI hr cN rfl rfl T.mF (aa (pgi U.e5 rfl) (aa (pv 1) aG)))) b7)
   (az (bE (i:=5) rg.nd rfl (.inl rfl) (m7 G2 Bf rfl m2 F2.kp b2 .nil cM (aa (pv 3) aG)))
   (az (bE (i:=6) rg.nd rfl (.inl rfl) (m7 G3 Bf rfl m3 F3.kp b3 .nil cM (aa (pv 3) aG)))
   (az (lS PassesOwn.leaving rfl (uU rfl T.rng (aa (dI gk (pv 1) bb) (aa (ck (vk rfl) (by rfl) U.mn boot_min (aa (dI gk (pv 1) (pv 4)) (aa (pv 2) aG))) aG))) (fv (i:=7) rg.nd rfl (.inl rfl))
    (az (cE (PW.pt (kJ (bC jw (dJ cx (pv 0) (pv 7) (λξ ξ=>rfl)) (pv 5) (bX _)) (jB (bC jx (dJ cx (pv 0) (pv 7) (λξ ξ=>rfl)) (pv 6) (bX _)))))
      (aJ (eJ T.xc GI bI hr cN rfl rfl T.mF (aa (pgi U.e5 rfl) (aa (pv 7) aG)))) b7)
    (az (bE (i:=5) rg.nd rfl (.inl rfl) (pgi U.lf rfl)) (aJ (bE (i:=6) rg.nd rfl (.inl rfl) (pgi U.hf rfl))))))
   (aJ (bK (dI gk (pv 1) (pv 4))))))))),?_⟩
  try dsimp only[cW];refine⟨_,rfl,_,rfl,a,_,_,bv c,rfl,rfl,hs,iN (by rw[bt,hc];rfl),?_⟩
  refine⟨_,rfl,c.toNat,rfl,?_⟩
  refine jI (n:=0) rfl ?_
  unfold Aw at q;unfold xN;by_cases h0:Um.cf c.toNat=0
  .rw[ax h0]at q;rw[ax h0,ah rfl];exact c9 ⟨_,rfl,ex2 _ _ ⟨rfl,q⟩⟩
  .rw[ay h0]at q;rw[ay h0,ai (by lia)]
   refine cK ⟨_,rfl,c.toNat,rfl,_,rfl,c.toNat,rfl,?_⟩
   generalize hk:Um.cf c.toNat=k at q h0;generalize JJ:((bs.drop (pl+1)).take (en-(pl+1))).take k=seg at q;have MB:seg.length=min k (en-(pl+1)):=by rw[<-JJ,aP,aP,aD];lia
   have IL:∀i,i<seg.length->seg[i]? =bs[pl+1+i]?:=λi hi=>by
    rw[<-JJ,br (by omega),br (by omega),gb]
   generalize hR:Um.fbad (Um.ls c.toNat) (Um.hs c.toNat) (pl+1) seg=R at q;have eM:(if(en:Int)<(pl:Int)+((k+1:Nat):Int)then(en:Int)else(pl:Int)+((k+1:Nat):Int))=((pl+1+seg.length:Nat):Int):=by
    rw[MB];by_cases z:(en:Int)<(pl:Int)+((k+1:Nat):Int)
    .rw[ax z];omega
    .rw[ay z];lia
   refine⟨_,rfl,ex2 _ _ ⟨rfl,rfl,_,rfl,_,rfl,ex2 _ _ ⟨rfl,rfl,_,rfl,ex2 _ _ ⟨rfl,ex2 _ _ ⟨rfl,?_,?_⟩⟩⟩⟩⟩
   .rw[eM];exact⟨by lia,by lia,by lia,by omega⟩
   rw[eM,show(((pl+1+seg.length:Nat):Int)-((pl:Int)+1)).toNat=seg.length by lia]
   refine pV (lo:=(pl:Int)+1) (n:=seg.length) (λi σ H'=>H'=H/\∃(lo hi:Nat)(Lo Lz:Int)(v7:Option V),Lo=(lo:Int)/\Lz=(hi:Int) /\
     σ=[some (.ref a),some (.int (pl:Int)),some (.int (en:Int)),some (bv c),some (.int ((k+1:Nat):Int)),some (.int Lo),some (.int Lz),v7]/\Um.fbad lo hi (pl+1+i) (seg.drop i)=R)
    ⟨rfl,Um.ls c.toNat,Um.hs c.toNat,_,_,none,rfl,rfl,rfl,hR⟩ ?_ ?_
   .rintro i σ H1 hi ⟨rfl,lo,Ge,Lo,Lz,v7,rfl,rfl,rfl,Bb⟩
    have eb:seg[i]? =some seg[i]:=aO hi
    have Ry:=IL i hi
    have ed:seg.drop i=seg[i]::seg.drop (i+1):=bW hi
    rw[ed]at Bb;generalize seg[i]=d at eb Bb;rw[eb]at Ry;have ei:((pl:Int)+1+(i:Int))=((pl+1+i:Nat):Int):=by lia
    have Nl:atI (bs.map bv) ((pl:Int)+1+(i:Int))=some (bv d):=jY ei (by rw[bt,<-Ry];rfl)
    unfold Um.fbad at Bb;refine⟨_,rfl,_,rfl,a,_,_,bv d,rfl,rfl,hs,Nl,_,rfl,ex2 _ _ ⟨rfl,rfl,_,rfl,?_⟩⟩
    by_cases hb:d.toNat<lo\/Ge<d.toNat
    .rw[ax hb]at Bb;subst Bb;have q':Err E CF (.int 5) (.int ((pl:Int)+1+(i:Int))):=by rw[ei];exact q
     by_cases Zj:d.toNat<lo
     .rw[ah (show(d.toNat:Int)<(lo:Int)by lia)]
      exact⟨_,rfl,ex2 _ _ ⟨rfl,q'⟩⟩
     .rw[ai (show ¬(d.toNat:Int)<(lo:Int)by lia)]
      refine⟨_,rfl,_,rfl,a,_,_,bv d,rfl,rfl,hs,Nl,_,rfl,ex2 _ _ ⟨rfl,rfl,_,rfl,?_⟩⟩
      rw[ah (show(Ge:Int)<(d.toNat:Int)by lia)]
      exact⟨_,rfl,ex2 _ _ ⟨rfl,q'⟩⟩
    .rw[ay hb]at Bb;rw[ai (show ¬(d.toNat:Int)<(lo:Int)by lia)]
     refine⟨_,rfl,_,rfl,a,_,_,bv d,rfl,rfl,hs,Nl,_,rfl,ex2 _ _ ⟨rfl,rfl,_,rfl,?_⟩⟩
     rw[ai (show ¬(Ge:Int)<(d.toNat:Int)by lia)]
     refine cK ?_
     exact⟨rfl,ex5 128 191 _ _ _ ⟨rfl,rfl,rfl,by rw[<-bh];exact Bb⟩⟩
   .rintro σ H1 ⟨rfl,lo,Ge,Lo,Lz,v7,rfl,rfl,rfl,Bb⟩
    rw[gA (aF _)]at Bb;have Bb:none=R:=Bb
    subst Bb;have q':Q (.int ((pl+1+k:Nat):Int)) H1:=q
    have e9:((pl+1+k:Nat):Int)=(pl:Int)+((k+1:Nat):Int):=by lia
    rw[e9]at q'
    exact⟨_,rfl,_,rfl,ex2 _ _ ⟨rfl,rfl,q'⟩⟩
theorem xW:bq ["row","start","end","place"] ["row","start","end"] (aS sCU):=fs_
theorem ok_CU{f KA:Addr}{fd Bl CM:FuncData}(F:Fun K "check_utf8" "check_utf8" sCU f fd)(T:TxR K mg CF CR Bu)(U:TxU mg)(FI:Fun K "__init__" "Fault.__init__" sFI Bu Bl)(bI:bZ K Bl ["self","kind","place"] [])
  (GS:Co P w K mg base (CXF P w) 3 KA CM ["row","place","end"] (zR K CF) "pass_scalar") :
  bQ P w K mg base (CXF P w) 4 f fd ["row","start","end"] (xH K CF):=by
 have GI:bQ P w K mg base CX0 1 Bu Bl ["self","kind","place"] (lM CF):=pN FI T
 refine okX F xW (λvs H Q E h=>?_) (λAY A outer s H vs Q E hr h=>?_)
 .obtain⟨a,st,en,bs,rfl,_⟩:=h
  rfl
 .obtain⟨a,st,en,bs,rfl,hs,h1,h2,h3,q⟩:=h
  have Bm:cD 2 _:=hr.mono (by decide)
  refine⟨_,az (bE (i:=3) xW.nd rfl (.inl rfl) (pv 1))
   (az (iV PassesOwn.leaving (bC jw (pv 3) (pv 2) (bX _))
    (aJ (cE (bC jw (dJ cx (pv 0) (pv 3) (λξ ξ=>rfl)) (pgi U.lf rfl) (bX _))
     (aJ (sQ (i:=3) xW.nd rfl (.inl rfl) bb uo))
     (aJ (bE (i:=3) xW.nd rfl (.inl rfl) (cj GS hr rfl dG (aa (pv 0) (aa (pv 3) (aa (pv 2) aG)))))))))
   (aJ (cE (bC jx (pv 3) (pv 2) (bX _)) (aJ (eJ T.xc GI bI Bm cN rfl rfl T.mF (aa (pgi U.e5 rfl) (aa (pv 2) aG)))) b7))),?_⟩
  try dsimp only[cW];generalize hR:Um.urun 0 128 191 st ((bs.drop st).take (en-st))=R at q;refine⟨_,rfl,λn σ H'=>H'=H/\∃pl:Nat,σ=[some (.ref a),some (.int (st:Int)),some (.int (en:Int)),some (.int (pl:Int))]/\n=en-pl/\((pl<=en/\Um.urun 0 128 191 pl ((bs.drop pl).take (en-pl))=R)\/(en<pl/\R=some en)),⟨en-st,rfl,st,rfl,rfl,.inl ⟨h1,hR⟩⟩,?_⟩
  rintro n σ H1 ⟨rfl,pl,rfl,hn,Cu⟩
  refine⟨_,rfl,_,rfl,ex2 _ _ ⟨rfl,rfl,_,rfl,?_⟩⟩
  by_cases Bh:pl<en
  .rw[ah (show(pl:Int)<(en:Int)by lia)]
   refine c9 ⟨_,λσ' G' h=>h,?_⟩
   have Bb:Um.urun 0 128 191 pl ((bs.drop pl).take (en-pl))=R:=by
    rcases Cu with h | h
    .exact h.2
    .lia
   have lt:pl<bs.length:=by lia
   have eb:bs[pl]? =some bs[pl]:=aO lt
   have ed:(bs.drop pl).take (en-pl)=bs[pl]::(bs.drop (pl+1)).take (en-(pl+1)):=by
    rw[bW lt,show en-pl=(en-(pl+1))+1 by lia,fU]
   rw[ed]at Bb;generalize bs[pl]=c at eb Bb;unfold Um.urun at Bb;rw[ay (cw 0)]at Bb;refine⟨_,rfl,_,rfl,a,_,_,bv c,rfl,rfl,hs,iN (by rw[bt,eb];rfl),ex2 _ _ ⟨rfl,rfl,_,rfl,?_⟩⟩
   by_cases hc:128<=c.toNat
   .rw[ai (show ¬(c.toNat:Int)<(128:Int)by lia)]
    rw[ax hc]at Bb;refine cK ⟨_,rfl,_,rfl,_,rfl,ex5 a pl en c bs ⟨rfl,hs,eb,Bh,h2,h3,?_⟩⟩
    unfold Aw;by_cases h0:Um.cf c.toNat=0
    .rw[ax h0]at Bb;rw[ax h0];subst Bb;exact q
    .rw[ay h0,Um.urun_further]at Bb;rw[ay h0];cases hf:Um.fbad (Um.ls c.toNat) (Um.hs c.toNat) (pl+1) (((bs.drop (pl+1)).take (en-(pl+1))).take (Um.cf c.toNat))with
     | some z =>
      rw[hf]at Bb;have Bb:some z=R:=Bb
      subst Bb;exact q
     | none =>
      rw[hf]at Bb;have Uv:((bs.drop (pl+1)).take (en-(pl+1))).length=en-(pl+1):=by rw[aP,aD];lia
      have Bb:(if((bs.drop (pl+1)).take (en-(pl+1))).length<Um.cf c.toNat then some (pl+1+((bs.drop (pl+1)).take (en-(pl+1))).length)else Um.urun 0 128 191 (pl+1+Um.cf c.toNat) (((bs.drop (pl+1)).take (en-(pl+1))).drop (Um.cf c.toNat)))=R:=Bb
      refine⟨en-(pl+1+Um.cf c.toNat),by lia,rfl,pl+1+Um.cf c.toNat,rfl,rfl,?_⟩
      rw[Uv]at Bb;by_cases hl:en-(pl+1)<Um.cf c.toNat
      .rw[ax hl,show pl+1+(en-(pl+1))=en by omega]at Bb
       exact .inr ⟨by lia,Bb.symm⟩
      .rw[ay hl]at Bb;refine .inl ⟨by omega,?_⟩
       rw[List.drop_take,cy,show en-(pl+1)-Um.cf c.toNat=en-(pl+1+Um.cf c.toNat)by lia]at Bb
       exact Bb
   .rw[ah (show(c.toNat:Int)<(128:Int)by lia)]
    rw[ay hc]at Bb;refine c9 ⟨_,rfl,ex2 _ _ ⟨rfl,rfl,?_⟩⟩
    refine⟨en-(pl+1),by lia,rfl,pl+1,rfl,rfl,.inl ⟨by lia,Bb⟩⟩
  .rw[ai (show ¬(pl:Int)<(en:Int)by lia)]
   refine cK ⟨_,rfl,_,rfl,ex2 _ _ ⟨rfl,rfl,_,rfl,?_⟩⟩
   rcases Cu with⟨h,Bb⟩ | ⟨h,Bb⟩
   .have e0:pl=en:=by lia
    subst e0;rw[ip,eD]at Bb;have Bb:none=R:=Bb
    subst Bb;rw[ai (show ¬(pl:Int)<(pl:Int)by lia)]
    exact cK q
   .subst Bb;rw[ah (show(en:Int)<(pl:Int)by lia)]
    exact c9 ⟨_,rfl,ex2 _ _ ⟨rfl,q⟩⟩
abbrev PD:=Pm.PD
abbrev PT:=Pm.PT
def pf(d:PD)(n l:Addr):List (Str×V):=[("kind",.int (d.kind:Int)),("place",.int (d.place:Int)),("inside",.int (d.ins:Int)),("end",.int (d.fin:Int)),("size",.int (d.size:Int)),("depth",.int (d.depth:Int)),
 ("name_place",.int (d.np:Int)),("name",.ref n),("members",.ref l)]
def iE(CP:Addr)(H:Hp)(a:Addr)(d:PD)(n l:Addr):Prop:=∃dx,H a=some (.ins CP dx (pf d n l))
structure TxP(K:Fg_)(mg:Str->Option Value)(CP:Addr):Prop where
 cP:Cls K CP
 nKi:dk K CP "kind"
 nPl:dk K CP "place"
 nIn:dk K CP "inside"
 nEn:dk K CP "end"
 nSi:dk K CP "size"
 nDe:dk K CP "depth"
 nNp:dk K CP "name_place"
 nNl:dk K CP "name"
 nMe:dk K CP "members"
 ln:GI mg "LONGEST_NAME" 255
 e6:GI mg "WRONG_NAME" 6
def Kp2(H H':Hp)(r m:Addr):Prop:=∀b o,H b=some o->b≠r->b≠m->H' b=some o
theorem pJ{CP CR:Addr}{G:Hp}{a n l r b dx:Addr}{d:PD}{p:Nat}(h:G a=some (.ins CP dx (pf d n l)))(h':f7 CR G r b p):a≠r:=by
 obtain⟨dy,h'⟩:=h'
 exact dC h h' (by intro z;injection z with _ _ z3;exact aW (congrArg List.length z3) (by show ¬9=2;decide))
structure TxN(mg:Str->Option Value):Prop where
 ln:GI mg "LONGEST_NUMBER" 4096
 e4:GI mg "WRONG_NUMBER" 4
 tx:GI mg "TEXT" 4
def zT(K:Fg_)(CF CR CP:Addr):Sp:=λvs H Q E=>∃(r a m nm lm:Addr)(p:Nat)(d:PD)(bs:List UInt8),vs=[.ref r,.ref m]/\f7 CR H r a p/\SqL K H a (bs.map bv)/\iE CP H m d nm lm/\p<=bs.length /\
 Out E CF (Hm.numAt d.place p (bs.drop p)) λ(x:Nat×Nat)=>∀H':Hp,f7 CR H' r a (p+x.1+x.2)->iE CP H' m { d with ins:=p+x.1 } nm lm->Kp2 H H' r m->Q .non H'
def zS(K:Fg_)(CF CR CP:Addr):Sp:=λvs H Q E=>∃(r a m nm lm:Addr)(p:Nat)(d:PD)(bs:List UInt8),vs=[.ref r,.ref m]/\f7 CR H r a p/\SqL K H a (bs.map bv)/\iE CP H m d nm lm/\p<=bs.length/\bs.length<=65536 /\
 Out E CF (Hm.strAt (decide (d.kind=4)) p (bs.drop p)) λ(x:Nat×Nat)=>∀H':Hp,f7 CR H' r a (p+x.2+x.1)->iE CP H' m { d with size:=x.1,ins:=p+x.2 } nm lm->Kp2 H H' r m->Q .non H'
theorem tV{tA tB:TT}{σ:St}{H:Hp}{Q:Bool->Hp->Prop}{a b:Bool}(ha:∀Q':Bool->Hp->Prop,Q' a H->tA σ H Q')(hb:a=true->∀Q':Bool->Hp->Prop,Q' b H->tB σ H Q')(q:Q (a&&b) H):zz tA tB σ H Q:=by
 refine ha _ ?_
 cases a with
 | true=>exact c9 (hb rfl _ q)
 | false=>exact cK q
theorem zq{tA tB:TT}{σ:St}{H:Hp}{Q:Bool->Hp->Prop}{a b:Bool}(ha:∀Q':Bool->Hp->Prop,Q' a H->tA σ H Q')(hb:a=false->∀Q':Bool->Hp->Prop,Q' b H->tB σ H Q')(q:Q (a||b) H):tOr tA tB σ H Q:=by
 refine ha _ ?_
 cases a with
 | true=>exact c9 q
 | false=>exact cK (hb rfl _ q)
theorem vR{tA tB:TT}{t u rest:TS}{D:js}{σ:St}{H:Hp}{a b:Bool}(ha:∀Q':Bool->Hp->Prop,Q' a H->tA σ H Q')(hb:a=false->∀Q':Bool->Hp->Prop,Q' b H->tB σ H Q')
  (q:if(a||b)=true then t { D with nx:=rest D } σ H else u { D with nx:=rest D } σ H):tSeq (zw (tOr tA tB) t u) rest D σ H :=
 zq (tA:=tA) (tB:=tB) (Q:=λc H1=>if c=true then t { D with nx:=rest D } σ H1 else u { D with nx:=rest D } σ H1) ha hb q
theorem AM{tA tB:TT}{t u:TS}{D:js}{σ:St}{H:Hp}{a b:Bool}(ha:∀Q':Bool->Hp->Prop,Q' a H->tA σ H Q')(hb:a=true->∀Q':Bool->Hp->Prop,Q' b H->tB σ H Q')
  (q:if(a&&b)=true then t D σ H else u D σ H):zw (zz tA tB) t u D σ H :=
 tV (tA:=tA) (tB:=tB) (Q:=λc H1=>if c=true then t D σ H1 else u D σ H1) ha hb q
theorem iC{x y:Int}:decide (V.int x=V.int y)=decide (x=y):=by
 by_cases h:x=y
 .rw[h,ah rfl,ah rfl]
 .rw[ai h,ai (λz=>h (by injection z))]
section
variable {P:Program}{w:World}{K:Fg_}{mg:Str->Option Value}{base:Heap}{CF CR CP Bu:Addr}
theorem xV:bq ["reader","part","told","length","below_0"] ["reader","part"] (aS sPN):=fs_
structure xi(P:Program)(w:World)(K:Fg_)(mg:Str->Option Value)(base:Heap)(CF CR Eb Ec Dt:Addr)(Cv Cw DJ:FuncData):Prop where
 gV:bQ P w K mg base (CXF P w) 5 Eb Cv ["self"] (zJ K CF CR)
 bV:bZ K Cv ["self"] []
 mV:mR K CR "read_varying" Eb
 gP:bQ P w K mg base (CXF P w) 3 Ec Cw ["self","how_many"] (zV K CF CR)
 bP:bZ K Cw ["self","how_many"] []
 mP:mR K CR "pass_bytes" Ec
 gB:bQ P w K mg base (CXF P w) 4 Dt DJ ["self"] (xA K CF CR)
 bB:bZ K DJ ["self"] []
 mB:mR K CR "read_byte" Dt
variable {Eb Ec Dt:Addr}{Cv Cw DJ:FuncData}
theorem ok_PN{f:Addr}{fd Bl:FuncData}(F:Fun K "pass_number" "pass_number" sPN f fd)(T:TxR K mg CF CR Bu)(TP:TxP K mg CP)(N:TxN mg)(GI:bQ P w K mg base CX0 1 Bu Bl ["self","kind","place"] (lM CF))(bI:bZ K Bl ["self","kind","place"] [])
  (R:xi P w K mg base CF CR Eb Ec Dt Cv Cw DJ):bQ P w K mg base (CXF P w) 6 f fd ["reader","part"] (zT K CF CR CP):=by
 refine okX F xV (λvs H Q E h=>?_) (λAY A outer s H vs Q E hr h=>?_)
 .obtain⟨r,a,m,nm,lm,p,d,bs,rfl,_⟩:=h
  rfl
 .obtain⟨r,a,m,nm,lm,p,d,bs,rfl,⟨dx,Bf⟩,hs,⟨xm,hm⟩,hp,q⟩:=h
  have Bm:cD 2 _:=hr.mono (by decide)
  have Bs:cD 3 _:=hr.mono (by decide)
  refine⟨_,az (bE (i:=2) xV.nd rfl (.inl rfl) (iz (pv 0) T.cR R.mV R.gV hr R.bV .nil dG))
   (az (bE (i:=3) xV.nd rfl (.inl rfl) (dI qk (pv 2) bb))
   (az (bE (i:=4) xV.nd rfl (.inl rfl) (iK eN (dI qj (pv 2) bb) bb (bX _)))
   (az (cE (PW.pt (kJ (bC jx (pv 3) (pgi N.ln rfl) (bX _)) (jB (PW.pt (j7 (bC eN (pv 3) bb (bX _)) (jk (eI (pv 4) (λξ=>rfl))))))))
    (aJ (eJ T.xc GI bI Bm cN rfl rfl T.mF (aa (pgi N.e4 rfl) (aa (a6 (pv 1) rfl) aG)))) b7)
   (az (dv (pv 1) (kO (pv 0) T.cR R.mP R.gP Bs R.bP .nil dG (aa (pv 3) aG)) rfl)
   (aJ (cE (PW.pt (j7 (bC jx (pv 3) bb (bX _)) (jk (bC eN (dJ cx (a6 (pv 0) rfl) (dI iA (a6 (pv 0) rfl) bb) (λξ ξ=>rfl)) bb (bX _)))))
    (aJ (eJ T.xc GI bI Bm cN rfl rfl T.mF (aa (pgi N.e4 rfl) (aa (a6 (pv 1) rfl) aG)))) b7)))))),?_⟩
  try dsimp only[cW];have C2:m≠r:=pJ hm ⟨dx,Bf⟩
  refine⟨_,rfl,ex3 r dx _ ⟨rfl,Bf,jv a p (by decide +kernel) (by decide +kernel),r,a,p,bs,rfl,⟨dx,Bf⟩,hs,hp,?_⟩⟩
  unfold Hm.numAt at q;cases ev:Sw.varyOf p (bs.drop p)with
  | error e =>
   rw[ev]at q;exact q
  | ok zl =>
   obtain⟨z,l⟩:=zl
   rw[ev]at q;obtain⟨u1,u2,u3,u4⟩:=Vm.vary_used ev
   rw[aD]at u2;rintro H1 ⟨BV,h1⟩ k1
   have Ed:=ju hs k1 Bf
   have BD:=k1 _ _ hm C2
   have ez:((z:Int) / 2)=((z / 2:Nat):Int):=rfl
   refine⟨_,rfl,ex2 _ _ ⟨rfl,rfl,⟨by decide,by decide⟩,?_⟩⟩
   refine⟨_,rfl,ex2 _ _ ⟨rfl,rfl,(by show(0:Int)<2;decide),rfl,?_⟩⟩
   dsimp only at q;dsimp only[uu];refine vR (λQ' h=>⟨_,rfl,ex2 _ _ ⟨rfl,rfl,_,rfl,h⟩⟩) (λξ Q' h=>tV (λQ' h=>⟨_,rfl,rfl,_,rfl,h⟩) (λξ Q' h=>⟨_,rfl,_,rfl,h⟩) h) ?_
   rw[iC,iC];refine j9 (λc=>?_) (λc=>?_)
   .refine⟨_,rfl,fd_ BD TP.cP TP.nPl rfl (ex2 _ _ ⟨rfl,?_⟩)⟩
    simp only[dN,aE,bw]at c;by_cases c1:Sw.NUMBER<z / 2
    .rw[ax c1]at q;exact q
    .have Zr:¬4096<z / 2:=c1
     have z1:z=1:=by lia
     rw[ay c1,Hm.some_of (by lia)]at q
     dsimp only at q;rw[ax (.inr z1)]at q;exact q
   .simp only[dN,aE,bw,not_or,not_and]at c;have c1:¬Sw.NUMBER<z / 2:=by
     show ¬4096<z / 2
     lia
    have z1:¬z=1:=by lia
    rw[ay c1]at q;refine⟨_,rfl,ex3 r BV _ ⟨rfl,h1,jv a (p+l) (by decide +kernel) (by decide +kernel),_,rfl,r,a,p+l,z / 2,bs,by rw[ez];rfl,⟨BV,h1⟩,Ed,(leL (dj _ _) (fE hp u2)),?_⟩⟩
    by_cases c2:bs.length-(p+l)<z / 2
    .rw[ax c2];rw[Hm.some_no (by rw[aD,aD];lia)]at q
     have e3:p+l+((bs.drop p).drop l).length=bs.length:=by rw[aD,aD];lia
     have q':Err E CF (.int 1) (.int ((p+l+((bs.drop p).drop l).length:Nat):Int)):=q
     rw[e3]at q'
     exact q'
    .rw[ay c2];have hle:z / 2<=((bs.drop p).drop l).length:=by rw[aD,aD];lia
     rw[Hm.some_of hle]at q;dsimp only at q;rintro H2 ⟨Ig,h2⟩ k2
     have DZ:=ju Ed k2 h1
     have CG:=k2 _ _ BD C2
     refine⟨_,rfl,m,CP,xm,_,rfl,CG,TP.cP,TP.nIn,(by show 9<1000;decide),?_⟩
     generalize DU:upd H2 m (.ins CP xm (fS "inside" (.int ((p+l:Nat):Int)) (pf d nm lm)))=H3;have FB:H3 m=some (.ins CP xm (pf { d with ins:=p+l } nm lm)):=by rw[<-DU,aC];rfl
     have k3:∀b o,H2 b=some o->b≠m->H3 b=some o:=λb o e n=>by rw[<-DU,aj n];exact e
     have h3:=k3 _ _ h2 (ba C2)
     have L9:SqL K H3 a (bs.map bv):=ju (r:=m) DZ (λb o e n=>k3 b o e n) CG
     have kk:Kp2 H H3 r m:=λb o e n1 n2=>k3 b o (k2 b o (k1 b o e n1) n1) n2
     by_cases c3:0<z / 2
     .have eL:(((bs.drop p).drop l).take (z / 2)).getLast? =bs[p+l+z / 2-1]?:=by
       rw[Hm.last_of hle c3,cy,gb];congr 1
       lia
      have lt:p+l+z / 2-1<bs.length:=by lia
      have eb:bs[p+l+z / 2-1]? =some bs[p+l+z / 2-1]:=aO lt
      generalize bs[p+l+z / 2-1]=c at eb;have ei:((p+l+z / 2:Nat):Int)-1=((p+l+z / 2-1:Nat):Int):=by lia
      dsimp only;refine AM (λQ' h=>⟨_,rfl,_,_,rfl,rfl,_,rfl,h⟩) (λξ Q' h=>⟨_,rfl,r,CR,Ig,_,_,rfl,h3,T.cR,T.nRow,iP a _,_,rfl,r,CR,Ig,_,_,rfl,h3,T.cR,T.nPl,dO a _,_,_,rfl,rfl,
       a,_,_,bv c,rfl,rfl,L9,jY ei (by rw[bt,eb];rfl),rfl,_,rfl,h⟩) ?_
      rw[ah (show(0:Int)<(z:Int) / 2 from(ciL c3)),gX];have c0:(V.int (c.toNat:Int)=V.int 0)↔c=0:=by
       constructor
       .intro EO;injection EO with EO;exact UInt8.toNat_inj.mp (by show c.toNat=0;exact icQ EO)
       .intro EO;rw[EO];rfl
      by_cases c4:c=0
      .rw[ah (show bv c=V.int 0 from c0.mpr c4)];rw[ax (.inl (by rw[eL,eb,c4]))]at q
       exact c9 ⟨_,rfl,fd_ FB TP.cP TP.nPl rfl (ex2 _ _ ⟨rfl,q⟩)⟩
      .rw[ai (show ¬bv c=V.int 0 from λh=>c4 (c0.mp h))]
       rw[ay (λh=>h.elim (λh=>c4 (aV ((eL.trans eb).symm.trans h))) z1)]at q
       exact cK (q H3 ⟨Ig,h3⟩ ⟨xm,FB⟩ kk)
     .have z0:z / 2=0:=(cu (bg c3) (aX _))
      refine⟨_,rfl,ex2 _ _ ⟨rfl,rfl,_,rfl,?_⟩⟩
      rw[ai (show ¬(0:Int)<(z:Int) / 2 by lia)]
      rw[ay (λh=>h.elim (λh=>by rw[z0,eD]at h;cases h) z1)]at q
      exact cK (cK (q H3 ⟨Ig,h3⟩ ⟨xm,FB⟩ kk))
end
def xF(K:Fg_)(CP:Addr):Sp:=λvs H Q ξ=>∃(a m n l:Addr)(d:PD)(bs:List UInt8),vs=[.ref a,.ref m]/\SqL K H a (bs.map bv)/\iE CP H m d n l/\d.ins<=d.fin/\d.fin<=bs.length /\
 ∀x,H x=none->Q (.ref x) (upd H x (.lst (((bs.drop d.ins).take (d.fin-d.ins)).map bv)))
def qM(CP:Addr)(H:Hp)(ms:List Addr)(prev:Option (List UInt8)):Prop:=match ms.getLast? with
 | none=>prev=none
 | some m=>∃d n l q,iE CP H m d n l/\H n=some (.lst (q.map bv))/\prev=some q
def zM(K:Fg_)(CF CR CP:Addr):Sp:=λvs H Q E=>∃(r a h n l:Addr)(p:Nat)(bs:List UInt8)(d:PD)(ms:List Addr)(prev:Option (List UInt8)),vs=[.ref r,.ref h]/\f7 CR H r a p/\SqL K H a (bs.map bv)/\p<=bs.length/\bs.length<=65536 /\
 iE CP H h d n l/\H l=some (.lst (ms.map V.ref))/\qM CP H ms prev/\(∀m∈ms,m≠r) /\
 Out E CF (Hm.nameAt prev p (bs.drop p)) λ(x:Nat×Nat)=>∀H':Hp,f7 CR H' r a (p+x.2+x.1)->Kp H H' r->Q (.int ((p+x.2:Nat):Int)) H'
theorem scPR:bq ["reader","part"] ["reader","part"] (aS sPR):=fs_
theorem ok_PR{f HX:Addr}{fd Ci:FuncData}(F:Fun K "pass_row" "pass_row" sPR f fd)(T:TxR K mg CF CR Bu)(TP:TxP K mg CP)(N:TxN mg)(R:xi P w K mg base CF CR Eb Ec Dt Cv Cw DJ)
  (GU:Co P w K mg base (CXF P w) 4 HX Ci ["row","start","end"] (xH K CF) "check_utf8") :
  bQ P w K mg base (CXF P w) 6 f fd ["reader","part"] (zS K CF CR CP):=by
 refine okX F scPR (λvs H Q E h=>?_) (λAY A outer s H vs Q E hr h=>?_)
 .obtain⟨r,a,m,nm,lm,p,d,bs,rfl,_⟩:=h
  rfl
 .obtain⟨r,a,m,nm,lm,p,d,bs,rfl,⟨dx,Bf⟩,hs,⟨xm,hm⟩,hp,hz,q⟩:=h
  have Bs:cD 3 _:=hr.mono (by decide)
  have DP:cD 4 _:=hr.mono (by decide)
  refine⟨_,az (dv (pv 1) (iz (pv 0) T.cR R.mV R.gV hr R.bV .nil dG) rfl)
   (az (dv (pv 1) (kO (pv 0) T.cR R.mP R.gP Bs R.bP .nil dG (aa (a6 (pv 1) rfl) aG)) rfl)
   (aJ (cE (bC eN (a6 (pv 1) rfl) (pgi N.tx rfl) (bX _)) (aJ (cY (cj GU DP rfl dG (aa (a6 (pv 0) rfl) (aa (a6 (pv 1) rfl) (aa (a6 (pv 0) rfl) aG)))))) b7))),?_⟩
  try dsimp only[cW];have C2:m≠r:=pJ hm ⟨dx,Bf⟩
  refine⟨_,rfl,ex3 r dx _ ⟨rfl,Bf,jv a p (by decide +kernel) (by decide +kernel),r,a,p,bs,rfl,⟨dx,Bf⟩,hs,hp,?_⟩⟩
  unfold Hm.strAt at q;cases ev:Sw.varyOf p (bs.drop p)with
  | error e =>
   rw[ev]at q;exact q
  | ok zl =>
   obtain⟨n,l⟩:=zl
   rw[ev]at q;obtain⟨u1,u2,u3,u4⟩:=Vm.vary_used ev
   rw[aD]at u2;rintro H1 ⟨BV,h1⟩ k1
   have Ed:=ju hs k1 Bf
   have BD:=k1 _ _ hm C2
   dsimp only at q;refine⟨_,rfl,m,CP,xm,_,rfl,BD,TP.cP,TP.nSi,(by show 9<1000;decide),?_⟩
   generalize CJ:upd H1 m (.ins CP xm (fS "size" (.int (n:Int)) (pf d nm lm)))=H2;have CG:H2 m=some (.ins CP xm (pf { d with size:=n } nm lm)):=by rw[<-CJ,aC];rfl
   have k2:∀b o,H1 b=some o->b≠m->H2 b=some o:=λb o e n=>by rw[<-CJ,aj n];exact e
   have h2:=k2 _ _ h1 (ba C2)
   have DZ:SqL K H2 a (bs.map bv):=ju (r:=m) Ed (λb o e n=>k2 b o e n) BD
   refine⟨_,rfl,ex3 r BV _ ⟨rfl,h2,jv a (p+l) (by decide +kernel) (by decide +kernel),_,rfl,fd_ CG TP.cP TP.nSi rfl ⟨r,a,p+l,n,bs,rfl,⟨BV,h2⟩,DZ,(leL (dj _ _) (fE hp u2)),?_⟩⟩⟩
   by_cases c2:bs.length-(p+l)<n
   .rw[ax c2];rw[Hm.some_no (by rw[aD,aD];lia)]at q
    have e3:p+l+((bs.drop p).drop l).length=bs.length:=by rw[aD,aD];lia
    have q':Err E CF (.int 1) (.int ((p+l+((bs.drop p).drop l).length:Nat):Int)):=q
    rw[e3]at q'
    exact q'
   .rw[ay c2];have hle:n<=((bs.drop p).drop l).length:=by rw[aD,aD];lia
    rw[Hm.some_of hle]at q;dsimp only at q;rintro H3 ⟨K2,h3⟩ k3
    have L9:=ju DZ k3 h2
    have FB:=k3 _ _ CG C2
    refine⟨_,rfl,m,CP,xm,_,rfl,FB,TP.cP,TP.nIn,(by show 9<1000;decide),?_⟩
    generalize Q5:upd H3 m (.ins CP xm (fS "inside" (.int ((p+l:Nat):Int)) (pf { d with size:=n } nm lm)))=H4
    have ID:H4 m=some (.ins CP xm (pf { d with size:=n,ins:=p+l } nm lm)):=by rw[<-Q5,aC];rfl
    have k4:∀b o,H3 b=some o->b≠m->H4 b=some o:=λb o e n=>by rw[<-Q5,aj n];exact e
    have h4:=k4 _ _ h3 (ba C2)
    have SC:SqL K H4 a (bs.map bv):=ju (r:=m) L9 (λb o e n=>k4 b o e n) FB
    have kk:Kp2 H H4 r m:=λb o e n1 n2=>k4 b o (k3 b o (k2 b o (k1 b o e n1) n2) n1) n2
    refine⟨_,rfl,fd_ ID TP.cP TP.nKi rfl ⟨rfl,_,rfl,?_⟩⟩
    rw[iC];by_cases c3:d.kind=4
    .rw[ah (show(d.kind:Int)=4 by lia)]
     rw[ax (ah c3)]at q;refine c9 ?_
     refine⟨_,rfl,fd_ h4 T.cR T.nRow (iP a _) ⟨_,rfl,fd_ ID TP.cP TP.nIn rfl ⟨_,rfl,fd_ h4 T.cR T.nPl (dO a _) ⟨a,p+l,p+l+n,bs,rfl,SC,(b8 _ _),by lia,hz,?_⟩⟩⟩⟩
     have tr:=Um.text_run (p+l) (((bs.drop p).drop l).take n)
     rw[cy]at tr q;rw[show p+l+n-(p+l)=n from(d6 _ _)];cases et:Sw.textOf (p+l) ((bs.drop (p+l)).take n)with
     | error e =>
      rw[et]at tr q;obtain⟨t1,t2⟩:=tr
      rw[t2];have q':Err E CF (.int (e.kind:Int)) (.int (e.place:Int)):=q
      rw[t1]at q'
      exact q'
     | ok t =>
      rw[et]at tr q;rw[tr];exact q H4 ⟨K2,h4⟩ ⟨xm,ID⟩ kk
    .rw[ai (show ¬(d.kind:Int)=4 by lia)]
     rw[ay (by rw[ai c3];exact aT)]at q
     exact cK (q H4 ⟨K2,h4⟩ ⟨xm,ID⟩ kk)
theorem xS:bq ["reader","holder","told_at","length","first"] ["reader","holder"] (aS sRN):=fs_
theorem ok_RN{f HX:Addr}{fd Bl Ci:FuncData}(F:Fun K "read_name" "read_name" sRN f fd)(T:TxR K mg CF CR Bu)(TP:TxP K mg CP)(GI:bQ P w K mg base CX0 1 Bu Bl ["self","kind","place"] (lM CF))(bI:bZ K Bl ["self","kind","place"] [])
  (R:xi P w K mg base CF CR Eb Ec Dt Cv Cw DJ)
  (GU:Co P w K mg base (CXF P w) 4 HX Ci ["row","start","end"] (xH K CF) "check_utf8") :
  bQ P w K mg base (CXF P w) 6 f fd ["reader","holder"] (zM K CF CR CP):=by
 refine okX F xS (λvs H Q E h=>?_) (λAY A outer s H vs Q E hr h=>?_)
 .obtain⟨r,a,h,n,l,p,bs,d,ms,prev,rfl,_⟩:=h
  rfl
 .obtain⟨r,a,h,nh,ll,p,bs,d,ms,prev,rfl,⟨dx,Bf⟩,hs,hp,hz,⟨dh,hh⟩,hl,B4,BH,q⟩:=h
  have U1:cD 1 _:=hr.mono (by decide)
  have Bm:cD 2 _:=hr.mono (by decide)
  have Bs:cD 3 _:=hr.mono (by decide)
  have DP:cD 4 _:=hr.mono (by decide)
  refine⟨_,az (bE (i:=2) xS.nd rfl (.inl rfl) (a6 (pv 0) rfl))
   (az (bE (i:=3) xS.nd rfl (.inl rfl) (iz (pv 0) T.cR R.mV R.gV hr R.bV .nil dG))
   (az (cE (PW.pt (kJ (bC eN (pv 3) bb (bX _)) (jB (bC jx (pv 3) (pgi TP.ln rfl) (bX _)))))
    (aJ (eJ T.xc GI bI Bm cN rfl rfl T.mF (aa (pgi TP.e6 rfl) (aa (pv 2) aG)))) b7)
   (az (bE (i:=4) xS.nd rfl (.inl rfl) (kO (pv 0) T.cR R.mP R.gP Bs R.bP .nil dG (aa (pv 3) aG)))
   (az (cY (cj GU DP rfl dG (aa (a6 (pv 0) rfl) (aa (pv 4) (aa (a6 (pv 0) rfl) aG)))))
   (az (cE (PW.pt (j7 (eI (a6 (pv 1) rfl) (λξ=>rfl)) (jk (bC (wg true hr.units0) (iy jh (a6 (pv 0) rfl) (gj (pv 4)) (gj (a6 (pv 0) rfl))) (a6 (dJ cx (a6 (pv 1) rfl) (eK dF bb) (λξ ξ=>rfl)) rfl) (bX _)))))
     (aJ (eJ T.xc GI bI Bm cN rfl rfl T.mF (aa (pgi TP.e6 rfl) (aa (pv 2) aG)))) b7)
   (aJ (bK (pv 4)))))))),?_⟩
  try dsimp only[cW];have Iq:h≠r:=dC hh Bf (by intro z;injection z with _ _ z3;exact aW (congrArg List.length z3) (by show ¬9=2;decide))
  have Dj:ll≠r:=dC hl Bf (by intro z;cases z)
  refine⟨_,rfl,fd_ Bf T.cR T.nPl (dO a p) ?_⟩
  refine⟨_,rfl,ex3 r dx _ ⟨rfl,Bf,jv a p (by decide +kernel) (by decide +kernel),r,a,p,bs,rfl,⟨dx,Bf⟩,hs,hp,?_⟩⟩
  unfold Hm.nameAt at q;cases ev:Sw.varyOf p (bs.drop p)with
  | error e =>
   rw[ev]at q;exact q
  | ok zl =>
   obtain⟨k,l⟩:=zl
   rw[ev]at q;obtain⟨u1,u2,u3,u4⟩:=Vm.vary_used ev
   rw[aD]at u2;rintro H1 ⟨BV,h1⟩ k1
   have Ed:=ju hs k1 Bf
   dsimp only at q;dsimp only[uu];refine vR (λQ' h=>⟨_,rfl,rfl,_,rfl,h⟩) (λξ Q' h=>⟨_,rfl,ex2 _ _ ⟨rfl,rfl,_,rfl,h⟩⟩) ?_
   rw[iC];refine j9 (λc=>?_) (λc=>?_)
   .refine⟨_,rfl,ex2 _ _ ⟨rfl,?_⟩⟩
    simp only[dN,bw]at c;rw[ax (by show k=0\/255<k;lia)]at q
    exact q
   .simp only[dN,bw,not_or]at c;rw[ay (by show ¬(k=0\/255<k);lia)]at q
    refine⟨_,rfl,ex3 r BV _ ⟨rfl,h1,jv a (p+l) (by decide +kernel) (by decide +kernel),_,rfl,r,a,p+l,k,bs,rfl,⟨BV,h1⟩,Ed,(leL (dj _ _) (fE hp u2)),?_⟩⟩
    by_cases c2:bs.length-(p+l)<k
    .rw[ax c2];rw[Hm.some_no (by rw[aD,aD];lia)]at q
     have e3:p+l+((bs.drop p).drop l).length=bs.length:=by rw[aD,aD];lia
     have q':Err E CF (.int 1) (.int ((p+l+((bs.drop p).drop l).length:Nat):Int)):=q
     rw[e3]at q'
     exact q'
    .rw[ay c2];have hle:k<=((bs.drop p).drop l).length:=by rw[aD,aD];lia
     rw[Hm.some_of hle]at q;dsimp only at q;rintro H2 ⟨Ig,h2⟩ k2
     have DZ:=ju Ed k2 h1
     have BN:=k1.trans k2
     have HA:=BN _ _ hh Iq
     have B5:=BN _ _ hl Dj
     refine⟨_,rfl,fd_ h2 T.cR T.nRow (iP a _) ⟨_,rfl,_,rfl,fd_ h2 T.cR T.nPl (dO a _) ⟨a,p+l,p+l+k,bs,rfl,DZ,(b8 _ _),by lia,hz,?_⟩⟩⟩
     have tr:=Um.text_run (p+l) (((bs.drop p).drop l).take k)
     rw[cy]at tr q;rw[show p+l+k-(p+l)=k from(d6 _ _)];cases et:Sw.textOf (p+l) ((bs.drop (p+l)).take k)with
     | error e =>
      rw[et]at tr q;obtain⟨t1,t2⟩:=tr
      rw[t2];have q':Err E CF (.int (e.kind:Int)) (.int (e.place:Int)):=q
      rw[t1]at q'
      exact q'
     | ok t =>
      rw[et]at tr q;rw[tr];dsimp only at q;refine⟨_,rfl,fd_ HA TP.cP TP.nMe rfl ⟨_,.inl ⟨_,SqL.of B5,rfl⟩,?_⟩⟩
      unfold qM at B4;cases eg:ms.getLast? with
      | none =>
       rw[eg]at B4;have em:ms=[]:=bz.mp eg
       subst em;subst B4;rw[ay (show ¬true=false from λz=>nomatch z)]at q
       exact cK (cK ⟨_,rfl,q H2 ⟨Ig,h2⟩ BN⟩)
      | some m =>
       rw[eg]at B4;obtain⟨dm,nn,lm,qn,⟨xm,hm⟩,Qw,ep⟩:=B4
       have mm:m∈ms:=List.mem_of_getLast? eg
       have CG:=BN _ _ hm (BH m mm)
       have JX:=BN _ _ Qw (dC Qw Bf (by intro z;cases z))
       obtain⟨Iv,em⟩:∃Iv,ms=Iv++[m]:=List.getLast?_eq_some_iff.mp eg
       subst em;rw[show(!((Iv++[m]).map V.ref).isEmpty)=true by simp]
       subst ep;refine c9 ?_
       refine⟨_,rfl,fd_ h2 T.cR T.nRow (iP a _) ⟨_,rfl,_,rfl,_,rfl,fd_ h2 T.cR T.nPl (dO a _) ⟨_,rfl,ex2 a _ ⟨rfl,DZ,λx hx=>?_⟩⟩⟩⟩
       rw[jT bs (p+l) k (by lia) rfl rfl]
       have nr:r≠x:=ag h2 hx
       have nm:m≠x:=ag CG hx
       refine⟨_,rfl,fd_ ((aj (ag HA hx)).trans HA) TP.cP TP.nMe rfl ⟨_,rfl,ll,_,_,V.ref m,rfl,rfl,SqL.of ((aj (ag B5 hx)).trans B5),by rw[aQ];exact fD _ _,?_⟩⟩
       refine fd_ ((aj nm).trans CG) TP.cP TP.nNl rfl ?_
       refine⟨x,nn,fw ((bs.drop (p+l)).take k),fw qn,rfl,rfl,by rw[aC,lq],by rw[aj (ag JX hx),JX,lq],_,rfl,?_⟩
       rw[pR];by_cases cb:Sw.bytesBefore qn ((bs.drop (p+l)).take k)=false
       .rw[ax cb]at q;rw[cb];exact c9 ⟨_,rfl,ex2 _ _ ⟨rfl,q⟩⟩
       .rw[ay cb]at q;have XO:Sw.bytesBefore qn ((bs.drop (p+l)).take k)=true:=by
         cases hb:Sw.bytesBefore qn ((bs.drop (p+l)).take k)with
         | true=>rfl
         | false=>exact aW hb cb
        rw[XO];refine cK ⟨_,rfl,q _ ⟨Ig,by rw[aj nr];exact h2⟩ λb o e n=>?_⟩
        have z:=BN b o e n
        rw[aj (ag z hx)];exact z
structure TxB(mg:Str->Option Value)(CP:Addr):Prop where
 mP:mg "Part" =some (.ref CP)
 mx:mg "max" =none
 k2:GI mg "NUMBER" 2
 k3:GI mg "BYTES" 3
 k4:GI mg "TEXT" 4
 k5:GI mg "LIST" 5
 k6:GI mg "RECORD" 6
 k7:GI mg "MOMENT" 7
 k8:GI mg "IDENTITY" 8
 lk:GI mg "LAST_KIND" 8
 dp:GI mg "DEEPEST" 64
 ml:GI mg "MOMENT_LENGTH" 8
 il:GI mg "IDENTITY_LENGTH" 32
 e2:GI mg "WRONG_KIND" 2
 e7:GI mg "TOO_DEEP" 7
def zU(CP:Addr):Sp:=λvs H Q ξ=>∃(m dx:Addr)(k p:Nat),vs=[.ref m,.int (k:Int),.int (p:Int)]/\H m=some (.ins CP dx []) /\
 ∀(n l:Addr)(H':Hp),H n=none->H l=none->n≠m->l≠m->n≠l->iE CP H' m ⟨k,p,p+1,p,0,1,0,0⟩ n l->H' n=some (.lst [])->H' l=some (.lst [])->Kp H H' m->Q .non H'
def z8(CP:Addr):Sp:=λvs H Q ξ=>∃(m n l:Addr)(d:PD)(ms:List Addr),vs=[.ref m]/\iE CP H m d n l/\H l=some (.lst (ms.map V.ref)) /\
 ∀H':Hp,bY H H'->Q (.bl (decide ((d.kind=5\/d.kind=6)/\ms.length<d.size))) H'
def Ab(CP:Addr):Sp:=λvs H Q ξ=>∃(h m nh lh nm lm:Addr)(dh dm:PD),vs=[.ref h,.ref m]/\iE CP H h dh nh lh/\iE CP H m dm nm lm /\
 ∀H':Hp,iE CP H' h { dh with depth:=max dh.depth (dm.depth+1) } nh lh->Kp H H' h->Q .non H'
theorem scPI:bq ["self","kind","place"] ["self","kind","place"] (aS sPI):=fs_
theorem ok_PI{f:Addr}{fd:FuncData}(F:Fun K "__init__" "Part.__init__" sPI f fd)(TP:TxP K mg CP):bQ P w K mg base CX0 1 f fd ["self","kind","place"] (zU CP):=by
 refine F.ok scPI (λvs H Q E h=>?_) (λAY A outer s H vs Q E hr h=>?_)
 .obtain⟨m,dx,k,p,rfl,_⟩:=h
  rfl
 .obtain⟨m,dx,k,p,rfl,hm,q⟩:=h
  refine⟨_,az (dv (pv 0) (pv 1) rfl) (az (dv (pv 0) (pv 2) rfl) (az (dv (pv 0) (dI gk (pv 2) bb) rfl) (az (dv (pv 0) (pv 2) rfl) (az (dv (pv 0) bb rfl) (az (dv (pv 0) bb rfl)
   (az (dv (pv 0) bb rfl) (az (dv (pv 0) (ee aG) rfl) (aJ (dv (pv 0) (ee aG) rfl))))))))),?_⟩
  try dsimp only[cW];refine⟨_,rfl,_,rfl,m,CP,dx,[],rfl,hm,TP.cP,TP.nKi,(by show 0<1000;decide),?_⟩
  refine⟨_,rfl,_,rfl,m,CP,dx,_,rfl,aC,TP.cP,TP.nPl,(by show 1<1000;decide),?_⟩
  refine⟨_,rfl,_,_,rfl,rfl,_,rfl,m,CP,dx,_,rfl,aC,TP.cP,TP.nIn,(by show 2<1000;decide),?_⟩
  refine⟨_,rfl,_,rfl,m,CP,dx,_,rfl,aC,TP.cP,TP.nEn,(by show 3<1000;decide),?_⟩
  refine⟨_,rfl,m,CP,dx,_,rfl,aC,TP.cP,TP.nSi,(by show 4<1000;decide),?_⟩
  refine⟨_,rfl,m,CP,dx,_,rfl,aC,TP.cP,TP.nDe,(by show 5<1000;decide),?_⟩
  refine⟨_,rfl,m,CP,dx,_,rfl,aC,TP.cP,TP.nNp,(by show 6<1000;decide),?_⟩
  refine⟨aX _,λn hn=>?_⟩
  have Cm:n≠m:=λz=>by rw[z,aC]at hn;cases hn
  refine⟨_,rfl,m,CP,dx,_,rfl,by rw[aj (ba Cm)];exact aC,TP.cP,TP.nNl,(by show 7<1000;decide),?_⟩
  refine⟨aX _,λl hl=>?_⟩
  have Dy:l≠m:=λz=>by rw[z,aC]at hl;cases hl
  have nnl:n≠l:=λz=>by rw[<-z,aj Cm,aC]at hl;cases hl
  refine⟨_,rfl,m,CP,dx,_,rfl,by rw[aj (ba Dy)];exact aC,TP.cP,TP.nMe,(by show 8<1000;decide),?_⟩
  rw[aj Cm,aj Cm,aj Cm,aj Cm,aj Cm,aj Cm,aj Cm]at hn;rw[aj Dy,aj (ba nnl),aj Dy,aj Dy,aj Dy,aj Dy,aj Dy,aj Dy,aj Dy]at hl;refine q n l _ hn hl Cm Dy nnl ⟨dx,aC⟩ (by rw[aj Cm,aj nnl,aj Cm,aC]) (by rw[aj Dy,aC]) λb o e n'=>?_
  have Td:b≠l:=λz=>by
   rw[z,hl]at e;cases e
  have Tc:b≠n:=λz=>by
   rw[z,hn]at e;cases e
  rw[aj n',aj Td,aj n',aj Tc,aj n',aj n',aj n',aj n',aj n',aj n',aj n'];exact e
theorem scLM:bq ["part"] ["part"] (aS sLM):=fs_
theorem qz{k a b:Nat}:inV (.int (k:Int)) [.int (a:Int),.int (b:Int)]=decide (k=a\/k=b):=by
 show((((a:Int)==(k:Int))||((((b:Int)==(k:Int)))||false)))=_
 by_cases h1:k=a
 .subst h1;rw[beq_self_eq_true,ah (.inl rfl)];rfl
 .by_cases h2:k=b
  .subst h2;rw[beq_self_eq_true,ah (.inr rfl),bu.mpr (show(a:Int)≠(k:Int)by lia)]
   rfl
  .rw[bu.mpr (show(a:Int)≠(k:Int)by lia),bu.mpr (show(b:Int)≠(k:Int)by lia),ai (by lia)]
   rfl
theorem ok_LM{f:Addr}{fd:FuncData}(F:Fun K "lacks_members" "lacks_members" sLM f fd)(TP:TxP K mg CP)(B:TxB mg CP)(hlen:mg "len" =none):bQ P w K mg base CX0 1 f fd ["part"] (z8 CP):=by
 refine F.ok scLM (λvs H Q E h=>?_) (λAY A outer s H vs Q E hr h=>?_)
 .obtain⟨m,n,l,d,ms,rfl,_⟩:=h
  rfl
 .obtain⟨m,n,l,d,ms,rfl,⟨dx,hm⟩,hl,q⟩:=h
  refine⟨_,aJ (bK (n6 (iK iY (a6 (pv 0) rfl) (jD (aa (pgi B.k5 rfl) (aa (pgi B.k6 rfl) aG))) (by with_unfolding_all rfl))
   (qg (iK jw (ck cB (by rfl) hlen bo (aa (a6 (pv 0) rfl) aG)) (a6 (pv 0) rfl) (bX _))))),?_⟩
  try dsimp only[cW];refine⟨_,rfl,fd_ hm TP.cP TP.nKi rfl ⟨(by show 2<=sizeLine;decide),λt ht=>?_⟩⟩
  have CG:upd H t (.tup [.int 5,.int 6]) m=_:=(aj (ag hm ht)).trans hm
  have B5:upd H t (.tup [.int 5,.int 6]) l=_:=(aj (ag hl ht)).trans hl
  have sm:bY H (upd H t (.tup [.int 5,.int 6])):=λb o e=>(aj (ag e ht)).trans e
  refine ex2 t _ ⟨rfl,.inr (SqT.of aC),rfl,rfl,_,rfl,?_⟩
  rw[show(if false=true then !inV (.int (d.kind:Int)) [.int 5,.int 6]else inV (.int (d.kind:Int)) [.int 5,.int 6])=decide (d.kind=5\/d.kind=6)from qz (a:=5) (b:=6)]
  by_cases hk:d.kind=5\/d.kind=6
  .rw[ah hk];refine c9 ?_
   refine⟨_,rfl,fd_ CG TP.cP TP.nMe rfl (ex2 l _ ⟨rfl,.inl (SqL.of B5),_,rfl,fd_ CG TP.cP TP.nSi rfl (ex2 _ _ ⟨rfl,rfl,?_⟩)⟩)⟩
   have e:decide (((ms.map V.ref).length:Int)<(d.size:Int))=decide ((d.kind=5\/d.kind=6)/\ms.length<d.size):=by
    rw[au];by_cases h2:ms.length<d.size
    .rw[ah (show(ms.length:Int)<(d.size:Int)from(ciL h2)),ah ⟨hk,h2⟩]
    .rw[ai (show ¬(ms.length:Int)<(d.size:Int)by lia),ai (λz=>h2 z.2)]
   show Q (V.bl (decide (((ms.map V.ref).length:Int)<(d.size:Int)))) _
   rw[e];exact q _ sm
  .rw[ai hk];refine cK ?_
   have q2:=q _ sm
   rw[ai (λz=>hk z.1)]at q2
   exact q2
theorem scDP:bq ["holder","part"] ["holder","part"] (aS sDP):=fs_
theorem ok_DP{f:Addr}{fd:FuncData}(F:Fun K "deepen" "deepen" sDP f fd)(TP:TxP K mg CP)(B:TxB mg CP):bQ P w K mg base CX0 1 f fd ["holder","part"] (Ab CP):=by
 refine F.ok scDP (λvs H Q E h=>?_) (λAY A outer s H vs Q E hr h=>?_)
 .obtain⟨h,m,nh,lh,nm,lm,dh,dm,rfl,_⟩:=h
  rfl
 .obtain⟨h,m,nh,lh,nm,lm,dh,dm,rfl,⟨xh,hh⟩,⟨xm,hm⟩,q⟩:=h
  refine⟨_,aJ (dv (pv 0) (ck (vm rfl) (by rfl) B.mx boot_max (aa (a6 (pv 0) rfl) (aa (dI gk (a6 (pv 1) rfl) bb) aG))) rfl),?_⟩
  try dsimp only[cW];refine⟨_,rfl,h,CP,xh,_,_,rfl,hh,TP.cP,TP.nDe,rfl,_,rfl,m,CP,xm,_,_,rfl,hm,TP.cP,TP.nDe,rfl,_,_,rfl,rfl,_,_,rfl,_,rfl,h,CP,xh,_,rfl,hh,TP.cP,TP.nDe,(by show 9<1000;decide),?_⟩
  refine q _ ⟨xh,?_⟩ λb o e n=>by rw[aj n];exact e
  rw[aC];have e:(if(dm.depth:Int)+1>(dh.depth:Int)then(dm.depth:Int)+1 else(dh.depth:Int))=((max dh.depth (dm.depth+1):Nat):Int):=by
   by_cases z:(dm.depth:Int)+1>(dh.depth:Int)
   .rw[ax z];lia
   .rw[ay z];lia
  show some (HO.ins CP xh (fS "depth" (V.int (if(dm.depth:Int)+1>(dh.depth:Int)then(dm.depth:Int)+1 else(dh.depth:Int))) (pf dh nh lh)))=_
  rw[e];rfl
theorem uq{K:Fg_}{j x1 x2 c:Nat}{σ:St}{H:Hp}{Q:Bool->Hp->Prop}(h:σ[j]? =some (some (.int (c:Int))))(q:∀t,H t=none->Q (decide (c=x1\/c=x2)) (upd H t (.tup [.int (x1:Int),.int (x2:Int)]))) :
  pE (tOp (rIn K false) (sH j) (tTup (vG (tC (.int (x1:Int))) (vG (tC (.int (x2:Int))) xt)))) σ H Q:=by
 refine⟨_,h,(by show 2<=sizeLine;decide),λt ht=>ex2 t _ ⟨rfl,.inr (SqT.of aC),rfl,rfl,_,rfl,?_⟩⟩
 have e:(if false=true then !inV (.int (c:Int)) [.int (x1:Int),.int (x2:Int)]else inV (.int (c:Int)) [.int (x1:Int),.int (x2:Int)])=decide (c=x1\/c=x2):=qz
 rw[e];exact q t ht
structure oV(CP:Addr)(H H':Hp)(m n l:Addr)(d:PD)(nb:List V):Prop where
 nm:H m=none
 nn:H n=none
 nl:H l=none
 ne:m≠l
 nmn:m≠n
 nnl:n≠l
 pt:iE CP H' m d n l
 ns:H' n=some (.lst nb)
 ls:H' l=some (.lst [])
def xM(K:Fg_)(CF CR CP:Addr):Sp:=λvs H Q E=>∃(r a:Addr)(lv p:Nat)(bs:List UInt8),vs=[.ref r,.int (lv:Int)]/\f7 CR H r a p/\SqL K H a (bs.map bv)/\p<=bs.length/\bs.length<=65536 /\
 Out E CF (Pm.headAt lv p (bs.drop p)) λ(x:Nat×Nat×Nat×Nat)=>∀(m n l:Addr)(H':Hp),oV CP H H' m n l ⟨x.1,p,p+x.2.2.1,p,x.2.1,1,0,0⟩ []->f7 CR H' r a (p+x.2.2.2)->Kp H H' r->Q (.ref m) H'
theorem xX:bq ["reader","level","place","kind","part"] ["reader","level"] (aS sBP):=fs_
theorem ok_BP{f IU KC KB:Addr}{fd Bl Kl EZ Gm:FuncData}(F:Fun K "begin_part" "begin_part" sBP f fd)(T:TxR K mg CF CR Bu)(TP:TxP K mg CP)(B:TxB mg CP)(GI:bQ P w K mg base CX0 1 Bu Bl ["self","kind","place"] (lM CF))(bI:bZ K Bl ["self","kind","place"] [])
  (R:xi P w K mg base CF CR Eb Ec Dt Cv Cw DJ)
  (M:Mk K CP IU)(GP:bQ P w K mg base CX0 1 IU Kl ["self","kind","place"] (zU CP))(bP:bZ K Kl ["self","kind","place"] [])
  (GN:Co P w K mg base (CXF P w) 6 KC EZ ["reader","part"] (zT K CF CR CP) "pass_number")
  (GR:Co P w K mg base (CXF P w) 6 KB Gm ["reader","part"] (zS K CF CR CP) "pass_row") :
  bQ P w K mg base (CXF P w) 7 f fd ["reader","level"] (xM K CF CR CP):=by
 refine okX F xX (λvs H Q E h=>?_) (λAY A outer s H vs Q E hr h=>?_)
 .obtain⟨r,a,lv,p,bs,rfl,_⟩:=h
  rfl
 .obtain⟨r,a,lv,p,bs,rfl,⟨dx,Bf⟩,hs,hp,hz,q⟩:=h
  have Bm:cD 2 _:=hr.mono (by decide)
  have Bs:cD 3 _:=hr.mono (by decide)
  have DP:cD 4 _:=hr.mono (by decide)
  have M1:cD 5 _:=hr.mono (by decide)
  refine⟨_,az (bE (i:=2) xX.nd rfl (.inl rfl) (a6 (pv 0) rfl))
   (az (bE (i:=3) xX.nd rfl (.inl rfl) (iz (pv 0) T.cR R.mB R.gB DP R.bB .nil dG))
   (az (cE (bC jx (pv 3) (pgi B.lk rfl) (bX _)) (aJ (eJ T.xc GI bI Bm cN rfl rfl T.mF (aa (pgi B.e2 rfl) (aa (pv 2) aG)))) b7)
   (az (cE (bC jx (pv 1) (pgi B.dp rfl) (bX _)) (aJ (eJ T.xc GI bI Bm cN rfl rfl T.mF (aa (pgi B.e7 rfl) (aa (pv 2) aG)))) b7)
   (az (bE (i:=4) xX.nd rfl (.inl rfl) (jm M GP Bm rfl B.mP bP .nil cM (aa (pv 3) (aa (pv 2) aG))))
   (az (cE (bC eN (pv 3) (pgi B.k2 rfl) (bX _)) (aJ (cY (cj GN hr rfl dG (aa (pv 0) (aa (pv 4) aG)))))
    (aJ (cE (bC iY (pv 3) (jD (aa (pgi B.k3 rfl) (aa (pgi B.k4 rfl) aG))) (by with_unfolding_all rfl))
     (aJ (cY (cj GR hr rfl dG (aa (pv 0) (aa (pv 4) aG)))))
     (aJ (cE (bC iY (pv 3) (jD (aa (pgi B.k5 rfl) (aa (pgi B.k6 rfl) aG))) (by with_unfolding_all rfl))
      (az (dv (pv 4) (iz (pv 0) T.cR R.mV R.gV M1 R.bV .nil dG) rfl) (aJ (dv (pv 4) (a6 (pv 0) rfl) rfl)))
      (aJ (cE (bC eN (pv 3) (pgi B.k7 rfl) (bX _)) (aJ (cY (kO (pv 0) T.cR R.mP R.gP Bs R.bP .nil dG (aa (pgi B.ml rfl) aG))))
       (aJ (cE (bC eN (pv 3) (pgi B.k8 rfl) (bX _)) (aJ (cY (kO (pv 0) T.cR R.mP R.gP Bs R.bP .nil dG (aa (pgi B.il rfl) aG)))) b7)))))))))
   (aJ (bK (pv 4)))))))),?_⟩
  try dsimp only[cW];refine⟨_,rfl,fd_ Bf T.cR T.nPl (dO a p) ?_⟩
  refine⟨_,rfl,ex3 r dx _ ⟨rfl,Bf,jv a p (by decide +kernel) (by decide +kernel),r,a,p,bs,rfl,⟨dx,Bf⟩,hs,?_⟩⟩
  unfold Pm.headAt at q;cases eb:bs[p]? with
  | none =>
   have l0:bs.length<=p:=cv.mp eb
   have ed:bs.drop p=[]:=gA l0
   rw[ed]at q;have q':Err E CF (.int 1) (.int (p:Int)):=q
   rw[show p=bs.length from(cu hp l0)]at q'
   exact q'
  | some c =>
   have l0:p<bs.length:=(aK.mp eb).1
   have ed:bs.drop p=c::bs.drop (p+1):=by
    rw[bW l0];rw[aO l0]at eb;cases eb;rfl
   rw[ed]at q;dsimp only at q;rintro H1 ⟨BV,h1⟩ k1
   have Ed:=ju hs k1 Bf
   refine mZ rfl ?_
   by_cases c8:8<c.toNat
   .rw[ax c8]at q;rw[ah (show(8:Int)<(c.toNat:Int)from(ciL c8))];exact c9 ⟨_,rfl,ex2 _ _ ⟨rfl,q⟩⟩
   .rw[ay c8]at q;rw[ai (show ¬(8:Int)<(c.toNat:Int)by lia)]
    refine cK (mZ rfl ?_)
    by_cases cd:Sw.DEEP<lv
    .rw[ax cd]at q;have RA:64<lv:=cd
     rw[ah (show(64:Int)<(lv:Int)from(ciL RA))];exact c9 ⟨_,rfl,ex2 _ _ ⟨rfl,q⟩⟩
    .rw[ay cd]at q;have RA:¬64<lv:=cd
     rw[ai (show ¬(64:Int)<(lv:Int)by lia)]
     refine cK ?_
     refine⟨_,rfl,_,rfl,λm dm hm Vt PX=>?_⟩
     refine ex4 m dm c.toNat p ⟨rfl,aC,λnn l H2 hn hl Cm Dy nnl pt ns ls k2=>⟨rfl,?_⟩⟩
     have BD:H1 m=none:=hm
     have Fb:H1 l=none:=by
      rw[aj Dy]at hl;by_cases z:l=dm
      .rw[z,aC]at hl;cases hl
      .rw[aj z]at hl;exact hl
     have IC:H1 nn=none:=by
      rw[aj Cm]at hn;by_cases z:nn=dm
      .rw[z,aC]at hn;cases hn
      .rw[aj z]at hn;exact hn
     have k3:Kp H1 H2 m:=λb o e n=>k2 b o (by rw[aj n,aj (ag e Vt)];exact e) n
     have keep:∀b o,H1 b=some o->H2 b=some o:=λb o e=>k3 b o e (ag e BD)
     have h2:=keep _ _ h1
     have C2:m≠r:=λz=>by rw[z,h1]at BD;cases BD
     have Dj:l≠r:=λz=>by rw[z,h1]at Fb;cases Fb
     have Ji:nn≠r:=λz=>by rw[z,h1]at IC;cases IC
     have DV:∀x,H1 x=none->H x=none:=λx hx=>by
      cases z:H x with
      | none=>rfl
      | some o =>
       by_cases y:x=r
       .rw[y,h1]at hx;cases hx
       .rw[k1 x o z y]at hx;cases hx
     have np:∀(d:PD)(H':Hp),iE CP H' m d nn l->H' nn=some (.lst [])->H' l=some (.lst [])->oV CP H H' m nn l d []:=λd H' z1 z0 z2=>⟨DV m BD,DV nn IC,DV l Fb,ba Dy,ba Cm,nnl,z1,z0,z2⟩
     have kk:∀H':Hp,Kp H2 H' r->Kp H H' r:=λH' z b o e n=>z b o (keep b o (k1 b o e n)) n
     have DZ:SqL K H2 a (bs.map bv):=bY.seq keep Ed
     obtain⟨xm,Je⟩:=pt
     have kg:∀G H':Hp,bY H2 G->Kp G H' r->Kp H2 H' r:=λG H' g z b o e n=>z b o (g b o e) n
     have done:∀(n i u:Nat)(G H3:Hp),bY H2 G->f7 CR H3 r a (p+u)->iE CP H3 m ⟨c.toNat,p,p+i,p,n,1,0,0⟩ nn l->Kp2 G H3 r m ->
       Out E CF (.ok (c.toNat,n,i,u)) (λ(x:Nat×Nat×Nat×Nat)=>∀(m n l:Addr)(H':Hp),oV CP H H' m n l ⟨x.1,p,p+x.2.2.1,p,x.2.1,1,0,0⟩ []->f7 CR H' r a (p+x.2.2.2)->Kp H H' r->Q (.ref m) H')->Q (.ref m) H3:=λn i u G H3 g rd Er k4 q =>
      q m nn l H3 (np _ H3 Er (k4 _ _ (g _ _ ns) Ji Cm) (k4 _ _ (g _ _ ls) Dj Dy)) rd λb o e n'=>k4 b o (g b o (keep b o (k1 b o e n'))) n' (ag e (DV m BD))
     have C1:∀(n:Nat)(G:Hp),bY H2 G->Out E CF (match Sw.someOf (p+1) n (bs.drop (p+1))with
        | .error e=>.error e
        | .ok _=>.ok (c.toNat,0,1,1+n)) (λ(x:Nat×Nat×Nat×Nat)=>∀(m n l:Addr)(H':Hp),oV CP H H' m n l ⟨x.1,p,p+x.2.2.1,p,x.2.1,1,0,0⟩ []->f7 CR H' r a (p+x.2.2.2)->Kp H H' r->Q (.ref m) H') ->
       if bs.length-(p+1)<n then Err E CF (.int 1) (.int (bs.length:Int))else ∀H':Hp,f7 CR H' r a (p+1+n)->Kp G H' r->tRet (sH 4) { nx:=λξ H'=>Q .non H',rt:=Q } [some (.ref r),some (.int (lv:Int)),some (.int (p:Int)),some (bv c),some (.ref m)] H':=λn G g q=>by
      by_cases cn:bs.length-(p+1)<n
      .rw[ax cn];rw[Hm.some_no (by rw[aD];exact cn)]at q
       have q':Err E CF (.int 1) (.int ((p+1+(bs.drop (p+1)).length:Nat):Int)):=q
       rw[aD,show p+1+(bs.length-(p+1))=bs.length from(Nat.add_sub_of_le l0)]at q'
       exact q'
      .rw[ay cn];rw[Hm.some_of (by rw[aD];exact bg cn)]at q
       intro H3 CY k4;exact⟨_,rfl,done 0 1 (1+n) G H3 g (by rw[<-bh];exact CY) ⟨xm,k4 _ _ (g _ _ Je) C2⟩ (λb o e n1 ξ=>k4 b o e n1) q⟩
     refine jI (n:=2) rfl ?_
     by_cases c2:c.toNat=2
     .rw[ah c2];rw[ax c2]at q;refine c9 ⟨_,rfl,_,rfl,r,a,m,nn,l,p+1,_,bs,rfl,⟨BV,h2⟩,DZ,⟨xm,Je⟩,l0,?_⟩
      dsimp only;cases en:Hm.numAt p (p+1) (bs.drop (p+1))with
      | error e =>
       rw[en]at q;exact q
      | ok x =>
       obtain⟨u,h⟩:=x
       rw[en]at q;intro H3 CY Er k4;have e1:p+1+u+h=p+(1+u+h):=by lia
       have e2:p+1+u=p+(1+u):=(bh _ _ _)
       dsimp only at CY Er;rw[e1]at CY;rw[e2]at Er;exact⟨_,rfl,done 0 (1+u) (1+u+h) H2 H3 (λb o e=>e) CY Er k4 q⟩
     .rw[ai c2];rw[ay c2]at q;refine cK ?_
      refine uq (x1:=3) (x2:=4) rfl λt ht=>?_
      have g1:bY H2 (upd H2 t (.tup [.int 3,.int 4])):=λb o e=>(aj (ag e ht)).trans e
      by_cases LZ:c.toNat=3\/c.toNat=4
      .rw[ah LZ];rw[ax LZ]at q;refine c9 ⟨_,rfl,_,rfl,r,a,m,nn,l,p+1,_,bs,rfl,⟨BV,g1 _ _ h2⟩,g1.seq DZ,⟨xm,g1 _ _ Je⟩,l0,hz,?_⟩
       dsimp only;cases en:Hm.strAt (decide (c.toNat=4)) (p+1) (bs.drop (p+1))with
       | error e =>
        rw[en]at q;exact q
       | ok x =>
        obtain⟨n,u⟩:=x
        rw[en]at q;intro H3 CY Er k4;have e1:p+1+u+n=p+(1+u+n):=by lia
        have e2:p+1+u=p+(1+u):=(bh _ _ _)
        dsimp only at CY Er;rw[e1]at CY;rw[e2]at Er;exact⟨_,rfl,done n (1+u) (1+u+n) _ H3 g1 CY Er k4 q⟩
      .rw[ai LZ];rw[ay LZ]at q;refine cK ?_
       refine uq (x1:=5) (x2:=6) rfl λt2 JD=>?_
       have g2:bY H2 (upd (upd H2 t (.tup [.int 3,.int 4])) t2 (.tup [.int 5,.int 6])):=λb o e=>(aj (ag (g1 b o e) JD)).trans (g1 b o e)
       by_cases LY:c.toNat=5\/c.toNat=6
       .rw[ah LY];rw[ax LY]at q;refine c9 ⟨_,rfl,ex3 r BV _ ⟨rfl,g2 _ _ h2,jv a (p+1) (by decide +kernel) (by decide +kernel),r,a,p+1,bs,rfl,⟨BV,g2 _ _ h2⟩,g2.seq DZ,l0,?_⟩⟩
        cases en:Sw.varyOf (p+1) (bs.drop (p+1))with
        | error e =>
         rw[en]at q;exact q
        | ok x =>
         obtain⟨n,u⟩:=x
         rw[en]at q;rintro H3 ⟨K2,CY⟩ k4
         have Er:=k4 _ _ (g2 _ _ Je) C2
         have e2:p+1+u=p+(1+u):=(bh _ _ _)
         dsimp only at CY;refine⟨_,rfl,m,CP,xm,_,rfl,Er,TP.cP,TP.nSi,(by show 9<1000;decide),?_⟩
         refine⟨_,rfl,r,CR,K2,_,_,rfl,by rw[aj (ba C2)];exact CY,T.cR,T.nPl,dO a _,_,rfl,m,CP,xm,_,rfl,aC,TP.cP,TP.nIn,(by show 9<1000;decide),?_⟩
         refine⟨_,rfl,done n (1+u) (1+u) _ _ g2 ⟨K2,?_⟩ ⟨xm,?_⟩ (λb o e n1 n2=>?_) q⟩
         .rw[aj (ba C2),aj (ba C2),CY,e2]
         .rw[aC,e2];rfl
         .rw[aj n2,aj n2];exact k4 b o e n1
       .rw[ai LY];rw[ay LY]at q;refine cK (jI (n:=7) rfl ?_)
        by_cases c7:c.toNat=7
        .rw[ah c7];rw[ax c7]at q;refine c9 ⟨_,rfl,ex3 r BV _ ⟨rfl,g2 _ _ h2,jv a (p+1) (by decide +kernel) (by decide +kernel),r,a,p+1,8,bs,rfl,⟨BV,g2 _ _ h2⟩,g2.seq DZ,l0,?_⟩⟩
         exact C1 8 _ g2 q
        .rw[ai c7];rw[ay c7]at q;refine cK (jI (n:=8) rfl ?_)
         by_cases LX:c.toNat=8
         .rw[ah LX];rw[ax LX]at q;refine c9 ⟨_,rfl,ex3 r BV _ ⟨rfl,g2 _ _ h2,jv a (p+1) (by decide +kernel) (by decide +kernel),r,a,p+1,32,bs,rfl,⟨BV,g2 _ _ h2⟩,g2.seq DZ,l0,?_⟩⟩
          exact C1 32 _ g2 q
         .rw[ai LX];rw[ay LX]at q;exact cK ⟨_,rfl,done 0 1 1 _ _ g2 ⟨BV,g2 _ _ h2⟩ ⟨xm,g2 _ _ Je⟩ (λb o e ξ ξ=>e) q⟩
def Ad(K:Fg_)(CF CR CP:Addr):Sp:=λvs H Q E=>∃(r a h nh lh:Addr)(lv p:Nat)(bs:List UInt8)(dh:PD)(ms:List Addr)(prev:Option (List UInt8)),vs=[.ref r,.ref h,.int (lv:Int)]/\f7 CR H r a p/\SqL K H a (bs.map bv)/\p<=bs.length/\bs.length<=65536 /\
 iE CP H h dh nh lh/\H lh=some (.lst (ms.map V.ref))/\ms.length<=65536/\(dh.kind=6->qM CP H ms prev)/\(∀m∈ms,m≠r) /\
 Out E CF (Pm.memAt (decide (dh.kind=6)) prev lv p (bs.drop p)) λ(x:Nat×Nat×Nat×Nat×Nat×Nat)=>∀(m nm lm:Addr)(H':Hp),oV CP H H' m nm lm (Pm.newD (decide (dh.kind=6)) p x) (((bs.drop (Pm.newD (decide (dh.kind=6)) p x).np).take (Pm.newD (decide (dh.kind=6)) p x).nl).map bv) ->
  f7 CR H' r a (p+x.2.1+x.1+x.2.2.2.2.2)->H' lh=some (.lst ((ms++[m]).map V.ref))->(∀b o,H b=some o->b≠r->b≠lh->H' b=some o)->Q (.ref m) H'
theorem qM.same{CP:Addr}{H H':Hp}{ms:List Addr}{prev:Option (List UInt8)}(k:bY H H')(h:qM CP H ms prev):qM CP H' ms prev:=by
 unfold qM at *
 cases e:ms.getLast? with
 | none=>rw[e]at h;exact h
 | some m =>
  rw[e]at h;obtain⟨d,n,l,q,⟨dx,h1⟩,h2,h3⟩:=h
  exact⟨d,n,l,q,⟨dx,k _ _ h1⟩,k _ _ h2,h3⟩
theorem wV{CP CR:Addr}{H G H2:Hp}{r a lh m nB lm nn xm:Addr}{xs ys nb:List V}{fs:List (Str×V)}{d0 d:PD}{o1:HO}{pp:Nat}(hl:H lh=some (.lst xs))(sG:∀b o,H b=some o->b≠r->G b=some o)(hr:H r=some o1)
  (F4:G nn=some (.lst nb))(Mq:H nn=none)(fr:∀x,G x=none->H x=none)(np:oV CP G H2 m nB lm d0 [])(rd:f7 CR H2 r a pp)(Dj:lh≠r)(k2:Kp G H2 r) :
  let Hf:=upd (upd (upd H2 m (.ins CP xm fs)) m (.ins CP xm (pf d nn lm))) lh (.lst ys)
  oV CP H Hf m nn lm d nb/\f7 CR Hf r a pp/\Hf lh=some (.lst ys)/\∀b o,H b=some o->b≠r->b≠lh->Hf b=some o:=by
 intro Hf;have Jl:=fr m np.nm
 have PL:=fr lm np.nl
 have Dx:lh≠m:=ag hl Jl
 have Jm:lh≠lm:=ag hl PL
 have Mp:lh≠nn:=ag hl Mq
 have C2:r≠m:=ag hr Jl
 have Ji:r≠nn:=ag hr Mq
 have Cm:nn≠m:=ag F4 np.nm
 have Mo:nn≠lm:=ag F4 np.nl
 refine⟨⟨Jl,Mq,PL,np.ne,ba Cm,Mo,⟨xm,?_⟩,?_,?_⟩,?_,?_,λb o e n1 n2=>?_⟩
 .show upd (upd (upd H2 m _) m _) lh _ m=_
  rw[aj (ba Dx),aC]
 .show upd (upd (upd H2 m _) m _) lh _ nn=_
  rw[aj (ba Mp),aj Cm,aj Cm];exact k2 _ _ F4 (ba Ji)
 .show upd (upd (upd H2 m _) m _) lh _ lm=_
  rw[aj (ba Jm),aj (ba np.ne),aj (ba np.ne)];exact np.ls
 .obtain⟨dz,rz⟩:=rd
  refine⟨dz,?_⟩
  show upd (upd (upd H2 m _) m _) lh _ r=_
  rw[aj (ba Dj),aj C2,aj C2];exact rz
 .show upd (upd (upd H2 m _) m _) lh _ lh=_
  rw[aC]
 .show upd (upd (upd H2 m _) m _) lh _ b=_
  rw[aj n2,aj (ag e Jl),aj (ag e Jl)];exact k2 b o (sG b o e n1) n1
theorem uQ:bq ["reader","holder","level","name_place","name","part"] ["reader","holder","level"] (aS sBM):=fs_
theorem ok_BM{f Kv Ic:Addr}{fd EZ DJ:FuncData}(F:Fun K "begin_member" "begin_member" sBM f fd)(T:TxR K mg CF CR Bu)(TP:TxP K mg CP)(B:TxB mg CP)
  (GN:Co P w K mg base (CXF P w) 6 Kv EZ ["reader","holder"] (zM K CF CR CP) "read_name")
  (GB:Co P w K mg base (CXF P w) 7 Ic DJ ["reader","level"] (xM K CF CR CP) "begin_part") :
  bQ P w K mg base (CXF P w) 8 f fd ["reader","holder","level"] (Ad K CF CR CP):=by
 refine okX F uQ (λvs H Q E h=>?_) (λAY A outer s H vs Q E hr h=>?_)
 .obtain⟨r,a,h,nh,lh,lv,p,bs,dh,ms,prev,rfl,_⟩:=h
  rfl
 .obtain⟨r,a,h,nh,lh,lv,p,bs,dh,ms,prev,rfl,⟨dx,Bf⟩,hs,hp,hz,⟨xh,hh⟩,hl,EL,B4,BH,q⟩:=h
  have Lv:cD 6 _:=hr.mono (by decide)
  refine⟨_,az (bE (i:=3) uQ.nd rfl (.inl rfl) bb)
   (az (bE (i:=4) uQ.nd rfl (.inl rfl) (ee aG))
   (az (cE (bC eN (a6 (pv 1) rfl) (pgi B.k6 rfl) (bX _))
    (az (bE (i:=3) uQ.nd rfl (.inl rfl) (cj GN Lv rfl dG (aa (pv 0) (aa (pv 1) aG))))
     (aJ (bE (i:=4) uQ.nd rfl (.inl rfl) (iy jh (a6 (pv 0) rfl) (gj (pv 3)) (gj (a6 (pv 0) rfl)))))) b7)
   (az (bE (i:=5) uQ.nd rfl (.inl rfl) (cj GB hr rfl dG (aa (pv 0) (aa (pv 2) aG))))
   (az (dv (pv 5) (pv 3) rfl)
   (az (dv (pv 5) (pv 4) rfl)
   (az (cY (iW bp PySem.F.slot_list_append PySem.F.type_list_append i7 (a6 (pv 1) rfl) (aa (pv 5) aG)))
   (aJ (bK (pv 5))))))))),?_⟩
  try dsimp only[cW];have Iq:h≠r:=dC hh Bf (by intro z;injection z with _ _ z3;exact aW (congrArg List.length z3) (by show ¬9=2;decide))
  have Dj:lh≠r:=dC hl Bf (by intro z;cases z)
  have Y0:h≠lh:=dC hh hl (by intro z;cases z)
  unfold Pm.memAt at q;refine⟨aX _,λn0 Qx=>?_⟩
  have s0:bY H (upd H n0 (.lst [])):=λb o e=>(aj (ag e Qx)).trans e
  refine⟨_,rfl,fd_ (s0 _ _ hh) TP.cP TP.nKi rfl ⟨rfl,_,rfl,?_⟩⟩
  rw[iC];by_cases c6:dh.kind=6
  .rw[ah (show(dh.kind:Int)=6 by lia)]
   rw[ah c6]at q;unfold Pm.nmAt at q;rw[ax rfl]at q;refine c9 ⟨_,rfl,_,rfl,r,a,h,nh,lh,p,bs,dh,ms,prev,rfl,⟨dx,s0 _ _ Bf⟩,s0.seq hs,hp,hz,⟨xh,s0 _ _ hh⟩,s0 _ _ hl,(B4 c6).same s0,BH,?_⟩
   cases en:Hm.nameAt prev p (bs.drop p)with
   | error e =>
    rw[en]at q;exact q
   | ok x =>
    obtain⟨k,l⟩:=x
    rw[en]at q;have nu:=Pm.name_used en
    rw[aD]at nu;rintro H1 ⟨BV,h1⟩ k1
    have Ed:=ju (s0.seq hs) k1 (s0 _ _ Bf)
    refine⟨_,rfl,fd_ h1 T.cR T.nRow (iP a _) ⟨_,rfl,_,rfl,_,rfl,fd_ h1 T.cR T.nPl (dO a _) ⟨_,rfl,ex2 a _ ⟨rfl,Ed,λn1 IC=>?_⟩⟩⟩⟩
    rw[jT bs (p+l) k (by omega) rfl rfl]
    have s1:bY H1 (upd H1 n1 (.lst (((bs.drop (p+l)).take k).map bv))):=λb o e=>(aj (ag e IC)).trans e
    generalize hG:upd H1 n1 (.lst (((bs.drop (p+l)).take k).map bv))=G at s1;have F4:G n1=some (.lst (((bs.drop (p+l)).take k).map bv)):=by rw[<-hG,aC]
    have Rh:∀x,H1 x=none->H x=none:=λx hx=>by
     cases z:H x with
     | none=>rfl
     | some o =>
      by_cases y:x=r
      .rw[y,h1]at hx;cases hx
      .rw[k1 x o (s0 _ _ z) y]at hx;cases hx
    have fr:∀x,G x=none->H x=none:=λx hx=>Rh x (s1.free hx)
    have sG:∀b o,H b=some o->b≠r->G b=some o:=λb o e n=>s1 _ _ (k1 b o (s0 _ _ e) n)
    dsimp only at q;rw[cy,<-bh]at q;refine⟨_,rfl,_,rfl,r,a,lv,p+l+k,bs,rfl,⟨BV,s1 _ _ h1⟩,s1.seq Ed,by omega,hz,?_⟩
    cases eh:Pm.headAt lv (p+l+k) (bs.drop (p+l+k))with
    | error e =>
     rw[eh]at q;exact q
    | ok y =>
     obtain⟨kd,n,i,u⟩:=y
     rw[eh]at q;intro m nB lm H2 np E4 k2;obtain⟨xm,pt⟩:=np.pt
     have Jk:h≠m:=ag hh (fr m np.nm)
     have Dx:lh≠m:=ag hl (fr m np.nm)
     have HA:=k2 _ _ (sG _ _ hh Iq) Iq
     have B5:=k2 _ _ (sG _ _ hl Dj) Dj
     refine⟨_,rfl,_,rfl,m,CP,xm,_,rfl,pt,TP.cP,TP.nNp,(by show 9<1000;decide),?_⟩
     refine⟨_,rfl,_,rfl,m,CP,xm,_,rfl,aC,TP.cP,TP.nNl,(by show 9<1000;decide),?_⟩
     have Dm:upd (upd H2 m (.ins CP xm (fS "name_place" (.int ((p+l:Nat):Int)) (pf ⟨kd,p+l+k,p+l+k+i,p+l+k,n,1,0,0⟩ nB lm)))) m (.ins CP xm (fS "name" (.ref n1) (fS "name_place" (.int ((p+l:Nat):Int)) (pf ⟨kd,p+l+k,p+l+k+i,p+l+k,n,1,0,0⟩ nB lm)))) lh=some (.lst (ms.map V.ref)):=by
      rw[aj Dx,aj Dx];exact B5
     refine⟨_,rfl,h,CP,xh,_,.ref lh,rfl,by rw[aj Jk,aj Jk];exact HA,TP.cP,TP.nMe,rfl,.inl ⟨rfl,_,SqL.of Dm⟩,_,rfl,lh,_,_,rfl,rfl,Dm,(by rw[au];exact dR EL (by decide)),?_⟩
     obtain⟨z1,z2,z3,z4⟩:=wV (d:=Pm.newD true p (k,l,kd,n,i,u)) (xm:=xm) (fs:=fS "name_place" (.int ((p+l:Nat):Int)) (pf ⟨kd,p+l+k,p+l+k+i,p+l+k,n,1,0,0⟩ nB lm)) (ys:=ms.map V.ref++[V.ref m]) hl sG Bf F4 (Rh n1 IC) fr np E4 Dj k2
     refine⟨_,rfl,q m n1 lm _ z1 z2 (z3.trans ?_) z4⟩
     rw[aQ];rfl
  .rw[ai (show ¬(dh.kind:Int)=6 by lia)]
   rw[ai c6]at q;unfold Pm.nmAt at q;rw[ay aT]at q;dsimp only at q;refine cK ?_
   have F4:upd H n0 (.lst []) n0=some (.lst []):=aC
   generalize upd H n0 (.lst [])=G at s0 F4;have fr:∀x,G x=none->H x=none:=λx hx=>s0.free hx
   have sG:∀b o,H b=some o->b≠r->G b=some o:=λb o e ξ=>s0 b o e
   rw[ff,show p+0+0=p from rfl]at q;refine⟨_,rfl,_,rfl,ex5 r a lv p bs ⟨rfl,⟨dx,s0 _ _ Bf⟩,s0.seq hs,hp,hz,?_⟩⟩
   cases eh:Pm.headAt lv (p) (bs.drop (p))with
   | error e =>
    rw[eh]at q;exact q
   | ok y =>
    obtain⟨kd,n,i,u⟩:=y
    rw[eh]at q;intro m nB lm H2 np E4 k2;obtain⟨xm,pt⟩:=np.pt
    have Jk:h≠m:=ag hh (fr m np.nm)
    have Dx:lh≠m:=ag hl (fr m np.nm)
    have HA:=k2 _ _ (sG _ _ hh Iq) Iq
    have B5:=k2 _ _ (sG _ _ hl Dj) Dj
    refine⟨_,rfl,_,rfl,m,CP,xm,_,rfl,pt,TP.cP,TP.nNp,(by show 9<1000;decide),?_⟩
    refine⟨_,rfl,_,rfl,m,CP,xm,_,rfl,aC,TP.cP,TP.nNl,(by show 9<1000;decide),?_⟩
    have Dm:upd (upd H2 m (.ins CP xm (fS "name_place" (.int 0) (pf ⟨kd,p,p+i,p,n,1,0,0⟩ nB lm)))) m (.ins CP xm (fS "name" (.ref n0) (fS "name_place" (.int 0) (pf ⟨kd,p,p+i,p,n,1,0,0⟩ nB lm)))) lh=some (.lst (ms.map V.ref)):=by
     rw[aj Dx,aj Dx];exact B5
    refine⟨_,rfl,h,CP,xh,_,.ref lh,rfl,by rw[aj Jk,aj Jk];exact HA,TP.cP,TP.nMe,rfl,.inl ⟨rfl,_,SqL.of Dm⟩,_,rfl,lh,_,_,rfl,rfl,Dm,(by rw[au];exact dR EL (by decide)),?_⟩
    obtain⟨z1,z2,z3,z4⟩:=wV (d:=Pm.newD false p (0,0,kd,n,i,u)) (xm:=xm) (fs:=fS "name_place" (.int 0) (pf ⟨kd,p,p+i,p,n,1,0,0⟩ nB lm)) (ys:=ms.map V.ref++[V.ref m]) hl sG Bf F4 Qx fr np E4 Dj k2
    refine⟨_,rfl,q m n0 lm _ z1 z2 (z3.trans ?_) z4⟩
    rw[aQ];rfl
def u5(bs:List UInt8)(d:PD):List V:=((bs.drop d.np).take d.nl).map bv
mutual
inductive mr(CP:Addr)(bs:List UInt8)(H:Hp):Addr->PT->Prop
 | mk {a n l:Addr} {as:List Addr} {d:PD} {ms:List PT}:iE CP H a d n l->H n=some (.lst (u5 bs d))->H l=some (.lst (as.map V.ref))->TrsOk CP bs H as ms->mr CP bs H a (.node d ms)
inductive TrsOk(CP:Addr)(bs:List UInt8)(H:Hp):List Addr->List PT->Prop
 | nil:TrsOk CP bs H [] []
 | cons {a:Addr} {as:List Addr} {t:PT} {ts:List PT}:mr CP bs H a t->TrsOk CP bs H as ts->TrsOk CP bs H (a::as) (t::ts)
end
mutual
theorem mr.same{CP:Addr}{bs:List UInt8}{H H':Hp}(k:bY H H'){a:Addr}{t:PT}(h:mr CP bs H a t):mr CP bs H' a t:=by
 cases h with
 | mk h1 h0 h2 h3=>exact .mk (h1.elim λdx h1=>⟨dx,k _ _ h1⟩) (k _ _ h0) (k _ _ h2) (h3.same k)
theorem TrsOk.same{CP:Addr}{bs:List UInt8}{H H':Hp}(k:bY H H'){as:List Addr}{ts:List PT}(h:TrsOk CP bs H as ts):TrsOk CP bs H' as ts:=by
 cases h with
 | nil=>exact .nil
 | cons h1 h2=>exact .cons (h1.same k) (h2.same k)
end
theorem TrsOk.len{CP:Addr}{bs:List UInt8}{H:Hp}{as:List Addr}{ts:List PT}(k:TrsOk CP bs H as ts):as.length=ts.length:=by
 cases k with
 | nil=>rfl
 | cons _ h=>rw[ao,ao,h.len]
theorem TrsOk.get{CP:Addr}{bs:List UInt8}{H:Hp}{as:List Addr}{ts:List PT}(h:TrsOk CP bs H as ts){j:Nat}{a:Addr}(e:as[j]? =some a):∃t,ts[j]? =some t/\mr CP bs H a t:=by
 cases h with
 | nil=>simp at e
 | cons h1 h2 =>
  cases j with
  | zero =>
   obtain rfl:=aV e
   exact⟨_,rfl,h1⟩
  | succ j=>exact h2.get e
theorem TrsOk.snoc{CP:Addr}{bs:List UInt8}{H:Hp}{a:Addr}{t:PT}(h:mr CP bs H a t):∀{as:List Addr}{ts:List PT},TrsOk CP bs H as ts->TrsOk CP bs H (as++[a]) (ts++[t])
 | _,_,.nil=>.cons h .nil
 | _,_,.cons h1 h2=>.cons h1 (h2.snoc h)
theorem mr.pt{CP:Addr}{bs:List UInt8}{H:Hp}{a:Addr}{t:PT}(h:mr CP bs H a t):∃n l,iE CP H a t.d n l/\H n=some (.lst (u5 bs t.d)):=by
 cases h with
 | mk h1 h0 _ _=>exact⟨_,_,h1,h0⟩
structure SF where
 a:Addr
 n:Addr
 l:Addr
 as:List Addr
 d:PD
 mem:List PT
structure tN(CP:Addr)(p:Nat)(bs:List UInt8)(G D:Hp)(s:SF)(ch:List Addr):Prop where
 pt:iE CP G s.a s.d s.n s.l
 nm:D s.n=some (.lst (u5 bs s.d))
 ls:G s.l=some (.lst ((s.as++ch).map V.ref))
 mem:TrsOk CP bs D s.as s.mem
 bd:s.as.length+ch.length+1<=p
 dp:1<=s.d.depth
def r9(CP:Addr)(p:Nat)(bs:List UInt8)(G D:Hp):List Addr->List SF->Prop
 | _,[]=>True
 | ch,s::r=>tN CP p bs G D s ch/\r9 CP p bs G D [s.a] r
theorem tN.keep{CP:Addr}{p p':Nat}{bs:List UInt8}{G G' D D':Hp}{s:SF}{ch:List Addr}(f:tN CP p bs G D s ch)(hp:p<=p')(hd:bY D D')(ha:∀o,G s.a=some o->G' s.a=some o)(hl:∀o,G s.l=some o->G' s.l=some o):tN CP p' bs G' D' s ch:=by
 refine⟨?_,hd _ _ f.nm,hl _ f.ls,f.mem.same hd,bH f.bd hp,f.dp⟩
 obtain⟨dx,h⟩:=f.pt
 exact⟨dx,ha _ h⟩
theorem r9.keep{CP:Addr}{p p':Nat}{bs:List UInt8}{G G' D D':Hp}(hp:p<=p')(hd:bY D D'):∀{st:List SF}{ch:List Addr},r9 CP p bs G D ch st ->
  (∀s∈st,(∀o,G s.a=some o->G' s.a=some o)/\(∀o,G s.l=some o->G' s.l=some o))->r9 CP p' bs G' D' ch st
 | [],_,_,_=>trivial
 | s::r,ch,h,k=>by
  obtain⟨h1,h2⟩:=h
  obtain⟨k1,k2⟩:=k s (by simp)
  exact⟨h1.keep hp hd k1 k2,r9.keep hp hd h2 λs' hs=>k s' (by simp[hs])⟩
theorem r9.fr{CP:Addr}{p:Nat}{bs:List UInt8}{G D:Hp}:∀{st:List SF}{ch:List Addr},r9 CP p bs G D ch st->∀s∈st,∃FO,tN CP p bs G D s FO
 | [],_,_,s,hs=>by simp at hs
 | s0::r,ch,h,s,hs=>by
  rcases aI.mp hs with rfl | hs
  .exact⟨ch,h.1⟩
  .exact h.2.fr s hs
structure Dist(H D:Hp)(g:Addr)(st:List SF):Prop where
 na:(st.map (·.a)).Nodup
 nl:(st.map (·.l)).Nodup
 ng:∀s∈st,s.l≠g
 da:∀s∈st,D s.a=none/\D s.l=none
 f0:∀s∈st,H s.a=none/\H s.l=none
theorem ef{CP:Addr}{G:Hp}{a n l b:Addr}{d:PD}{xs:List V}(h:iE CP G a d n l)(h':G b=some (.lst xs)):a≠b:=by
 obtain⟨dx,h⟩:=h
 exact dC h h' (by intro z;cases z)
theorem kK{CP CR:Addr}{G:Hp}{a n l r b:Addr}{d:PD}{p:Nat}(h:iE CP G a d n l)(h':f7 CR G r b p):a≠r:=by
 obtain⟨dx,h⟩:=h
 obtain⟨dy,h'⟩:=h'
 exact dC h h' (by intro z;injection z with _ _ z3;exact aW (congrArg List.length z3) (by show ¬9=2;decide))
theorem i8{CR:Addr}{G:Hp}{a r b:Addr}{xs:List V}{p:Nat}(h:G a=some (.lst xs))(h':f7 CR G r b p):a≠r:=by
 obtain⟨dy,h'⟩:=h'
 exact dC h h' (by intro z;cases z)
def ua(st:List SF):List (PD×List PT):=st.map λs=>(s.d,s.mem)
structure Turn(CP CR:Addr)(H G D:Hp)(r a aw g:Addr)(bs:List UInt8)(R:Except Sw.Fault (PT×Nat))(n p:Nat)(s:SF)(rest:List SF):Prop where
 lst:G g=some (.lst (((s::rest).map (·.a)).reverse.map V.ref))
 st:r9 CP p bs G D [] (s::rest)
 ds:Dist H D g (s::rest)
 bot:((s::rest).map (·.a)).getLast? =some aw
 run:Pm.fin bs (ua rest) s.d s.mem p=R
 ms:n=2*(bs.length-p)+(s::rest).length
 dep:(s::rest).length<=p
 dn:bY D G
 dg:D g=none
 dr:D r=none
structure Base(CR:Addr)(H G:Hp)(r a:Addr)(p:Nat)(bs:List UInt8):Prop where
 same:bY H G
 rd:f7 CR G r a p
 le:p<=bs.length
theorem wx{named:Bool}{prev:Option (List UInt8)}{lv p:Nat}{bs:List UInt8}{x:Nat×Nat×Nat×Nat×Nat×Nat}(h:Pm.memAt named prev lv p (bs.drop p) =.ok x)(hp:p<=bs.length) :
  p+x.2.1+x.1+x.2.2.2.2.2<=bs.length/\1<=x.2.2.2.2.2:=by
 unfold Pm.memAt at h;cases en:Pm.nmAt named prev p (bs.drop p)with
 | error e=>rw[en]at h;cases h
 | ok y =>
  obtain⟨k,l⟩:=y
  rw[en]at h;have n1:=Pm.nm_used en
  rw[aD]at n1;dsimp only at h;cases eh:Pm.headAt lv (p+l+k) ((bs.drop p).drop (l+k))with
  | error e=>rw[eh]at h;cases h
  | ok z =>
   obtain⟨kd,n,i,u⟩:=z
   rw[eh]at h;have h1:=Pm.head_used eh
   rw[aD,aD]at h1;injection h with h;subst h;dsimp only;omega
theorem uT{CP:Addr}{p:Nat}{G D G1:Hp}{bs:List UInt8}{s:SF}{ch:List Addr}(f:tN CP p bs G D s ch)(k:bY D G1):qM CP G1 s.as (Pm.prevOf bs s.mem):=by
 unfold qM Pm.prevOf;have l1:=f.mem.len
 rw[cO,cO,<-l1];cases e:s.as[s.as.length-1]? with
 | none =>
  have l0:=cv.mp e
  rw[cv.mpr (leL l1 l0)]
 | some x =>
  obtain⟨t,e2,h⟩:=f.mem.get e
  rw[e2];obtain⟨n',l',⟨dx,h'⟩,hn⟩:=h.pt
  exact⟨t.d,n',l',_,⟨dx,k _ _ h'⟩,k _ _ hn,rfl⟩
def zI(K:Fg_)(CF CP:Addr):Sp:=λvs H Q E=>∃(a:Addr)(bs:List UInt8),vs=[.ref a]/\SqL K H a (bs.map bv)/\bs.length<=65536 /\
 Out E CF (Pm.wholeAt bs) λ(t:PT)=>∀(aw:Addr)(H':Hp),mr CP bs H' aw t->bY H H'->Q (.ref aw) H'
section
variable {P:Program}{w:World}{K:Fg_}{mg:Str->Option Value}{base:Heap}{CF CR CP Bu:Addr}
theorem vS:bq ["row","reader","whole","begun","part"] ["row"] (aS sRW):=fs_
theorem ok_RW{f IT Ic KJ KQ KO:Addr}{fd Bl Gm DJ Dr DI NY:FuncData}(F:Fun K "read_whole" "read_whole" sRW f fd)(T:TxR K mg CF CR Bu)(TP:TxP K mg CP)(Tt:mg "Reader" =some (.ref CR))(e8:GI mg "BYTES_BEHIND" 8)
  (GI:bQ P w K mg base CX0 1 Bu Bl ["self","kind","place"] (lM CF))(bI:bZ K Bl ["self","kind","place"] [])
  (M:Mk K CR IT)(GR:bQ P w K mg base CX0 1 IT Gm ["self","row"] (zO CR))(bR:bZ K Gm ["self","row"] [])
  (GB:Co P w K mg base (CXF P w) 7 Ic DJ ["reader","level"] (xM K CF CR CP) "begin_part")
  (GL:Co P w K mg base CX0 1 KJ Dr ["part"] (z8 CP) "lacks_members")
  (GM:Co P w K mg base (CXF P w) 8 KQ DI ["reader","holder","level"] (Ad K CF CR CP) "begin_member")
  (GD:Co P w K mg base CX0 1 KO NY ["holder","part"] (Ab CP) "deepen") :
  bQ P w K mg base (CXF P w) 9 f fd ["row"] (zI K CF CP):=by
 refine okX F vS (λvs H Q E h=>?_) (λAY A outer s H vs Q E hr h=>?_)
 .obtain⟨a,bs,rfl,_⟩:=h
  rfl
 .obtain⟨a,bs,rfl,hs,hz,q⟩:=h
  have Bf:cD 1 _:=hr.mono (by decide)
  have Bm:cD 2 _:=hr.mono (by decide)
  have M0:cD 7 _:=hr.mono (by decide)
  refine⟨_,az (bE (i:=1) vS.nd rfl (.inl rfl) (jm M GR Bm rfl Tt bR .nil cM (aa (pv 0) aG)))
   (az (bE (i:=2) vS.nd rfl (.inl rfl) (cj GB M0 rfl dG (aa (pv 1) (aa bb aG))))
   (az (bE (i:=3) vS.nd rfl (.inl rfl) (ee (aa (pv 2) aG)))
   (az (iV PassesOwn.leaving (eI (pv 3) (λξ=>rfl))
    (az (bE (i:=4) vS.nd rfl (.inl rfl) (dJ cx (pv 3) (eK dF bb) (λξ ξ=>rfl)))
    (aJ (cE (eI (cj GL Bf rfl cM (aa (pv 4) aG)) (λξ=>rfl))
     (aJ (cY (iW bp PySem.F.slot_list_append PySem.F.type_list_append i7 (pv 3) (aa (cj GM hr rfl dG
      (aa (pv 1) (aa (pv 4) (aa (dI gk (ck cB (by rfl) T.len bo (aa (pv 3) aG)) bb) aG)))) aG))))
     (az (dv (pv 4) (a6 (pv 1) rfl) rfl)
     (az (cY (qi bp PySem.F.slot_list_pop PySem.F.type_list_pop qo (pv 3)))
     (aJ (cE (eI (pv 3) (λξ=>rfl)) (aJ (cY (cj GD Bf rfl cM (aa (dJ cx (pv 3) (eK dF bb) (λξ ξ=>rfl)) (aa (pv 4) aG))))) b7))))))))
   (az (cE (bC jw (a6 (pv 1) rfl) (ck cB (by rfl) T.len bo (aa (pv 0) aG)) (bX _))
    (aJ (eJ T.xc GI bI Bm cN rfl rfl T.mF (aa (pgi e8 rfl) (aa (a6 (pv 1) rfl) aG)))) b7)
   (aJ (bK (pv 2))))))),?_⟩
  try dsimp only[cW];refine⟨_,rfl,λr dr nr Ta S8=>ex3 r dr a ⟨rfl,aC,λH1 Il k1=>⟨rfl,?_⟩⟩⟩
  have s1:bY H H1:=bY.made nr Ta k1
  refine⟨_,rfl,ex5 r a 1 0 bs ⟨rfl,Il,s1.seq hs,aX _,hz,?_⟩⟩
  rw[ff];unfold Pm.wholeAt at q;cases eh:Pm.headAt 1 0 bs with
  | error e =>
   rw[eh]at q;exact q
  | ok x =>
   obtain⟨k0,n0,i0,u0⟩:=x
   rw[eh]at q;dsimp only at q;obtain⟨Ql,UO,_⟩:=Pm.head_used eh
   rintro m nw l H2 ⟨nm,nn,nl,YY,nmn,nnl,⟨xm,pt⟩,ns,ls⟩ E4 k2
   dsimp only at pt E4;rw[eP]at pt;refine⟨_,rfl,(by show 1<=sizeLine;decide),λg hg=>?_⟩
   have s2:bY H H2:=λb o e=>k2 b o (s1 b o e) (ag e nr)
   have s3:bY H2 (upd H2 g (.lst [.ref m])):=λb o e=>(aj (ag e hg)).trans e
   have S5:l≠g:=ag ls hg
   have S2:nw≠g:=ag ns hg
   have Ji:nw≠r:=λz=>by obtain⟨dz,Fu⟩:=Il;rw[z,Fu]at nn;cases nn
   have PP:H g=none:=s2.free hg
   generalize hR:Pm.fin bs [] ⟨k0,0,i0,0,n0,1,0,0⟩ [] u0=R at q;refine⟨λn σ G=>∃v4,σ=[some (.ref a),some (.ref r),some (.ref m),some (.ref g),v4]/\∃p,Base CR H G r a p bs/\((∃D s rest,Turn CP CR H G D r a m g bs R n p s rest)\/(G g=some (.lst [])/\∃t,R =.ok (t,p)/\mr CP bs G m t)),⟨2*(bs.length-u0)+1,?_⟩,?_⟩
   .refine⟨none,rfl,u0,⟨s2.trans s3,?_,UO⟩,.inl ⟨upd (λξ=>none) nw (.lst []),⟨m,nw,l,[],⟨k0,0,i0,0,n0,1,0,0⟩,[]⟩,[],⟨aC,⟨?_,trivial⟩,?_,rfl,hR,rfl,Ql,?_,by rw[aj (ba S2)],by rw[aj (ba Ji)]⟩⟩⟩
    .obtain⟨dz,rz⟩:=E4
     exact⟨dz,s3 _ _ (by rw[rz,eP])⟩
    .exact⟨⟨xm,s3 _ _ pt⟩,aC,s3 _ _ ls,.nil,Ql,aF 1⟩
    .exact⟨by simp,by simp,λs hs=>by rw[aN.mp hs];exact S5,λs hs=>by rw[aN.mp hs];exact⟨by rw[aj nmn],by rw[aj (ba nnl)]⟩,
      λs hs=>by rw[aN.mp hs];exact⟨s1.free nm,s1.free nl⟩⟩
    .intro y o e;by_cases yn:y=nw
     .rw[yn,aC]at e;rw[yn,<-e];exact s3 _ _ ns
     .rw[aj yn]at e;cases e
   .rintro n σ G ⟨v4,rfl,p,B,Cu⟩
    rcases Cu with⟨D,s,rest,T0⟩ | ⟨BA,t,eR,hw⟩
    .
     obtain⟨hf,Cp⟩:=T0.st
     obtain⟨xs,Eg⟩:=hf.pt
     have Gd:G s.l=some (.lst (s.as.map V.ref)):=by
      have:=hf.ls
      rw[bJ]at this;exact this
     have LP:(((s::rest).map (·.a)).reverse.map V.ref)=((rest.map (·.a)).reverse.map V.ref)++[V.ref s.a]:=by
      rw[bj,eS,aQ];rfl
     have BA:=T0.lst
     refine⟨_,rfl,_,.inl ⟨_,SqL.of BA,rfl⟩,?_⟩
     rw[show(!(((s::rest).map (·.a)).reverse.map V.ref).isEmpty)=true by rw[LP];simp]
     refine c9 ⟨_,λσ' G' h=>h,?_⟩
     refine⟨_,rfl,_,rfl,g,_,_,V.ref s.a,rfl,rfl,SqL.of BA,by rw[LP];exact fD _ _,?_⟩
     refine⟨_,rfl,ex5 s.a s.n s.l s.d s.as ⟨rfl,⟨xs,Eg⟩,Gd,λG1 sm=>⟨_,rfl,?_⟩⟩⟩
     have QB:∀{x:Addr},G1 x=none->G x=none:=λh=>sm.free h
     by_cases hc:(s.d.kind=5\/s.d.kind=6)/\s.as.length<s.d.size
     .
      rw[ah hc];have EG:s.mem.length<Pm.need s.d:=by
       unfold Pm.need;rw[ax hc.1,<-hf.mem.len];exact hc.2
      have C8:=Pm.fin_push bs (ua rest) s.d s.mem p EG
      rw[T0.run,show(ua rest).length=rest.length from au ..]at C8;have PM:g≠r:=i8 BA B.rd
      have Ir:g≠s.l:=ba (T0.ds.ng s (by simp))
      have Lm:s.a≠r:=kK ⟨xs,Eg⟩ B.rd
      have Mh:f7 CR G1 r a p:=let ⟨z,Jz⟩:=B.rd;⟨z,sm _ _ Jz⟩
      have We:((((s::rest).map (·.a)).reverse.map V.ref).length:Int)+1=((rest.length+2:Nat):Int):=by
       rw[au,eZ,au,ao];exact rfl
      refine c9 ⟨_,rfl,.inl ⟨rfl,_,SqL.of (sm _ _ BA)⟩,_,rfl,_,rfl,_,rfl,ex2 g _ ⟨rfl,.inl (SqL.of (sm _ _ BA)),ex2 _ _ ⟨rfl,rfl,r,a,s.a,s.n,s.l,rest.length+2,p,bs,s.d,s.as,Pm.prevOf bs s.mem,congrArg (λz=>[V.ref r,V.ref s.a,V.int z]) We,Mh,(B.same.trans sm).seq hs,B.le,hz,⟨xs,sm _ _ Eg⟩,sm _ _ Gd,?_,λξ=>uT hf (T0.dn.trans sm),?_,?_⟩⟩⟩
      .have:=hf.bd
       have:=B.le
       simp only[dB]at *;lia
      .intro y hy;obtain⟨j,hj⟩:=dZ hy
       obtain⟨t,_,ht⟩:=hf.mem.get hj
       obtain⟨n',l',⟨Cc,Cd⟩,_⟩:=ht.pt
       exact ag Cd T0.dr
      .cases em:Pm.memAt (decide (s.d.kind=6)) (Pm.prevOf bs s.mem) (rest.length+2) p (bs.drop p)with
       | error e =>
        have IY:Pm.memAt (Pm.isRec s.d) (Pm.prevOf bs s.mem) (rest.length+2) p (bs.drop p) =.error e:=em
        rw[IY]at C8;rw[C8]at q;exact q
       | ok x =>
        have IY:Pm.memAt (Pm.isRec s.d) (Pm.prevOf bs s.mem) (rest.length+2) p (bs.drop p) =.ok x:=em
        rw[IY]at C8;obtain⟨Ti,Th⟩:=wx em B.le
        intro m' FZ lm G2 np Mg Cr kk
        have Ei:=sm _ _ BA
        have Do:=kk g _ Ei PM Ir
        have S3:m'≠g:=λz=>by rw[<-z,np.nm]at Ei;cases Ei
        have Jn:lm≠g:=λz=>by rw[<-z,np.nl]at Ei;cases Ei
        have Jj:FZ≠g:=λz=>by rw[<-z,np.nn]at Ei;cases Ei
        have Nz:=T0.dep
        have hle:=B.le
        refine ex3 g _ _ ⟨rfl,rfl,Do,by rw[au,eZ,au];exact dR (bH Nz (bH hle hz)) (by decide),?_⟩
        generalize DG:upd G2 g (.lst ((((s::rest).map (·.a)).reverse.map V.ref)++[V.ref m']))=G3;have stay:∀y o,G y=some o->y≠r->y≠s.l->y≠g->G3 y=some o:=λy o e h1 h2 h3=>by
         rw[<-DG,aj h3];exact kk y o (sm y o e) h1 h2
        have FX:∀y d n' l',iE CP G y d n' l'->∀o,G y=some o->G3 y=some o:=λy d n' l' hp o e=>stay y o e (kK hp B.rd) (ef hp Gd) (ef hp BA)
        have LU:bY D G3:=λy o e=>stay y o (T0.dn y o e) (ag e T0.dr) (ag e (T0.ds.da s (by simp)).2) (ag e T0.dg)
        have trk:∀s'∈s::rest,∃FO,tN CP p bs G D s' FO:=T0.st.fr
        have Jr:∀{y:Addr}{o:HO},G y=some o->y≠m':=λe z=>by
         have:=sm _ _ e
         rw[z,np.nm]at this;cases this
        have Jq:∀{y:Addr}{o:HO},G y=some o->y≠lm:=λe z=>by
         have:=sm _ _ e
         rw[z,np.nl]at this;cases this
        have Es:∀{y:Addr}{o:HO},G y=some o->y≠FZ:=λe z=>by
         have:=sm _ _ e
         rw[z,np.nn]at this;cases this
        generalize Ki:upd D FZ (.lst (u5 bs (Pm.newD (decide (s.d.kind=6)) p x)))=D';have YN:D FZ=none:=(T0.dn.trans sm).free np.nn
        have sD:bY D D':=λy o e=>by rw[<-Ki,aj (ag e YN)];exact e
        have Dn:∀y,y≠FZ->D y=none->D' y=none:=λy h1 h2=>by rw[<-Ki,aj h1];exact h2
        have M8:G3 FZ=some (.lst (u5 bs (Pm.newD (decide (s.d.kind=6)) p x))):=by rw[<-DG,aj Jj];exact np.ns
        have Oh:bY D' G3:=λy o e=>by
         by_cases yn:y=FZ
         .rw[yn,<-Ki,aC]at e;rw[yn,<-e];exact M8
         .rw[<-Ki,aj yn]at e;exact LU y o e
        refine⟨2*(bs.length-(p+x.2.1+x.1+x.2.2.2.2.2))+(rest.length+2),by rw[T0.ms,ao];lia,_,rfl,p+x.2.1+x.1+x.2.2.2.2.2,⟨λb o e=>?_,?_,Ti⟩,
         .inl ⟨D',⟨m',FZ,lm,[],Pm.newD (decide (s.d.kind=6)) p x,[]⟩,s::rest,⟨?_,⟨?_,?_,?_⟩,?_,?_,C8.symm,by rw[ao,ao],by rw[ao,ao]at *;lia,Oh,Dn _ (ba Jj) T0.dg,Dn _ (let ⟨z,Jz⟩:=B.rd;Es Jz) T0.dr⟩⟩⟩
        .exact stay b o (B.same b o e) (ag e nr) (ag e (T0.ds.f0 s (by simp)).2) (ag e PP)
        .obtain⟨dz,rz⟩:=Mg
         exact⟨dz,by rw[<-DG,aj (ba PM)];exact rz⟩
        .rw[<-DG,aC,bj (l:=s::rest),eS,aQ]
         rfl
        .obtain⟨dz,pz⟩:=np.pt
         exact⟨⟨dz,by rw[<-DG,aj S3];exact pz⟩,by rw[<-Ki,aC],by rw[<-DG,aj Jn];exact np.ls,.nil,by show 0+0+1<=_;exact aR Th (a8 _ _),aF 1⟩
        .refine⟨⟨xs,FX _ _ _ _ ⟨xs,Eg⟩ _ Eg⟩,sD _ _ hf.nm,by rw[<-DG,aj (ba Ir)];exact Cr,hf.mem.same sD,?_,hf.dp⟩
         have:=hf.bd
         simp only[dB,a9]at *;lia
        .refine Cp.keep (by lia) sD λs' hs'=>?_
         obtain⟨FO,f'⟩:=trk s' (by simp[hs'])
         refine⟨λo e=>FX _ _ _ _ f'.pt o e,λo e=>stay _ o e (i8 f'.ls B.rd) ?_ (T0.ds.ng s' (by simp[hs']))⟩
         have nd:=T0.ds.nl
         rw[bj,bc]at nd;exact λz=>nd.1 (z▸d8 hs')
        .refine⟨?_,?_,λs' hs'=>?_,λs' hs'=>?_,λs' hs'=>?_⟩
         .rw[bj,bc];refine⟨λhm=>?_,T0.ds.na⟩
          obtain⟨s',hs',e'⟩:=dX.mp hm
          obtain⟨FO,f'⟩:=trk s' hs'
          obtain⟨dz,pz⟩:=f'.pt
          exact Jr pz e'
         .rw[bj,bc];refine⟨λhm=>?_,T0.ds.nl⟩
          obtain⟨s',hs',e'⟩:=dX.mp hm
          obtain⟨FO,f'⟩:=trk s' hs'
          exact Jq f'.ls e'
         .rcases aI.mp hs' with rfl | hs'
          .exact Jn
          .exact T0.ds.ng s' hs'
         .rcases aI.mp hs' with rfl | hs'
          .exact⟨Dn _ np.nmn ((T0.dn.trans sm).free np.nm),Dn _ (ba np.nnl) ((T0.dn.trans sm).free np.nl)⟩
          .obtain⟨FO,f'⟩:=trk s' hs'
           obtain⟨dz,pz⟩:=f'.pt
           exact⟨Dn _ (Es pz) (T0.ds.da s' hs').1,Dn _ (Es f'.ls) (T0.ds.da s' hs').2⟩
         .rcases aI.mp hs' with rfl | hs'
          .exact⟨(B.same.trans sm).free np.nm,(B.same.trans sm).free np.nl⟩
          .exact T0.ds.f0 s' hs'
        .have:=T0.bot
         rw[bj]at this;rw[bj,bj,gf];exact this
     .
      rw[ai hc];have EG:Pm.need s.d<=s.mem.length:=by
       unfold Pm.need;rw[<-hf.mem.len];by_cases hk:s.d.kind=5\/s.d.kind=6
       .rw[ax hk];exact bg λz=>hc ⟨hk,z⟩
       .rw[ay hk];exact aX _
      have Ht:=Pm.fin_pop bs (ua rest) s.d s.mem p EG hf.dp
      rw[T0.run]at Ht;obtain⟨LS,Ez⟩:=B.rd
      have Lm:s.a≠r:=kK ⟨xs,Eg⟩ B.rd
      have Mu:s.a≠g:=ef ⟨xs,Eg⟩ BA
      have P8:s.a≠s.l:=ef ⟨xs,Eg⟩ Gd
      refine cK ⟨_,rfl,r,CR,LS,_,_,rfl,sm _ _ Ez,T.cR,T.nPl,dO a p,_,rfl,s.a,CP,xs,_,rfl,sm _ _ Eg,TP.cP,TP.nEn,(by show 9<1000;decide),?_⟩
      generalize IP:upd G1 s.a (.ins CP xs (fS "end" (.int (p:Int)) (pf s.d s.n s.l)))=G2;have M4:G2 s.a=some (.ins CP xs (pf { s.d with fin:=p } s.n s.l)):=by rw[<-IP,aC];rfl
      have GE:∀y o,G y=some o->y≠s.a->G2 y=some o:=λy o e h=>by rw[<-IP,aj h];exact sm y o e
      have Do:=GE g _ BA (ba Mu)
      refine⟨_,rfl,.inl ⟨rfl,_,SqL.of Do⟩,g,_,V.ref s.a,rfl,rfl,Do,by rw[LP,ae,a9,iG];simp,?_⟩
      rw[LP,eU];generalize DG:upd G2 g (.lst ((rest.map (·.a)).reverse.map V.ref))=G3;have LF:G3 g=some (.lst ((rest.map (·.a)).reverse.map V.ref)):=by rw[<-DG,aC]
      have En:∀y o,G y=some o->y≠s.a->y≠g->G3 y=some o:=λy o e h1 h2=>by rw[<-DG,aj h2];exact GE y o e h1
      have Hr:G3 s.a=some (.ins CP xs (pf { s.d with fin:=p } s.n s.l)):=by rw[<-DG,aj Mu];exact M4
      have Eo:bY H G3:=λb o e=>En b o (B.same b o e) (ag e (T0.ds.f0 s (by simp)).1) (ag e PP)
      have LU:bY D G3:=λy o e=>En y o (T0.dn y o e) (ag e (T0.ds.da s (by simp)).1) (ag e T0.dg)
      have JZ:G3 s.l=some (.lst (s.as.map V.ref)):=En _ _ Gd (ba P8) (T0.ds.ng s (by simp))
      refine⟨_,rfl,_,.inl ⟨_,SqL.of LF,rfl⟩,?_⟩
      cases rest with
      | nil =>
       refine cK ⟨0,by rw[T0.ms,ao];exact a8 _ _,_,rfl,p,⟨Eo,⟨LS,En _ _ Ez (ba Lm) (ba (i8 BA B.rd))⟩,B.le⟩,.inr ⟨LF,.node { s.d with fin:=p } s.mem,Ht,?_⟩⟩
       have hb:some s.a=some m:=T0.bot
       injection hb with hb;subst hb;exact .mk ⟨xs,Hr⟩ (LU _ _ hf.nm) JZ (hf.mem.same LU)
      | cons s2 DM =>
       obtain⟨HE,Ho⟩:=Cp
       obtain⟨Ih,Cq⟩:=HE.pt
       have nd:=T0.ds.na
       rw[bj,bc]at nd;have Ll:=nd.2
       rw[bj,bc]at Ll;have Qa:s2.a≠s.a:=λz=>nd.1 (z▸by simp)
       have P':s2.a≠g:=ef ⟨Ih,Cq⟩ BA
       have Hq:=En _ _ Cq Qa P'
       rw[show(!((((s2::DM).map (·.a)).reverse.map V.ref)).isEmpty)=true by rw[bj,eS,aQ];simp]
       refine c9 ⟨_,rfl,_,rfl,g,_,_,V.ref s2.a,rfl,rfl,SqL.of LF,by rw[bj,eS,aQ];exact fD _ _,_,rfl,
        s2.a,s.a,s2.n,s2.l,s.n,s.l,s2.d,{ s.d with fin:=p },rfl,⟨Ih,Hq⟩,⟨xs,Hr⟩,λG4 SU k4=>?_⟩
       have FU:∀y o,G y=some o->y≠s.a->y≠g->y≠s2.a->G4 y=some o:=λy o e h1 h2 h3=>k4 y o (En y o e h1 h2) h3
       have Nf:G4 s.l=some (.lst (s.as.map V.ref)):=k4 _ _ JZ (ba (ef ⟨Ih,Cq⟩ Gd))
       generalize hD:upd (upd D s.a (.ins CP xs (pf { s.d with fin:=p } s.n s.l))) s.l (.lst (s.as.map V.ref))=D'
       obtain⟨Wp,Wo⟩:=T0.ds.da s (by simp)
       have sD:bY D D':=λy o e=>by rw[<-hD,aj (ag e Wo),aj (ag e Wp)];exact e
       have Da:D' s.a=some (.ins CP xs (pf { s.d with fin:=p } s.n s.l)):=by rw[<-hD,aj P8,aC]
       have Dl:D' s.l=some (.lst (s.as.map V.ref)):=by rw[<-hD,aC]
       have Dn:∀y,y≠s.a->y≠s.l->D y=none->D' y=none:=λy h1 h2 h3=>by rw[<-hD,aj h2,aj h1];exact h3
       have Wr:bY D' G4:=λy o e=>by
        by_cases y1:y=s.l
        .rw[y1,Dl]at e;rw[y1,<-e];exact Nf
        .by_cases y2:y=s.a
         .rw[y2,Da]at e;rw[y2,<-e];exact k4 _ _ Hr (ba Qa)
         .rw[<-hD,aj y1,aj y2]at e;exact FU y o (T0.dn y o e) y2 (ag e T0.dg) (ag e (T0.ds.da s2 (by simp)).1)
       have Lj:=T0.ds.nl
       rw[bj,bc]at Lj;have Sj:∀s'∈s2::DM,D' s'.a=none/\D' s'.l=none:=λs' hs'=>by
        obtain⟨FO,f'⟩:=T0.st.fr s' (aA _ hs')
        obtain⟨q1,q2⟩:=T0.ds.da s' (aA _ hs')
        refine⟨Dn _ (λz=>nd.1 (z▸d8 hs')) (ef f'.pt Gd) q1,Dn _ (ba (ef ⟨xs,Eg⟩ f'.ls)) (λz=>Lj.1 (z▸d8 hs')) q2⟩
       refine⟨2*(bs.length-p)+(DM.length+1),by rw[T0.ms,ao,ao];exact aF _,_,rfl,p,
        ⟨λb o e=>k4 b o (Eo b o e) (ag e (T0.ds.f0 s2 (by simp)).1),⟨LS,FU _ _ Ez (ba Lm) (ba (i8 BA B.rd)) (ba (kK ⟨Ih,Cq⟩ B.rd))⟩,B.le⟩,
        .inl ⟨D',⟨s2.a,s2.n,s2.l,s2.as++[s.a],{ s2.d with depth:=max s2.d.depth (s.d.depth+1) },s2.mem++[.node { s.d with fin:=p } s.mem]⟩,DM,⟨?_,⟨?_,?_⟩,?_,?_,by rw[Ht];rfl,by rw[ao],?_,Wr,
         Dn _ (ba Mu) (ba (T0.ds.ng s (by simp))) T0.dg,Dn _ (ba Lm) (ba (i8 Gd B.rd)) T0.dr⟩⟩⟩
       .exact k4 g _ LF (ba P')
       .refine⟨SU,sD _ _ HE.nm,?_,(HE.mem.same sD).snoc (.mk ⟨xs,Da⟩ (sD _ _ hf.nm) Dl (hf.mem.same sD)),?_,?_⟩
        .show G4 s2.l=some (.lst ((s2.as++[s.a]++[]).map V.ref))
         rw[bJ];exact FU _ _ HE.ls (ba (ef ⟨xs,Eg⟩ HE.ls)) (T0.ds.ng s2 (by simp)) (ba (ef ⟨Ih,Cq⟩ HE.ls))
        .show(s2.as++[s.a]).length+0+1<=p
         have:=HE.bd
         rw[ae];simp only[a9]at *;exact this
        .show 1<=max s2.d.depth (s.d.depth+1)
         lia
       .refine Ho.keep (aF _) sD λs' hs'=>?_
        obtain⟨FO,f'⟩:=T0.st.fr s' (by simp[hs'])
        refine⟨λo e=>?_,λo e=>?_⟩
        .refine FU _ o e (λz=>nd.1 (z▸?_)) (ef f'.pt BA) (λz=>Ll.1 (z▸d8 hs'))
         rw[bj];exact aA _ (d8 hs')
        .exact FU _ o e (ba (ef ⟨xs,Eg⟩ f'.ls)) (T0.ds.ng s' (by simp[hs'])) (ba (ef ⟨Ih,Cq⟩ f'.ls))
       .refine⟨nd.2,Lj.2,λs' hs'=>?_,λs' hs'=>?_,λs' hs'=>?_⟩
        .rcases aI.mp hs' with rfl | hs'
         .exact T0.ds.ng s2 (by simp)
         .exact T0.ds.ng s' (by simp[hs'])
        .rcases aI.mp hs' with rfl | hs'
         .exact Sj s2 (by simp)
         .exact Sj s' (by simp[hs'])
        .rcases aI.mp hs' with rfl | hs'
         .exact T0.ds.f0 s2 (by simp)
         .exact T0.ds.f0 s' (by simp[hs'])
       .have:=T0.bot
        rw[bj,bj,gf]at this;exact this
       .have:=T0.dep
        rw[ao,ao]at this;rw[ao];exact cq this
    .
     refine⟨_,rfl,_,.inl ⟨_,SqL.of BA,rfl⟩,cK ?_⟩
     subst eR;obtain⟨LS,Ez⟩:=B.rd
     have US:=B.same.seq hs
     refine⟨_,rfl,fd_ Ez T.cR T.nPl (dO a p) ⟨_,rfl,ex2 a _ ⟨rfl,.inl US,ex2 _ _ ⟨rfl,rfl,_,rfl,?_⟩⟩⟩⟩
     rw[au];dsimp only at q;by_cases Bh:p<bs.length
     .rw[ax Bh]at q;rw[ah (show(p:Int)<(bs.length:Int)from(ciL Bh))];exact c9 ⟨_,rfl,fd_ Ez T.cR T.nPl (dO a p) (ex2 _ _ ⟨rfl,q⟩)⟩
     .rw[ay Bh]at q;rw[ai (show ¬(p:Int)<(bs.length:Int)by lia)]
      exact cK ⟨_,rfl,q m G hw B.same⟩
end
theorem scIB:bq ["row","part"] ["row","part"] (aS sIB):=fs_
theorem ok_IB{f:Addr}{fd:FuncData}(F:Fun K "inner_bytes" "inner_bytes" sIB f fd)(TP:TxP K mg CP):bQ P w K mg base CX0 1 f fd ["row","part"] (xF K CP):=by
 refine F.ok scIB (λvs H Q E h=>?_) (λAY A outer s H vs Q E hr h=>?_)
 .obtain⟨a,m,n,l,d,bs,rfl,_⟩:=h
  rfl
 .obtain⟨a,m,n,l,d,bs,rfl,hs,⟨dx,hm⟩,h1,h2,q⟩:=h
  refine⟨_,aJ (bK (iy jh (pv 0) (gj (a6 (pv 1) rfl)) (gj (a6 (pv 1) rfl)))),?_⟩
  try dsimp only[cW];refine⟨_,rfl,_,rfl,fd_ hm TP.cP TP.nIn rfl ⟨_,rfl,_,rfl,fd_ hm TP.cP TP.nEn rfl ⟨_,rfl,ex2 a _ ⟨rfl,hs,λx hx=>?_⟩⟩⟩⟩
  have e:=jT bs d.ins (d.fin-d.ins) (by lia) (x:=(d.ins:Int)) (y:=(d.fin:Int)) rfl (by lia)
  rw[e];exact q x hx
structure Nd(CP:Addr)(H:Hp)(bs:List UInt8)(m:Addr)(v:Sw.Value)(p np:Nat)(n:List UInt8):Prop where
 tr:mr CP bs H m (Pm.trV v p np n.length)
 at_:Pm.At bs p v
 nm:(bs.drop np).take n.length=n/\np+n.length<=bs.length
 pl:v.plain=true
theorem Nd.same{CP:Addr}{H H':Hp}{bs:List UInt8}{m:Addr}{v:Sw.Value}{p np:Nat}{n:List UInt8}(h:Nd CP H bs m v p np n)(k:bY H H'):Nd CP H' bs m v p np n:=⟨h.tr.same k,h.at_,h.nm,h.pl⟩
theorem Nd.pt{CP:Addr}{H:Hp}{bs:List UInt8}{m:Addr}{v:Sw.Value}{p np:Nat}{n:List UInt8}(h:Nd CP H bs m v p np n) :
  ∃(nl l:Addr)(as:List Addr)(dx:Addr),H nl=some (.lst (n.map bv))/\H m=some (.ins CP dx (pf (Pm.pdOf v p np n.length) nl l))/\H l=some (.lst (as.map V.ref))/\as.length=(Pm.rowOf v).length /\
   ∀(i:Nat)(a:Addr),as[i]? =some a->∃n' w D0,v.member i=some (n',w)/\Nd CP H bs a w (Pm.mplace v p i) D0 n':=by
 have ht:=h.tr
 rw[Pm.trV_eq]at ht;cases ht with
 | mk h1 h0 h2 h3 =>
  rename_i nl l as
  obtain⟨dx,h1⟩:=h1
  have en:u5 bs (Pm.pdOf v p np n.length)=n.map bv:=congrArg (List.map bv) h.nm.1
  refine⟨nl,l,as,dx,by rw[<-en];exact h0,h1,h2,by rw[h3.len,Pm.trM_len],λi a e=>?_⟩
  obtain⟨t,e1,e2⟩:=h3.get e
  rw[Pm.trM_get]at e1;cases em:v.member i with
  | none=>rw[em]at e1;cases e1
  | some x =>
   obtain⟨n',w⟩:=x
   rw[em]at e1;have e1:some (Pm.trV w (Pm.mplace v p i) (if Pm.namedOf v=true then Pm.mplace v p i-n'.length else 0) n'.length)=some t:=e1
   injection e1 with e1;subst e1;obtain⟨a1,a2⟩:=h.at_.mem em
   obtain⟨b1,b2⟩:=Pm.name_of h.pl em
   refine ex3 n' w _ ⟨rfl,e2,a1,?_,Pm.plain_mem h.pl em⟩
   cases hn:Pm.namedOf v with
   | true =>
    obtain⟨c1,c2⟩:=a2 hn
    have:=a1.le
    rw[ax rfl];exact⟨c2,by omega⟩
   | false =>
    rw[ay aT,b1 hn];exact⟨rfl,by simp⟩
theorem Nd.whole{CP:Addr}{H:Hp}{bs:List UInt8}{m:Addr}{v:Sw.Value}(h:mr CP bs H m (Pm.trV v 0 0 0))(e:v.enc=bs)(pl:v.plain=true):Nd CP H bs m v 0 0 [] :=
 ⟨h,by unfold Pm.At;rw[e];exact⟨[],by simp⟩,⟨rfl,by simp⟩,pl⟩
def Ae(K:Fg_):Sp:=λvs H Q ξ=>∃(x:Addr)(b:List UInt8),vs=[.ref x]/\SqL K H x (b.map bv)/\Q (.int ((Sw.ofLe b:Nat):Int)) H
def zX(K:Fg_)(CP:Addr):Sp:=λvs H Q ξ=>∃(a m:Addr)(bs:List UInt8)(z:Int)(p np:Nat)(n:List UInt8),vs=[.ref a,.ref m]/\SqL K H a (bs.map bv)/\Nd CP H bs m (.num z) p np n/\∀H':Hp,bY H H'->Q (.int z) H'
theorem xY:bq ["row","amount","byte"] ["row"] (aS sAO):=fs_
theorem ok_AO{f:Addr}{fd:FuncData}(F:Fun K "amount_of" "amount_of" sAO f fd)(MY:mg "reversed" =none):bQ P w K mg base CX0 1 f fd ["row"] (Ae K):=by
 refine F.ok xY (λvs H Q E h=>?_) (λAY A outer s H vs Q E hr h=>?_)
 .obtain⟨x,b,rfl,_⟩:=h
  rfl
 .obtain⟨x,b,rfl,hs,q⟩:=h
  refine⟨_,az (bE (i:=1) xY.nd rfl (.inl rfl) bb)
   (az (lS PassesOwn.never rfl (rC rfl MY (aa (pv 0) aG)) (fv (i:=2) xY.nd rfl (.inl rfl))
    (aJ (bE (i:=1) xY.nd rfl (.inl rfl) (dI gk (dI we (pv 1) bb) (pv 2)))))
   (aJ (bK (pv 1)))),?_⟩
  try dsimp only[cW];refine⟨_,rfl,ex2 x _ ⟨rfl,hs,yL (xs:=b.map bv) (λi σ H'=>H'=H/\∃(am:Int)(v2:Option V),σ=[some (.ref x),some (.int am),v2]/\am=((Sw.ofLe (b.drop (b.length-i)):Nat):Int)) ⟨rfl,ex2 0 none ⟨rfl,?_⟩⟩ ?_ ?_ ?_⟩⟩
  .rw[Nat.sub_zero,fO];rfl
  .rintro i σ H' _ ⟨rfl,_⟩
   exact hs
  .rintro i y σ H' hi hy ⟨rfl,am,v2,rfl,IM⟩
   rw[au]at hi hy;rw[bt]at hy;have Bh:b.length-1-i<b.length:=by omega
   rw[aO Bh]at hy;have hy:bv b[b.length-1-i]=y:=aV hy
   subst hy;have ed:b.drop (b.length-(i+1))=b[b.length-1-i]::b.drop (b.length-i):=by
    have e1:b.length-(i+1)=b.length-1-i:=by lia
    have e2:b.length-1-i+1=b.length-i:=by lia
    rw[e1,bW Bh,e2]
   generalize b[b.length-1-i]=c at ed;refine⟨_,rfl,ex2 _ _ ⟨rfl,rfl,.inr ⟨by decide,by decide⟩,_,rfl,ex2 _ _ ⟨rfl,rfl,?_⟩⟩⟩
   refine⟨rfl,ex2 _ _ ⟨rfl,?_⟩⟩
   rw[ed];show am*256+(c.toNat:Int)=((c.toNat+256*Sw.ofLe (b.drop (b.length-i)):Nat):Int)
   rw[IM];lia
  .rintro σ H' ⟨rfl,am,v2,rfl,IM⟩
   rw[au,ip,ff]at IM;rw[<-IM]at q;exact⟨_,rfl,q⟩
theorem Am:bq ["row","part","amount","told"] ["row","part"] (aS sNO):=fs_
theorem ok_NO{f HW KR:Addr}{fd Bl HQ:FuncData}(F:Fun K "number_of" "number_of" sNO f fd)(TP:TxP K mg CP)
  (GI:Co P w K mg base CX0 1 HW Bl ["row","part"] (xF K CP) "inner_bytes")
  (GA:Co P w K mg base CX0 1 KR HQ ["row"] (Ae K) "amount_of") :
  bQ P w K mg base CX0 2 f fd ["row","part"] (zX K CP):=by
 refine F.ok Am (λvs H Q E h=>?_) (λAY A outer s H vs Q E hr h=>?_)
 .obtain⟨a,m,bs,z,p,np,n,rfl,_⟩:=h
  rfl
 .obtain⟨a,m,bs,z,p,np,n,rfl,hs,nd,q⟩:=h
  refine⟨_,az (bE (i:=2) Am.nd rfl (.inl rfl) (cj GA hr rfl cM (aa (cj GI hr rfl cM (aa (pv 0) (aa (pv 1) aG))) aG)))
   (az (bE (i:=3) Am.nd rfl (.inl rfl) (dJ cx (pv 0) (dI gk (a6 (pv 1) rfl) bb) (λξ ξ=>rfl)))
   (aJ (bK (kP (bC eN (dI qj (pv 3) bb) bb (bX _)) (eK dF (pv 2)) (pv 2))))),?_⟩
  try dsimp only[cW];obtain⟨nn,l,as,dx,hn,h1,_⟩:=nd.pt
  obtain⟨i1,i2⟩:=nd.at_.inner
  have hle:=nd.at_.le
  obtain⟨c,hc,UU⟩:=nd.at_.sign
  refine⟨_,rfl,_,rfl,ex6 a m nn l _ bs ⟨rfl,hs,⟨dx,h1⟩,by show p+Pm.ioff _<=p+_;exact fT i2 _,hle,λx hx=>?_⟩⟩
  have k1:bY H (upd H x (.lst (((bs.drop (Pm.pdOf (.num z) p np n.length).ins).take ((Pm.pdOf (.num z) p np n.length).fin-(Pm.pdOf (.num z) p np n.length).ins)).map bv))):=λb o e=>(aj (ag e hx)).trans e
  have UE:((bs.drop (Pm.pdOf (.num z) p np n.length).ins).take ((Pm.pdOf (.num z) p np n.length).fin-(Pm.pdOf (.num z) p np n.length).ins))=Pm.inner (.num z):=i1
  refine⟨x,Pm.inner (.num z),rfl,by rw[UE];exact SqL.of aC,?_⟩
  rw[Pm.num_of];refine⟨_,rfl,_,rfl,fd_ (k1 _ _ h1) TP.cP TP.nPl rfl (ex2 _ _ ⟨rfl,rfl,a,_,_,bv c,rfl,rfl,k1.seq hs,jY (show(((p:Nat):Int)+1)=((p+1:Nat):Int)from rfl) (by rw[bt,hc];rfl),?_⟩)⟩
  have e2:((c.toNat:Int) % 2)=((c.toNat % 2:Nat):Int):=rfl
  refine⟨_,rfl,ex2 _ _ ⟨rfl,rfl,(by show(0:Int)<2;decide),rfl,_,rfl,?_⟩⟩
  rw[iC,e2,UU];by_cases hz:z<0
  .rw[ax hz,ah (by decide)]
   refine c9 ⟨_,rfl,_,rfl,?_⟩
   show Q (V.int (-((z.natAbs:Nat):Int))) _
   rw[show -((z.natAbs:Nat):Int)=z by lia]
   exact q _ k1
  .rw[ay hz,ai (by decide)]
   refine cK ⟨_,rfl,?_⟩
   show Q (V.int ((z.natAbs:Nat):Int)) _
   rw[show((z.natAbs:Nat):Int)=z by lia]
   exact q _ k1
theorem exm_mk{K:Fg_}{C T:Addr}{b:Bool}{oc:Value}{od:Option Addr}{cd:ClassData}{sl:Array (Option Value)}(h1:PySem.W.subIn K (.ref T) (.type "BaseException")=some true)(h2:K.lookup T=some ⟨oc,od,.cls cd,sl⟩)(h3:PySem.W.typeIn K (.ref T)=some (.type "type"))
  (h4:PySem.W.subIn K (.ref C) (.ref T)=some b):PySem.W.exmOne K (.ref C) (.ref T)=some b:=by
 unfold PySem.W.exmOne;rw[h1,ax (by decide)]
 unfold PySem.W.kitCls;have hc:PySem.W.clsIn K T=some cd:=by
  unfold PySem.W.clsIn;rw[h2]
 show(if((PySem.W.clsIn K T).isSome&&PySem.W.typeIn K (.ref T)==some (.type "type"))=true then PySem.W.subIn K (.ref C) (.ref T)else none)=some b
 rw[hc,h3,ax (by simp),h4]
def pb(K:Fg_)(U:Addr):Sp:=λvs H Q ξ=>∃(e C fI:Addr)(v:V),vs=[.ref e,v]/\fm K U C fI/\H e=some (XE e C none)/\∀dx,H dx=none->dx≠e->Q .non (upd (upd H dx (XD dx [("answer",v)])) e (XE e C (some dx)))
def aNP:List V->List V:=λξ=>[.int (-5)]
def aLN:List V->List V:=λvs=>.int (-4)::vs
def aNV:List V->List V:=λξ=>[.int (-9)]
theorem scUI:bq ["self","answer"] ["self","answer"] (aS sUI):=fs_
theorem ok_UI{f:Addr}{fd:FuncData}(F:Fun K "__init__" "Refusal.__init__" sUI f fd):bQ P w K mg base CX0 1 f fd ["self","answer"] (pb K U):=by
 refine F.ok scUI (λvs H Q E h=>?_) (λAY A outer s H vs Q E hr h=>?_)
 .obtain⟨e,C,fI,v,rfl,_⟩:=h
  rfl
 .obtain⟨e,C,fI,v,rfl,c,he,q⟩:=h
  refine⟨_,aJ (zd (U:=U) (pv 0) (pv 1) rfl),?_⟩
  try dsimp only[cW];exact⟨_,rfl,_,rfl,e,C,fI,rfl,c,he,λdx h1 h2=>q dx h1 h2⟩
theorem lL{e C a dx:Addr}{H:Hp}{ans:List V}(he:H e=some (XE e C none))(ha:H a=none)(hd:upd H a (.lst ans) dx=none)(ne:dx≠e) :
  let H':=upd (upd (upd H a (.lst ans)) dx (XD dx [("answer",.ref a)])) e (XE e C (some dx))
  H' e=some (XE e C (some dx))/\H' dx=some (XD dx [("answer",.ref a)])/\H' a=some (.lst ans):=by
 have Te:a≠e:=λz=>by rw[z,he]at ha;cases ha
 have Tf:a≠dx:=λz=>by rw[z,aC]at hd;cases hd
 refine⟨aC,?_,?_⟩
 .rw[aj ne];exact aC
 .rw[aj Te,aj Tf];exact aC
theorem scUP:bq ["self"] ["self"] (aS sUP):=fs_
theorem ok_UP{f Cb C fI:Addr}{fd Ci:FuncData}(F:Fun K "__init__" "NoPath.__init__" sUP f fd)(uc:fm K U C fI)(cU:lD K U "__init__" Cb)(mU:mg "Refusal" = some (.ref U))(GU:bQ P w K mg base CX0 1 Cb Ci ["self","answer"] (pb K U))(bU:bZ K Ci ["self","answer"] []) :
  bQ P w K mg base CX0 2 f fd ["self"] (fK C 0 aNP):=by
 refine F.ok scUP (λvs H Q E h=>?_) (λAY A outer s H vs Q E hr h=>?_)
 .obtain ⟨e,rest,rfl,hn,_⟩:=h
  rw [ao,hn]
  rfl
 .obtain ⟨e,rest,rfl,hn,he,q⟩:=h
  obtain rfl:rest=[]:=de.mp hn
  refine ⟨_,aJ (cY (qh rfl mU cU GU hr bU .nil cM (aa (pv 0) (aa (ee (aa (eK dF bb) aG)) aG)))),?_⟩
  try dsimp only [cW]
  refine ⟨_,rfl,_,rfl,(by show 1<=sizeLine;decide),λa ha=>⟨e,C,fI,.ref a,rfl,uc,?_,λdx hd ne=>?_⟩⟩
  .rw [aj (λz=>by rw [<-z,he] at ha;cases ha)]
   exact he
  .obtain ⟨e1,e2,e3⟩:=lL he ha hd ne
   exact q dx a _ ne e1 e2 e3
theorem scUL:bq ["self","leading"] ["self","leading"] (aS sUL):=fs_
theorem ok_UL{f Cb C fI:Addr}{fd Ci:FuncData}(F:Fun K "__init__" "LeadsNowhere.__init__" sUL f fd)(uc:fm K U C fI)(cU:lD K U "__init__" Cb)(mU:mg "Refusal" = some (.ref U))(GU:bQ P w K mg base CX0 1 Cb Ci ["self","answer"] (pb K U))(bU:bZ K Ci ["self","answer"] []) :
  bQ P w K mg base CX0 2 f fd ["self","leading"] (fK C 1 aLN):=by
 refine F.ok scUL (λvs H Q E h=>?_) (λAY A outer s H vs Q E hr h=>?_)
 .obtain ⟨e,rest,rfl,hn,_⟩:=h
  rw [ao,hn]
  rfl
 .obtain ⟨e,rest,rfl,hn,he,q⟩:=h
  obtain ⟨v,rfl⟩:=ln1 hn
  refine ⟨_,aJ (cY (qh rfl mU cU GU hr bU .nil cM (aa (pv 0) (aa (ee (aa (eK dF bb) (aa (pv 1) aG))) aG)))),?_⟩
  try dsimp only [cW]
  refine ⟨_,rfl,_,rfl,_,rfl,(by show 2<=sizeLine;decide),λa ha=>⟨e,C,fI,.ref a,rfl,uc,?_,λdx hd ne=>?_⟩⟩
  .rw [aj (λz=>by rw [<-z,he] at ha;cases ha)]
   exact he
  .obtain ⟨e1,e2,e3⟩:=lL he ha hd ne
   exact q dx a _ ne e1 e2 e3
theorem scUV:bq ["self"] ["self"] (aS sUV):=fs_
theorem ok_UV{f Cb C fI:Addr}{fd Ci:FuncData}(F:Fun K "__init__" "NoValue.__init__" sUV f fd)(uc:fm K U C fI)(cU:lD K U "__init__" Cb)(mU:mg "Refusal" = some (.ref U))(GU:bQ P w K mg base CX0 1 Cb Ci ["self","answer"] (pb K U))(bU:bZ K Ci ["self","answer"] []) :
  bQ P w K mg base CX0 2 f fd ["self"] (fK C 0 aNV):=by
 refine F.ok scUV (λvs H Q E h=>?_) (λAY A outer s H vs Q E hr h=>?_)
 .obtain ⟨e,rest,rfl,hn,_⟩:=h
  rw [ao,hn]
  rfl
 .obtain ⟨e,rest,rfl,hn,he,q⟩:=h
  obtain rfl:rest=[]:=de.mp hn
  refine ⟨_,aJ (cY (qh rfl mU cU GU hr bU .nil cM (aa (pv 0) (aa (ee (aa (eK dF bb) aG)) aG)))),?_⟩
  try dsimp only [cW]
  refine ⟨_,rfl,_,rfl,(by show 1<=sizeLine;decide),λa ha=>⟨e,C,fI,.ref a,rfl,uc,?_,λdx hd ne=>?_⟩⟩
  .rw [aj (λz=>by rw [<-z,he] at ha;cases ha)]
   exact he
  .obtain ⟨e1,e2,e3⟩:=lL he ha hd ne
   exact q dx a _ ne e1 e2 e3
def iD(H:Hp)(v:V):Sw.Step->Prop
 | .index z=>v =.int z
 | .name n=>∃a,v =.ref a/\H a=some (.lst (n.map bv))
def StepN(H H':Hp)(v:V):Sw.Step->Prop
 | .index z=>v =.int z
 | .name n=>∃a,v =.ref a/\H a=none/\H' a=some (.lst (n.map bv))
theorem iD.same{H H':Hp}{v:V}:∀{s:Sw.Step},iD H v s->bY H H'->iD H' v s
 | .index _,h,_=>h
 | .name _,⟨a,e,h⟩,k=>⟨a,e,k _ _ h⟩
inductive dE(H:Hp):List V->List Sw.Step->Prop
 | nil:dE H [] []
 | cons {v:V} {vs:List V} {s:Sw.Step} {l:List Sw.Step}:iD H v s->dE H vs l->dE H (v::vs) (s::l)
theorem dE.len{H:Hp}{vs:List V}{l:List Sw.Step}(h:dE H vs l):vs.length=l.length:=by
 induction h with
 | nil=>rfl
 | cons _ _ ih=>rw[ao,ao,ih]
theorem dE.same{H H':Hp}{vs:List V}{l:List Sw.Step}(h:dE H vs l)(k:bY H H'):dE H' vs l:=by
 induction h with
 | nil=>exact .nil
 | cons h1 _ ih=>exact .cons (h1.same k) ih
theorem dE.get{H:Hp}{vs:List V}{l:List Sw.Step}(h:dE H vs l):∀{i:Nat}{v:V},vs[i]? =some v->∃s,l[i]? =some s/\iD H v s:=by
 induction h with
 | nil=>intro i v e;simp at e
 | cons h1 _ ih =>
  intro i v e;cases i with
  | zero =>
   have e:some _=some v:=e
   injection e with e;subst e;exact⟨_,rfl,h1⟩
  | succ i=>exact ih e
theorem dE.snoc{H:Hp}{vs:List V}{l:List Sw.Step}{v:V}{s:Sw.Step}(h:dE H vs l)(h1:iD H v s):dE H (vs++[v]) (l++[s]):=by
 induction h with
 | nil=>exact .cons h1 .nil
 | cons h2 _ ih=>exact .cons h2 ih
theorem dE.up{H:Hp}{vs:List V}{l:List Sw.Step}{D:Addr}{o:HO}(h:dE H vs l)(hd:∀v∈vs,v≠.ref D):dE (upd H D o) vs l:=by
 induction h with
 | nil=>exact .nil
 | @cons v vs s l h1 _ ih =>
  refine .cons ?_ (ih λv hv=>hd v (aA _ hv))
  cases s with
  | index z=>exact h1
  | name n =>
   obtain⟨a,e,h1⟩:=h1
   refine⟨a,e,?_⟩
   rw[aj (λz=>hd v a7 (by rw[e,z]))]
   exact h1
def uO:Sp:=λvs H Q ξ=>∃(v:V)(s:Sw.Step),vs=[v]/\iD H v s/\Q (.bl (match s with
 | .index _=>true
 | .name _=>false)) H
def zK(K:Fg_)(CP CN:Addr):Sp:=λvs H Q E=>∃(a m:Addr)(bs:List UInt8)(u:Sw.Value)(p np:Nat)(n:List UInt8),vs=[.ref a,.ref m]/\SqL K H a (bs.map bv)/\Nd CP H bs m u p np n /\
 (match Pm.stepV u with
  | some s=>∀(v:V)(H':Hp),bY H H'->StepN H H' v s->Q v H'
  | none=>gp E CN [.int (-5)])
def zL(K:Fg_)(CP CN:Addr):Sp:=λvs H Q E=>∃(a m:Addr)(bs:List UInt8)(u:Sw.Value)(p np:Nat)(n:List UInt8),vs=[.ref a,.ref m]/\SqL K H a (bs.map bv)/\bs.length<=65536/\Nd CP H bs m u p np n /\
 (match Sw.pathOf u with
  | some l=>∀(D:Addr)(ws:List V)(H':Hp),bY H H'->H D=none->H' D=some (.lst ws)->dE H' ws l->(∀b,V.ref b∈ws->H b=none)->Q (.ref D) H'
  | none=>gp E CN [.int (-5)])
def rIsI(K:Fg_):List V->Hp->VK->Prop:=λvs H Q=>∃(x:V)(T:String)(t:Value)(b:Bool),vs=[x,.ty T]/\mq K H x t/\PySem.W.kitOne K t (.type T)=some b/\Q (.bl b) H
theorem rY{X:Cx}:oY X (.builtin "isinstance") (rIsI X.K):=by
 intro pins s σ H xs us Q I r h;obtain⟨x,T,t,b,rfl,ty,ek,q⟩:=h
 cases r with
 | cons r1 rr =>
  cases rr with
  | cons r2 rr =>
   cases rr;cases r2;exact vd I r1 ty ek λtk=>⟨.bl b,H,I.tok _,rfl,q⟩
theorem scIN:bq ["step"] ["step"] (aS sIN):=fs_
theorem ok_IN{f:Addr}{fd:FuncData}(F:Fun K "is_number" "is_number" sIN f fd)(mi:mg "isinstance" =none)(mt:mg "int" =none):bQ P w K mg base CX0 1 f fd ["step"] uO:=by
 refine F.ok scIN (λvs H Q E h=>?_) (λAY A outer s H vs Q E hr h=>?_)
 .obtain⟨v,t,rfl,_⟩:=h
  rfl
 .obtain⟨v,t,rfl,hv,q⟩:=h
  refine⟨_,aJ (bK (ck rY (by rfl) mi boot_isinstance (aa (pv 0) (aa (yk (v:=.ty "int") (u:=.type "int") rfl mt (by decide +kernel) rfl) aG)))),?_⟩
  try dsimp only[cW];cases t with
  | index z =>
   have hv:v =.int z:=hv
   subst hv;exact⟨_,rfl,_,"int",_,true,rfl,.int z,rfl,q⟩
  | name n =>
   obtain⟨a,rfl,ha⟩:=hv
   exact⟨_,rfl,_,"int",_,false,rfl,.lst ha,(by kernel_rfl),q⟩
theorem scRS:bq ["row","part"] ["row","part"] (aS sRS):=fs_
theorem qw{v:Sw.Value}{p np nl:Nat}(c:Nat):decide (((Pm.pdOf v p np nl).kind:Int)=(c:Int))=decide (v.kind=c):=by
 show decide ((v.kind:Int)=(c:Int))=_
 by_cases z:v.kind=c
 .rw[ah z,ah (by lia)]
 .rw[ai z,ai (by lia)]
theorem ok_RS{f HW KF:Addr}{fd Bl EZ Cw:FuncData}(F:Fun K "read_step" "read_step" sRS f fd)(TP:TxP K mg CP)(B:TxB mg CP)(uc:fm K U CN Gp)(Mx:mg "NoPath" =some (.ref CN))
  (GP:bQ P w K mg base CX0 2 Gp Cw ["self"] (fK CN 0 aNP))(bP:bZ K Cw ["self"] [])
  (GI:Co P w K mg base CX0 1 HW Bl ["row","part"] (xF K CP) "inner_bytes")
  (GN:Co P w K mg base CX0 2 KF EZ ["row","part"] (zX K CP) "number_of") :
  bQ P w K mg base (CXF P w) 4 f fd ["row","part"] (zK K CP CN):=by
 refine okX F scRS (λvs H Q E h=>?_) (λAY A outer s H vs Q E hr h=>?_)
 .obtain⟨a,m,bs,u,p,np,n,rfl,_⟩:=h
  rfl
 .obtain⟨a,m,bs,u,p,np,n,rfl,hs,nd,q⟩:=h
  have Bf:cD 1 _:=hr.mono (by decide)
  have Bm:cD 2 _:=hr.mono (by decide)
  refine⟨_,az (cE (bC eN (a6 (pv 1) rfl) (pgi B.k2 rfl) (bX _)) (aJ (bK (cj GN Bm rfl cM (aa (pv 0) (aa (pv 1) aG))))) b7)
   (az (cE (bC eN (a6 (pv 1) rfl) (pgi B.k4 rfl) (bX _)) (aJ (bK (cj GI Bf rfl cM (aa (pv 0) (aa (pv 1) aG))))) b7)
   (aJ (jl uc GP bP rfl hr cN rfl rfl Mx))),?_⟩
  try dsimp only[cW];obtain⟨nn,l,as,dx,hn,h1,_⟩:=nd.pt
  have hle:=nd.at_.le
  obtain⟨i1,i2⟩:=nd.at_.inner
  refine⟨_,rfl,fd_ h1 TP.cP TP.nKi rfl ⟨rfl,_,rfl,?_⟩⟩
  rw[iC,show(2:Int)=((2:Nat):Int)from rfl,qw];by_cases c2:u.kind=2
  .rw[ah c2];cases u with
   | num z=>exact c9 ⟨_,rfl,_,rfl,ex7 a m bs z p np n ⟨rfl,hs,nd,λH' k=>q _ H' k rfl⟩⟩
   | _=>simp[Sw.Value.kind]at c2
  .rw[ai c2];refine cK ⟨_,rfl,fd_ h1 TP.cP TP.nKi rfl ⟨rfl,_,rfl,?_⟩⟩
   rw[iC,show(4:Int)=((4:Nat):Int)from rfl,qw];by_cases c4:u.kind=4
   .rw[ah c4];cases u with
    | text t =>
     refine c9 ⟨_,rfl,_,rfl,ex6 a m nn l _ bs ⟨rfl,hs,⟨dx,h1⟩,by show p+Pm.ioff _<=p+_;exact fT i2 _,hle,λx hx=>?_⟩⟩
     refine q (.ref x) _ (λb o e=>(aj (ag e hx)).trans e) ⟨x,rfl,hx,?_⟩
     rw[aC];show some (HO.lst (((bs.drop (p+Pm.ioff (.text t))).take (p+(Sw.Value.text t).enc.length-(p+Pm.ioff (.text t)))).map bv))=_
     rw[i1];rfl
    | _=>simp[Sw.Value.kind]at c4
   .rw[ai c4];have hn:Pm.stepV u=none:=by
     cases u with
     | num z=>exact aW rfl c2
     | text t=>exact aW rfl c4
     | _=>rfl
    rw[hn]at q;exact cK ⟨rfl,q⟩
theorem Aj:bq ["row","whole","part"] ["row","whole"] (aS sRP):=fs_
theorem tW{σ:St}{H:Hp}{A B:Hp->Prop}(h:A H):zr σ H (λb H3=>if b=true then A H3 else B H3):=by
 show(if true=true then A H else B H)
 rw[ax rfl];exact h
theorem yz{l:List Sw.Value}:∀{i:Nat}{x:Sw.Value},l[i]? =some x->Pm.stepV x=none->l.mapM Pm.stepV=none:=by
 induction l with
 | nil=>intro i x e _;simp at e
 | cons y l ih =>
  intro i x e h;rw[iI];cases i with
  | zero =>
   have e:some y=some x:=e
   injection e with e;subst e;rw[h];rfl
  | succ i =>
   rw[ih e h];cases Pm.stepV y<;>rfl
theorem va{l:List Sw.Value}{li:List Sw.Step}{x:Sw.Value}{s:Sw.Step}(h:l.mapM Pm.stepV=some li)(h1:Pm.stepV x=some s):(l++[x]).mapM Pm.stepV=some (li++[s]):=by
 rw[List.mapM_append,h];show((List.mapM Pm.stepV [x]).bind λys=>some (li++ys))=_
 rw[iI,h1];rfl
theorem j6:∀m:Sw.Row,m.length<=Pm.cntR m
 | .nil=>aX _
 | .cons n v r=>by
  have:=j6 r
  rw[Pm.cntR_cons];show r.length+1<=_
  exact leL (dj _ _) (fF (b8 _ _) this)
theorem pL{u:Sw.Value}(h:u.kind≠5):Sw.pathOf u=none:=by
 cases u<;>first | rfl | exact aW rfl h
theorem pM{u:Sw.Value}(h:u.kind=5):Sw.pathOf u=(Pm.rowVals (Pm.rowOf u)).mapM Pm.stepV:=by
 cases u<;>first | exact Pm.steps_eq _ | (exact aW h (by intro z;cases z))
theorem ok_RP{f Kt:Addr}{fd CM Cw:FuncData}(F:Fun K "read_path" "read_path" sRP f fd)(TP:TxP K mg CP)(B:TxB mg CP)(uc:fm K U CN Gp)(Mx:mg "NoPath" =some (.ref CN))
  (GP:bQ P w K mg base CX0 2 Gp Cw ["self"] (fK CN 0 aNP))(bP:bZ K Cw ["self"] [])
  (GS:Co P w K mg base (CXF P w) 4 Kt CM ["row","part"] (zK K CP CN) "read_step") :
  bQ P w K mg base (CXF P w) 5 f fd ["row","whole"] (zL K CP CN):=by
 refine okX F Aj (λvs H Q E h=>?_) (λAY A outer s H vs Q E hr h=>?_)
 .obtain⟨a,m,bs,u,p,np,n,rfl,_⟩:=h
  rfl
 .obtain⟨a,m,bs,u,p,np,n,rfl,hs,hz,nd,q⟩:=h
  have Bs:cD 3 _:=hr.mono (by decide)
  refine⟨_,az (cE (bC uf (a6 (pv 1) rfl) (pgi B.k5 rfl) (bX _)) (aJ (jl uc GP bP rfl Bs cN rfl rfl Mx)) b7)
   (aJ (bK (lX rfl Aj.nd (kM (a6 (pv 1) rfl)) (jb (own:=[("part",2)]) (by kernel_rfl))
    (λs H C cl fp=>fv (i:=2) Aj.nd rfl (.inl rfl)) (λs H C cl fp=>jR)
    (λs H C cl fp pn xe fl hp=>cj GS hr rfl (oa fl hp) (aa (pv 0) (aa (pv 2) aG)))
    pW rfl ⟨outer,rfl⟩ rfl))),?_⟩
  try dsimp only[cW];obtain⟨nn,l,as,dx,hn,h1,h2,hlen,hm⟩:=nd.pt
  have hle:=nd.at_.le
  have Zh:=Pm.cntV_le u
  have Fg:=j6 (Pm.rowOf u)
  rw[<-Pm.cnt_row]at Fg;refine⟨_,rfl,fd_ h1 TP.cP TP.nKi rfl ⟨rfl,_,rfl,?_⟩⟩
  rw[iC,show(5:Int)=((5:Nat):Int)from rfl,qw];by_cases c5:u.kind=5
  .rw[ah c5];have EC:=pM c5
   refine cK ⟨_,rfl,fd_ h1 TP.cP TP.nMe rfl ⟨l,rfl,⟨_,SqL.of h2⟩,λD hD=>?_⟩⟩
   generalize hv:Pm.rowVals (Pm.rowOf u)=vals at EC;have Ls:vals.length=as.length:=by rw[<-hv,Pm.rowVals_len,hlen]
   refine qu (xs:=as.map V.ref) (λi G=>bY H G/\∃acc li,G D=some (.lst acc)/\acc.length=i/\(vals.take i).mapM Pm.stepV=some li/\dE G acc li/\(∀v∈acc,v≠.ref D)/\∀b,V.ref b∈acc->H b=none) ?_ ?_ ?_ ?_
   .exact⟨λb o e=>(aj (ag e hD)).trans e,[],[],aC,rfl,rfl,.nil,λv hv=>(by cases hv),λb hb=>by cases hb⟩
   .rintro i G _ ⟨k,_⟩
    exact k.seq (SqL.of h2)
   .rintro i x G hx ⟨k,acc,li,EW,B8,Lw,A',BH,D7⟩
    rw[bt]at hx;cases ea:as[i]? with
    | none=>rw[ea]at hx;cases hx
    | some a' =>
     rw[ea]at hx;have hx:some (V.ref a')=some x:=hx
     injection hx with hx;subst hx;obtain⟨n',w',D0,em,PX⟩:=hm i a' ea
     have Rr:vals[i]? =some w':=by
      rw[<-hv,Pm.rowVals_get,<-Pm.member_eq,em];rfl
     refine⟨rfl,tW ?_⟩
     refine⟨_,rfl,_,rfl,ex7 a a' bs w' _ D0 n' ⟨rfl,k.seq hs,PX.same k,?_⟩⟩
     cases es:Pm.stepV w' with
     | none =>
      rw[EC,yz Rr es]at q;exact q
     | some st =>
      intro v G' kG hN
      have Vf:i<as.length:=(aK.mp ea).1
      refine⟨acc,kG _ _ EW,by rw[B8,sizeLine_eq];lia,?_⟩
      have Lu:v≠.ref D/\iD G' v st/\∀b,v =.ref b->H b=none:=by
       cases st with
       | index z =>
        have hN:v =.int z:=hN
        subst hN;exact⟨λz=>V.noConfusion z,rfl,λb z=>V.noConfusion z⟩
       | name nn =>
        obtain⟨b,rfl,hb,Ej⟩:=hN
        refine⟨λz=>?_,⟨b,rfl,Ej⟩,λb' z=>by injection z with z;rw[<-z];exact k.free hb⟩
        injection z with z;rw[z,EW]at hb;cases hb
      refine⟨λb o e=>(aj (ag e hD)).trans (kG b o (k b o e)),acc++[v],li++[st],aC,by rw[ae,B8];rfl,?_,?_,λv' hv'=>?_,λb hb=>(aM.mp hb).elim (D7 b) λz=>Lu.2.2 b (aN.mp z).symm⟩
      .rw[eQ,Rr];exact va Lw es
      .refine dE.up ((A'.same kG).snoc Lu.2.1) λv' hv'=>?_
       rcases aM.mp hv' with hv' | hv'
       .exact BH v' hv'
       .rw[aN.mp hv'];exact Lu.1
      .rcases aM.mp hv' with hv' | hv'
       .exact BH v' hv'
       .rw[aN.mp hv'];exact Lu.1
   .rintro G ⟨k,acc,li,EW,B8,Lw,A',BH,D7⟩
    rw[au,<-Ls,fN]at Lw;rw[EC,Lw]at q;exact q D acc G k hD EW A' D7
  .rw[ai c5];rw[pL c5]at q;exact c9 ⟨rfl,q⟩
def bD(n:List UInt8):PyData:=.list (n.map λc=>.int (c.toNat:Int))
theorem w8{K:Fg_}{H:Hp}:∀n:List UInt8,DpAll K H (n.map bv) (n.map λc=>.int (c.toNat:Int))
 | []=>.nil
 | c::n=>.cons (.int _) (w8 n)
theorem wZ{K:Fg_}{H:Hp}{a:Addr}{n:List UInt8}(h:SqL K H a (n.map bv)):Dp K H (.ref a) (bD n):=.lst h (w8 n)
theorem qv:∀n:List UInt8,PyData.canLayAll0 (n.map λc=>.int (c.toNat:Int))=true
 | []=>rfl
 | c::n=>by
  show(PyData.canLay0 _&&PyData.canLayAll0 (n.map λc=>.int (c.toNat:Int)))=true
  rw[qv n];rfl
theorem qD:∀n:List UInt8,PyData.depthAll (n.map λc=>.int (c.toNat:Int))=0
 | []=>rfl
 | c::n=>by
  show max (PyData.depth _) (PyData.depthAll (n.map λc=>.int (c.toNat:Int)))=0
  rw[qD n];rfl
theorem p4(n:List UInt8):SeqAt.shaped (bD n)=true:=by
 unfold SeqAt.shaped;rw[aE,bw];refine⟨qv n,?_⟩
 show PyData.depthAll (n.map λc=>.int (c.toNat:Int))+1<=64
 rw[qD];decide
theorem wY:∀n k:List UInt8,PyData.eqvAll (n.map λc=>.int (c.toNat:Int)) (k.map λc=>.int (c.toNat:Int))=(n==k)
 | [],[]=>rfl
 | [],_::_=>rfl
 | _::_,[]=>rfl
 | c::n,d::k=>by
  show(PyData.eqv (.int (c.toNat:Int)) (.int (d.toNat:Int))&&PyData.eqvAll (n.map λc=>.int (c.toNat:Int)) (k.map λc=>.int (c.toNat:Int)))=(c==d&&n==k)
  rw[wY n k];congr 1
  show((c.toNat:Int)==(d.toNat:Int))=(c==d)
  by_cases e:c=d
  .subst e;simp
  .have hn:¬c.toNat=d.toNat:=λz=>e (UInt8.toNat_inj.mp z)
   rw[bu.mpr e,bu.mpr (by lia)]
theorem uj:∀(a b:List UInt8),HT.lexB false (fw a) (fw b)=Sw.bytesBefore a b
 | [],[]=>rfl
 | [],_::_=>rfl
 | _::_,[]=>rfl
 | c::a,d::b=>by
  have ih:=uj a b
  show(if(c.toNat:Int)=(d.toNat:Int)then HT.lexB false (fw a) (fw b)else decide ((c.toNat:Int)<(d.toNat:Int)))=(decide (c.toNat<d.toNat)||(c==d&&Sw.bytesBefore a b))
  by_cases e:c=d
  .subst e;rw[ax rfl,ih,ai (cw _),beq_self_eq_true];rfl
  .have hn:¬c.toNat=d.toNat:=λz=>e (UInt8.toNat_inj.mp z)
   rw[ay (by lia),bu.mpr e,fJ,Bool.or_false]
   by_cases hl:c.toNat<d.toNat
   .rw[ah hl,ah (ciL hl)]
   .rw[ai hl,ai (by omega)]
def gQ(K:Fg_)(H:Hp)(m:Addr)(k:Nat)(as:List Addr):Prop:=∃(C dx:Addr)(fs:List (Str×V))(l:Addr),H m=some (.ins C dx fs)/\Cls K C/\dk K C "kind"/\dk K C "members"/\fs.lookup ("kind" :Str)=some (.int (k:Int))/\fs.lookup ("members" :Str)=some (.ref l)/\H l=some (.lst (as.map V.ref))
def uB(K:Fg_)(H:Hp)(m:Addr)(n:List UInt8):Prop:=∃(C dx:Addr)(fs:List (Str×V))(b:Addr),H m=some (.ins C dx fs)/\Cls K C/\dk K C "name"/\fs.lookup ("name" :Str)=some (.ref b)/\H b=some (.lst (n.map bv))
structure Fam(K:Fg_)(R:Hp->Addr->Sw.Value×Nat->Prop):Prop where
 same:∀{H H':Hp}{a:Addr}{x:Sw.Value×Nat},R H a x->bY H H'->R H' a x
 hold:∀{H:Hp}{a:Addr}{x:Sw.Value×Nat},R H a x->∃as:List Addr,gQ K H a x.1.kind as/\as.length=(Pm.rowOf x.1).length/\∀(i:Nat)(a':Addr),as[i]? =some a'->∃n w,x.1.member i=some (n,w)/\uB K H a' n/\R H a' (w,Pm.mplace x.1 x.2 i)
 pl:∀{H:Hp}{a:Addr}{x:Sw.Value×Nat},R H a x->x.1.plain=true
theorem gQ.same{K:Fg_}{H H':Hp}{m:Addr}{k:Nat}{as:List Addr}(h:gQ K H m k as)(s:bY H H'):gQ K H' m k as:=by
 obtain⟨C,dx,fs,l,h1,h2,h3,h4,h5,h6,h7⟩:=h
 exact⟨C,dx,fs,l,s _ _ h1,h2,h3,h4,h5,h6,s _ _ h7⟩
def mNo(u:Sw.Value)(s:Sw.Step):Int:=match u.memberOf s with
 | some i=>(i:Int)
 | none=>-1
theorem iZ:∀(m:Sw.Row)(i:Nat),m.names[i]? =(m.get? i).map λ(x:Sw.Bytes×Sw.Value)=>x.1
 | .nil,i=>rfl
 | .cons n v r,0=>rfl
 | .cons n v r,i+1=>iZ r i
def qL(K:Fg_)(H:Hp)(as:List Addr)(ns:List (List UInt8)):Prop:=as.length=ns.length/\∀(i:Nat)(a:Addr)(n:List UInt8),as[i]? =some a->ns[i]? =some n->uB K H a n
def xK(K:Fg_):Sp:=λvs H Q ξ=>∃(m b:Addr)(k:Nat)(as:List Addr)(ns:List (List UInt8))(n:List UInt8),vs=[.ref m,.ref b]/\gQ K H m k as/\qL K H as ns/\Sw.rising ns=true/\H b=some (.lst (n.map bv))/\Q (.int (((ns.filter λx=>Sw.bytesBefore x n).length:Nat):Int)) H
def vP(K:Fg_):Sp:=λvs H Q ξ=>∃(R:Hp->Addr->Sw.Value×Nat->Prop)(m:Addr)(v:V)(x:Sw.Value×Nat)(s:Sw.Step),vs=[.ref m,v]/\Fam K R/\R H m x/\iD H v s/\Q (.int (mNo x.1 s)) H
theorem uP:bq ["holder","name","before","end","middle"] ["holder","name"] (aS sCB):=fs_
theorem ok_CB{f:Addr}{fd:FuncData}(F:Fun K "count_before" "count_before" sCB f fd)(len:mg "len" =none):bQ P w K mg base CX0 1 f fd ["holder","name"] (xK K):=by
 refine F.ok uP (λvs H Q E h=>?_) (λAY A outer s H vs Q E hr h=>?_)
 .obtain⟨m,b,k,as,ns,n,rfl,_⟩:=h
  rfl
 .obtain⟨m,b,k,as,ns,n,rfl,⟨C,dx,fs,l,h1,hC,hk,DR,ek,DW,hl⟩,⟨hlen,DC⟩,Ey,hb,q⟩:=h
  refine⟨_,az (bE (i:=2) uP.nd rfl (.inl rfl) bb)
   (az (bE (i:=3) uP.nd rfl (.inl rfl) (ck cB (by rfl) len bo (aa (a6 (pv 0) rfl) aG)))
   (az (iV PassesOwn.never (bC jw (pv 2) (pv 3) (bX _))
    (az (bE (i:=4) uP.nd rfl (.inl rfl) (dI qk (dI gk (pv 2) (pv 3)) bb))
    (aJ (cE (bC (wg false hr.units0) (a6 (dJ cx (a6 (pv 0) rfl) (pv 4) (λξ ξ=>rfl)) rfl) (pv 1) (bX _))
     (aJ (bE (i:=2) uP.nd rfl (.inl rfl) (dI gk (pv 4) bb)))
     (aJ (bE (i:=3) uP.nd rfl (.inl rfl) (pv 4)))))))
   (aJ (bK (pv 2))))),?_⟩
  try dsimp only[cW];refine⟨_,rfl,ex5 m C dx fs _ ⟨rfl,h1,hC,DR,DW,l,_,rfl,.inl (SqL.of hl),?_⟩⟩
  rw[au,hlen];refine⟨λt σ G=>G=H/\∃(bf en:Nat)(v4:Option V),σ=[some (.ref m),some (.ref b),some (.int (bf:Int)),some (.int (en:Int)),v4]/\bf<=en/\en<=ns.length/\t=en-bf/\(∀j x,j<bf->ns[j]? =some x->Sw.bytesBefore x n=true)/\(∀j x,en<=j->ns[j]? =some x->Sw.bytesBefore x n=false),⟨ns.length,rfl,ex3 0 ns.length none ⟨rfl,aX _,aF _,rfl,λj x hj=>aW hj (dA _),λj x hj e=>?_⟩⟩,?_⟩
  .rw[cv.mpr hj]at e;cases e
  .rintro t σ G ⟨rfl,bf,en,v4,rfl,FG,LG,rfl,lo,hi⟩
   refine⟨_,rfl,_,rfl,ex2 _ _ ⟨rfl,rfl,_,rfl,?_⟩⟩
   by_cases c:bf<en
   .rw[ah (show((bf:Nat):Int)<((en:Nat):Int)from(ciL c))];refine c9 ⟨_,λσ' G' h=>h,?_⟩
    refine⟨_,rfl,_,rfl,ex2 _ _ ⟨rfl,rfl,ex2 _ _ ⟨rfl,rfl,⟨by decide,by decide⟩,?_⟩⟩⟩
    have FL:(((bf:Nat):Int)+((en:Nat):Int)) / 2=(((bf+en) / 2:Nat):Int):=rfl
    generalize U':(bf+en) / 2=mid at FL;have BD:bf<=mid:=by lia
    have CG:mid<en:=by lia
    obtain⟨a',ea⟩:∃a',as[mid]? =some a':=⟨_,aO (by lia)⟩
    obtain⟨x,ex⟩:∃x,ns[mid]? =some x:=⟨_,aO (aR CG LG)⟩
    obtain⟨C',Cc,Di,b',NS,NR,Eh,N9,Ej⟩:=DC mid a' x ea ex
    have IL:atI (as.map V.ref) (((mid:Nat):Int))=some (V.ref a'):=iN (by rw[bt,ea];rfl)
    refine⟨_,rfl,ex5 m C dx fs _ ⟨rfl,h1,hC,DR,DW,_,rfl,l,_,_,V.ref a',rfl,rfl,SqL.of hl,(by rw[FL];exact IL),a',C',Cc,Di,_,rfl,NS,NR,Eh,N9,?_⟩⟩
    refine⟨_,rfl,b',b,fw x,fw n,rfl,rfl,by rw[<-lq];exact Ej,by rw[<-lq];exact hb,_,rfl,?_⟩
    rw[uj];cases QR:Sw.bytesBefore x n with
    | true =>
     refine c9 ⟨_,rfl,ex2 _ _ ⟨rfl,rfl,en-(mid+1),by omega,rfl,mid+1,en,some (V.int ((((bf:Nat):Int)+((en:Nat):Int)) / 2)),?_,CG,LG,rfl,Pm.half_low Ey ex QR,hi⟩⟩
     show[some (V.ref m),some (V.ref b),some (V.int ((((bf:Nat):Int)+((en:Nat):Int)) / 2+1)),some (V.int (en:Int)),some (V.int ((((bf:Nat):Int)+((en:Nat):Int)) / 2))]=_
     rw[FL];rfl
    | false =>
     refine cK ⟨_,rfl,mid-bf,by omega,rfl,bf,mid,some (V.int ((((bf:Nat):Int)+((en:Nat):Int)) / 2)),?_,BD,(cq (aR CG LG)),rfl,lo,Pm.half_high Ey ex QR⟩
     show[some (V.ref m),some (V.ref b),some (V.int (bf:Int)),some (V.int ((((bf:Nat):Int)+((en:Nat):Int)) / 2)),some (V.int ((((bf:Nat):Int)+((en:Nat):Int)) / 2))]=_
     rw[FL]
   .rw[ai (show ¬((bf:Nat):Int)<((en:Nat):Int)by lia)]
    have Wj:bf=en:=(cu FG (bg c))
    subst Wj;rw[Pm.cnt_split LG lo hi]at q;exact cK ⟨_,rfl,q⟩
theorem scFM:bq ["holder","step","i"] ["holder","step"] (aS sFM):=fs_
theorem ok_FM{f E3 Ia:Addr}{fd Bl E2:FuncData}(F:Fun K "find_member" "find_member" sFM f fd)(k5:GI mg "LIST" 5)(k6:GI mg "RECORD" 6)(nm:GI mg "NO_MEMBER" (-1))(len:mg "len" =none)
  (GI:Co P w K mg base CX0 1 E3 Bl ["step"] uO "is_number")
  (GC:Co P w K mg base CX0 1 Ia E2 ["holder","name"] (xK K) "count_before") :
  bQ P w K mg base CX0 2 f fd ["holder","step"] (vP K):=by
 refine F.ok scFM (λvs H Q E h=>?_) (λAY A outer s H vs Q E hr h=>?_)
 .obtain⟨R,m,v,x,st,rfl,_⟩:=h
  rfl
 .obtain⟨R,m,v,⟨u,p⟩,st,rfl,FM,hR,hv,q⟩:=h
  have hu:(A.deeper (envOfC "find_member" (aS sFM) s.heap.objs.size f AY)).units+64<cLine:=by
   have:=hr.un
   lia
  refine⟨_,az (cE (nX (cj GI hr rfl cM (aa (pv 1) aG)))
    (aJ (bK (kP (PW.pt (j7 (bC eN (a6 (pv 0) rfl) (pgi k5 rfl) (bX _)) (jk (kL jE jw bb (pv 1) (ck cB (by rfl) len bo (aa (a6 (pv 0) rfl) aG)))))) (pv 1) (pgi nm rfl)))) b7)
   (az (cE (bC eN (a6 (pv 0) rfl) (pgi k6 rfl) (bX _))
    (az (bE (i:=2) scFM.nd rfl (.inl rfl) (cj GC hr rfl cM (aa (pv 0) (aa (pv 1) aG))))
    (aJ (cE (PW.pt (j7 (bC jw (pv 2) (ck cB (by rfl) len bo (aa (a6 (pv 0) rfl) aG)) (bX _)) (jk (bC (wj hu) (a6 (dJ cx (a6 (pv 0) rfl) (pv 2) (λξ ξ=>rfl)) rfl) (pv 1) (bX _)))))
     (aJ (bK (pv 2))) b7))) b7)
   (aJ (bK (pgi nm rfl)))),?_⟩
  try dsimp only[cW];obtain⟨as,hH,hlen,hm⟩:=FM.hold hR
  have Bn:u.plain=true:=FM.pl hR
  obtain⟨C,dx,fs,l,h1,hC,hk,DR,ek,DW,hl⟩:=hH
  dsimp only at q hlen hm ek;refine⟨_,rfl,ex2 v st ⟨rfl,hv,_,rfl,?_⟩⟩
  cases st with
  | index z =>
   have hv:v =.int z:=hv
   subst hv;refine c9 ⟨_,rfl,ex5 m C dx fs _ ⟨rfl,h1,hC,hk,ek,rfl,_,rfl,?_⟩⟩
   rw[iC];by_cases c5:u.kind=5
   .rw[ah (show((u.kind:Nat):Int)=5 by lia)]
    cases u with
    | list r =>
     refine c9 ⟨_,rfl,ex2 _ _ ⟨rfl,rfl,_,rfl,?_⟩⟩
     have EK:mNo (.list r) (.index z)=if 0<=z/\z<(r.length:Int)then z else -1:=by
      show(match (if 0<=z/\z<(r.length:Int)then some z.toNat else none)with
       | some i=>(i:Int)
       | none=>-1)=_
      by_cases c:0<=z/\z<(r.length:Int)
      .rw[ax c,ax c];show((z.toNat:Nat):Int)=z
       lia
      .rw[ay c,ay c]
     rw[EK]at q;have hlen:as.length=r.length:=hlen
     by_cases c0:0<=z
     .rw[ah c0];refine c9 ⟨_,rfl,ex5 m C dx fs _ ⟨rfl,h1,hC,DR,DW,l,_,rfl,.inl (SqL.of hl),ex2 _ _ ⟨rfl,rfl,_,rfl,?_⟩⟩⟩
      rw[au,hlen];by_cases c1:z<(r.length:Int)
      .rw[ah c1];rw[ax ⟨c0,c1⟩]at q;exact c9 ⟨_,rfl,q⟩
      .rw[ai c1];rw[ay (λy=>c1 y.2)]at q
       exact cK q
     .rw[ai c0];rw[ay (λy=>c0 y.1)]at q
      exact cK ⟨_,rfl,cK q⟩
    | _=>simp[Sw.Value.kind]at c5
   .rw[ai (show ¬((u.kind:Nat):Int)=5 by lia)]
    have EK:mNo u (.index z) =-1:=by
     cases u<;>first | rfl | exact aW rfl c5
    rw[EK]at q;exact cK (cK q)
  | name k =>
   obtain⟨b,rfl,hb⟩:=hv
   refine cK ⟨_,rfl,ex5 m C dx fs _ ⟨rfl,h1,hC,hk,ek,rfl,_,rfl,?_⟩⟩
   rw[iC];by_cases c6:u.kind=6
   .rw[ah (show((u.kind:Nat):Int)=6 by lia)]
    cases u with
    | rec_ r =>
     have Ey:=Pm.rec_rising Bn
     have hlen:as.length=r.length:=hlen
     have E9:r.names.length=as.length:=by rw[Pm.names_len,hlen]
     have IA:qL K H as r.names:=⟨E9.symm,λi a' n' ea en=>by
      obtain⟨n2,w,em,DC,_⟩:=hm i a' ea
      have em:r.get? i=some (n2,w):=em
      rw[iZ,em]at en;have en:some n2=some n':=en
      injection en with en;rw[<-en];exact DC⟩
     refine c9 ⟨_,rfl,_,rfl,ex6 m b 6 as r.names k ⟨rfl,⟨C,dx,fs,l,h1,hC,hk,DR,ek,DW,hl⟩,IA,Ey,hb,?_⟩⟩
     have EK:mNo (.rec_ r) (.name k)=match r.names.findIdx? (λx=>x==k)with
      | some i=>(i:Int)
      | none=>-1:=rfl
     rw[EK,Pm.find_cnt Ey k]at q;generalize (r.names.filter λx=>Sw.bytesBefore x k).length=c at q
     refine⟨_,rfl,_,rfl,ex5 m C dx fs _ ⟨rfl,h1,hC,DR,DW,l,_,rfl,.inl (SqL.of hl),ex2 _ _ ⟨rfl,rfl,_,rfl,?_⟩⟩⟩
     rw[au];by_cases hc:c<as.length
     .rw[ah (show((c:Nat):Int)<((as.length:Nat):Int)from(ciL hc))];obtain⟨a',ea⟩:∃a',as[c]? =some a':=⟨_,aO hc⟩
      obtain⟨n',en⟩:∃n',r.names[c]? =some n':=⟨_,aO (aR hc (leL E9 (aF _)))⟩
      obtain⟨C',Cc,Di,b',NS,NR,Eh,N9,Ej⟩:=IA.2 c a' n' ea en
      refine c9 ⟨_,rfl,ex5 m C dx fs _ ⟨rfl,h1,hC,DR,DW,_,rfl,l,_,_,V.ref a',rfl,rfl,SqL.of hl,iN (by rw[bt,ea];rfl),a',C',Cc,Di,_,rfl,NS,NR,Eh,N9,?_⟩⟩
      refine⟨_,rfl,bD n',bD k,wZ (SqL.of Ej),wZ (SqL.of hb),p4 n',p4 k,_,rfl,?_⟩
      rw[show PyData.eqv (bD n') (bD k)=(n'==k)from wY n' k];rw[en]at q;by_cases e:n'=k
      .rw[e,beq_self_eq_true];rw[e,ax rfl]at q;exact c9 ⟨_,rfl,q⟩
      .rw[bu.mpr e];rw[ay (λz=>e (aV z))]at q
       exact cK q
     .rw[ai (show ¬((c:Nat):Int)<((as.length:Nat):Int)by lia)]
      rw[cv.mpr (show r.names.length<=c by lia),ay (λz=>nomatch z)]at q
      exact cK (cK q)
    | _=>simp[Sw.Value.kind]at c6
   .rw[ai (show ¬((u.kind:Nat):Int)=6 by lia)]
    have EK:mNo u (.name k) =-1:=by
     cases u<;>first | rfl | exact aW rfl c6
    rw[EK]at q;exact cK q
inductive TrA(R:Addr->Sw.Value×Nat->Prop):List Addr->List (Sw.Value×Nat)->Prop
 | nil:TrA R [] []
 | cons {a:Addr} {as:List Addr} {x:Sw.Value×Nat} {xs:List (Sw.Value×Nat)}:R a x->TrA R as xs->TrA R (a::as) (x::xs)
theorem TrA.len{R:Addr->Sw.Value×Nat->Prop}{as:List Addr}{xs:List (Sw.Value×Nat)}(h:TrA R as xs):as.length=xs.length:=by
 induction h with
 | nil=>rfl
 | cons _ _ ih=>rw[ao,ao,ih]
theorem TrA.snoc{R:Addr->Sw.Value×Nat->Prop}{as:List Addr}{xs:List (Sw.Value×Nat)}{a:Addr}{x:Sw.Value×Nat}(h:TrA R as xs)(h1:R a x):TrA R (as++[a]) (xs++[x]):=by
 induction h with
 | nil=>exact .cons h1 .nil
 | cons h2 _ ih=>exact .cons h2 ih
theorem TrA.at_{R:Addr->Sw.Value×Nat->Prop}{as:List Addr}{xs:List (Sw.Value×Nat)}(h:TrA R as xs):∀{i:Nat}{x:Sw.Value×Nat},xs[i]? =some x->∃a,as[i]? =some a/\R a x:=by
 induction h with
 | nil=>intro i x e;simp at e
 | cons h1 _ ih =>
  intro i x e;cases i with
  | zero =>
   have e:some _=some x:=e
   injection e with e;subst e;exact⟨_,rfl,h1⟩
  | succ i=>exact ih e
theorem TrA.last{R:Addr->Sw.Value×Nat->Prop}{as:List Addr}{xs:List (Sw.Value×Nat)}{x:Sw.Value×Nat}(h:TrA R as xs)(e:xs.getLast? =some x):∃Gu a,as=Gu++[a]/\R a x:=by
 rw[cO]at e;obtain⟨a,ea,hn⟩:=h.at_ e
 rw[<-h.len,<-cO]at ea;obtain⟨Gu,e'⟩:=List.getLast?_eq_some_iff.mp ea
 exact⟨Gu,a,e',hn⟩
def kr(K:Fg_)(H:Hp)(v:Sw.Value)(l:List Sw.Step)(as:List Addr):Prop:=∀(i:Nat)(a':Addr),as[i+1]? =some a' ->
 ∃(h:Addr)(k:Nat)(ms:List Addr)(y:Sw.Value×Nat)(st:Sw.Step)(j:Nat),as[i]? =some h/\(Pm.trail (v,0) l)[i]? =some y/\l[i]? =some st/\y.1.memberOf st=some j/\gQ K H h k ms/\ms[j]? =some a'
theorem kr.snoc{K:Fg_}{H:Hp}{v:Sw.Value}{l:List Sw.Step}{as:List Addr}{h a:Addr}{k j:Nat}{ms:List Addr}{y:Sw.Value×Nat}{st:Sw.Step}(L:kr K H v l as){i:Nat}(hl:as.length=i+1)(e1:as[i]? =some h)(e2:(Pm.trail (v,0) l)[i]? =some y)(e3:l[i]? =some st)(e4:y.1.memberOf st=some j)(e5:gQ K H h k ms)(e6:ms[j]? =some a):kr K H v l (as++[a]):=by
 intro i' a' e
 by_cases c:i'+1<as.length
 .rw[cg c]at e;obtain⟨h',k',Iv,y',Ck,j',f1,f⟩:=L i' a' e
  exact⟨h',k',Iv,y',Ck,j',by rw[cg (cq c)];exact f1,f⟩
 .have hi:i'=i:=by
   have:=(aK.mp e).1
   rw[ae,a9]at this;lia
  subst hi;rw[fG (fM hl),show i'+1-as.length=0 from(gE (leL hl (aF _)))]at e;have e:some a=some a':=e
  injection e with e;subst e;exact⟨h,k,ms,y,st,j,by rw[cg (leL hl (aF _))];exact e1,e2,e3,e4,e5,e6⟩
def vO(K:Fg_):Sp:=λvs H Q ξ=>∃(R:Hp->Addr->Sw.Value×Nat->Prop)(m d:Addr)(v:Sw.Value)(ws:List V)(l:List Sw.Step),vs=[.ref m,.ref d]/\Fam K R/\R H m (v,0)/\H d=some (.lst ws)/\dE H ws l/\l.length<=65536 /\
 ∀(g:Addr)(as:List Addr)(H':Hp),bY H H'->H g=none->H' g=some (.lst (as.map V.ref))->TrA (R H) as (Pm.trail (v,0) l)->kr K H v l as->as[0]? =some m->Q (.ref g) H'
theorem vU:bq ["whole","steps","trail","step","holder","i"] ["whole","steps"] (aS sFW):=fs_
theorem ok_FW{f FK:Addr}{fd DI:FuncData}(F:Fun K "follow" "follow" sFW f fd)(nm:GI mg "NO_MEMBER" (-1))
  (GM:Co P w K mg base CX0 2 FK DI ["holder","step"] (vP K) "find_member") :
  bQ P w K mg base CX0 3 f fd ["whole","steps"] (vO K):=by
 refine F.ok vU (λvs H Q E h=>?_) (λAY A outer s H vs Q E hr h=>?_)
 .obtain⟨R,m,d,v,ws,l,rfl,_⟩:=h
  rfl
 .obtain⟨R,m,d,v,ws,l,rfl,FM,nd,hd,A',hl,q⟩:=h
  refine⟨_,az (bE (i:=2) vU.nd rfl (.inl rfl) (ee (aa (pv 0) aG)))
   (az (lS PassesOwn.never rfl (kM (pv 1)) (fv (i:=3) vU.nd rfl (.inl rfl))
    (az (bE (i:=4) vU.nd rfl (.inl rfl) (dJ cx (pv 2) (eK dF bb) (λξ ξ=>rfl)))
    (az (bE (i:=5) vU.nd rfl (.inl rfl) (cj GM hr rfl cM (aa (pv 4) (aa (pv 3) aG))))
    (az (cE (bC eN (pv 5) (pgi nm rfl) (bX _)) (aJ (bK (pv 2))) b7)
    (aJ (cY (iW bp PySem.F.slot_list_append PySem.F.type_list_append i7 (pv 2) (aa (dJ cx (a6 (pv 4) rfl) (pv 5) (λξ ξ=>rfl)) aG))))))))
   (aJ (bK (pv 2)))),?_⟩
  try dsimp only[cW];refine⟨_,rfl,(by show 1<=sizeLine;decide),λg hg=>?_⟩
  have k0:bY H (upd H g (.lst [.ref m])):=λb o e=>(aj (ag e hg)).trans e
  have BS:=A'.len
  refine⟨_,rfl,d,rfl,⟨_,SqL.of (k0 _ _ hd)⟩,rS (xs:=ws) (λi σ G=>bY H G/\∃(as:List Addr)(v4 v5 v6:Option V),σ=[some (.ref m),some (.ref d),some (.ref g),v4,v5,v6]/\G g=some (.lst (as.map V.ref))/\(Pm.trail (v,0) (l.take i)).length=i+1/\TrA (R H) as (Pm.trail (v,0) (l.take i))/\kr K H v l as/\as[0]? =some m) ?_ ?_ ?_ ?_⟩
  .refine⟨k0,[m],none,none,none,rfl,aC,?_,?_,(λi a' e=>by cases i<;>simp at e),rfl⟩
   .rw[eD];unfold Pm.trail;rfl
   .rw[eD];unfold Pm.trail;exact .cons nd .nil
  .rintro i σ G _ ⟨k,_⟩
   exact SqL.of (k _ _ hd)
  .rintro i x σ G hx ⟨k,as,v4,v5,v6,rfl,BA,BG,D4,Df,Dd⟩
   obtain⟨st,el,JF⟩:=A'.get hx
   have Fe:i<l.length:=(aK.mp el).1
   cases Be:(Pm.trail (v,0) (l.take i)).getLast? with
   | none=>exact aW (bz.mp Be) (Pm.trail_ne _ _)
   | some y =>
    obtain⟨Gu,a',LQ,PV⟩:=D4.last Be
    have JC:(l.take i).length=i:=by rw[aP];lia
    have CC:∀r,Pm.trail (v,0) (l.take i++st::r)=Pm.trail (v,0) (l.take i)++(match Pm.go y st with
      | none=>[]
      | some z=>Pm.trail z r):=λr=>Pm.trail_snoc (l.take i) (v,0) y st r (by rw[BG,JC]) Be
    have JY:l=l.take i++st::l.drop (i+1):=by
     have:=du i l
     rw[bW Fe]at this;rw[(aK.mp el).2]at this;exact this.symm
    refine⟨_,rfl,_,rfl,g,_,_,V.ref a',rfl,rfl,SqL.of BA,by rw[LQ,aQ];exact fD _ _,?_⟩
    refine⟨_,rfl,_,rfl,ex5 R a' x y st ⟨rfl,FM,FM.same PV k,JF.same k,?_⟩⟩
    refine⟨_,rfl,rfl,_,rfl,?_⟩
    rw[iC];unfold mNo;cases KZ:y.1.memberOf st with
    | none =>
     have IG:Pm.go y st=none:=Pm.go_no KZ
     show(if decide ((-1:Int) =-1)=true then _ else _)
     rw[ah rfl];refine c9 ⟨_,rfl,q g as G k hg BA ?_ Df Dd⟩
     rw[JY,CC,IG,bJ];exact D4
    | some j =>
     obtain⟨z,em⟩:=Pm.member_some (Pm.memberOf_lt KZ)
     obtain⟨nz,wz⟩:=z
     have IG:Pm.go y st=some (wz,Pm.mplace y.1 y.2 j):=Pm.go_of KZ em
     show(if decide (((j:Nat):Int) =-1)=true then _ else _)
     rw[ai (Int.ne_of_gt (cV _))];obtain⟨K7,⟨C,dy,fs,ly,Qh,hC,Ve,DR,ek,DW,MH⟩,JA,UI⟩:=FM.hold PV
     have Fc:j<K7.length:=by rw[JA];exact Pm.memberOf_lt KZ
     obtain⟨n2,K9,IX,_,Ll⟩:=UI j K7[j] (aO Fc)
     have ew:K9=wz:=by
      rw[em]at IX;injection IX with IX;injection IX with _ IX;exact IX.symm
     subst ew;have BU:=D4.len
     refine cK ⟨_,rfl,.inl ⟨rfl,_,SqL.of BA⟩,_,rfl,ex5 a' C dy fs _ ⟨rfl,k _ _ Qh,hC,DR,DW,_,rfl,ly,_,_,V.ref K7[j],rfl,rfl,SqL.of (k _ _ MH),iN (by rw[bt,aO Fc];rfl),g,ex2 _ _ ⟨rfl,rfl,BA,by rw[au,BU,BG,sizeLine_eq];lia,?_⟩⟩⟩
     have Vn:∀b o,H b=some o->b≠g:=λb o e=>ag e hg
     have k2:bY H (upd G g (.lst (as.map V.ref++[V.ref K7[j]]))):=λb o e=>(aj (Vn b o e)).trans (k b o e)
     have UJ:(Pm.trail (v,0) l)[i]? =some y:=by
      rw[JY,CC,cg (by rw[BG];exact aF _)]
      rw[cO,BG]at Be;exact Be
     have VD:as[i]? =some a':=by rw[LQ,fG (by have:=congrArg List.length LQ;rw[ae,a9,BU,BG]at this;exact bA (leL this (aF _)))];have:=congrArg List.length LQ;rw[ae,a9,BU,BG]at this;rw[show i-Gu.length=0 by lia];rfl
     refine⟨k2,as++[K7[j]],_,_,_,rfl,?_,?_,?_,Df.snoc (by rw[BU,BG]) VD UJ el KZ ⟨C,dy,fs,ly,Qh,hC,Ve,DR,ek,DW,MH⟩ (aO Fc),?_⟩
     .rw[aC,aQ];rfl
     .rw[eQ,el];show(Pm.trail (v,0) (l.take i++[st])).length=_
      rw[CC,IG,ae,BG];unfold Pm.trail;rfl
     .rw[eQ,el];show TrA (R H) _ (Pm.trail (v,0) (l.take i++[st]))
      rw[CC,IG];have ez:Pm.trail (K9,Pm.mplace y.1 y.2 j) []=[(K9,Pm.mplace y.1 y.2 j)]:=by unfold Pm.trail;rfl
      show TrA (R H) _ (_++Pm.trail (K9,Pm.mplace y.1 y.2 j) [])
      rw[ez];exact D4.snoc Ll
     .rw[cg (by rw[BU,BG];exact a8 _ _)]
      exact Dd
  .rintro σ G ⟨k,as,v4,v5,v6,rfl,BA,BG,D4,Df,Dd⟩
   rw[BS,fN]at D4;exact⟨_,rfl,q g as G k hg BA D4 Df Dd⟩
def vM:Sp:=λvs H Q ξ=>∃n:Nat,vs=[.int (n:Int)]/\n<34359738368/\∀(x:Addr)(H':Hp),bY H H'->H x=none->H' x=some (.lst ((Sw.vary n).map bv))->Q (.ref x) H'
theorem xP:bq ["amount","row","left"] ["amount"] (aS sVR):=fs_
theorem ok_VR{f:Addr}{fd:FuncData}(F:Fun K "vary_row" "vary_row" sVR f fd):bQ P w K mg base CX0 1 f fd ["amount"] vM:=by
 refine F.ok xP (λvs H Q E h=>?_) (λAY A outer s H vs Q E hr h=>?_)
 .obtain⟨n,rfl,_⟩:=h
  rfl
 .obtain⟨n,rfl,hn,q⟩:=h
  refine⟨_,az (bE (i:=1) xP.nd rfl (.inl rfl) (ee aG))
   (az (bE (i:=2) xP.nd rfl (.inl rfl) (pv 0))
   (az (iV PassesOwn.never (bC ze (pv 2) bb (bX _))
    (az (cY (iW bp PySem.F.slot_list_append PySem.F.type_list_append i7 (pv 1) (aa (dI gk (dI qj (pv 2) bb) bb) aG)))
    (aJ (bE (i:=2) xP.nd rfl (.inl rfl) (dI qk (pv 2) bb)))))
   (az (cY (iW bp PySem.F.slot_list_append PySem.F.type_list_append i7 (pv 1) (aa (pv 2) aG)))
   (aJ (bK (pv 1)))))),?_⟩
  try dsimp only[cW];refine⟨(by show 0<=sizeLine;decide),λx hx=>?_⟩
  refine⟨_,rfl,λm σ G=>∃(acc:List UInt8)(left:Nat),σ=[some (.int (n:Int)),some (.ref x),some (.int (left:Int))]/\bY H G/\G x=some (.lst (acc.map bv))/\acc++Sw.vary left=Sw.vary n/\m=left,ex3 n [] n ⟨rfl,λb o e=>(aj (ag e hx)).trans e,aC,rfl,rfl⟩,?_⟩
  rintro m σ G ⟨acc,left,rfl,k,hG,hv,hm⟩
  have JH:=jP (n:=n) hn
  have BU:acc.length+(Sw.vary left).length=(Sw.vary n).length:=by rw[<-hv,ae]
  have QS:acc.length<sizeLine:=by rw[sizeLine_eq];lia
  refine⟨_,rfl,ex2 _ _ ⟨rfl,rfl,_,rfl,?_⟩⟩
  by_cases c:left<128
  .rw[ai (show ¬((128:Int)<=((left:Nat):Int))from(Int.not_le_of_gt (ciL c)))];refine cK ⟨_,rfl,.inl ⟨rfl,_,SqL.of hG⟩,_,rfl,ex3 x _ _ ⟨rfl,rfl,hG,by rw[au];exact QS,_,rfl,?_⟩⟩
   refine q x _ (λb o e=>(aj (ag e hx)).trans (k b o e)) hx ?_
   rw[aC,<-hv,jO c,aQ];show _=some (HO.lst (acc.map bv++[bv (UInt8.ofNat left)]))
   rw[wU (aR c (a8 _ _))]
  .rw[ah (show((128:Int)<=((left:Nat):Int))from(ciL (bg c)))];refine c9 ⟨_,λσ' G' h=>h,?_⟩
   refine⟨_,rfl,.inl ⟨rfl,_,SqL.of hG⟩,_,rfl,ex2 _ _ ⟨rfl,rfl,(by show(0:Int)<128;decide),ex2 _ _ ⟨rfl,rfl,ex3 x _ _ ⟨rfl,rfl,hG,by rw[au];exact QS,?_⟩⟩⟩⟩
   refine⟨_,rfl,ex2 _ _ ⟨rfl,rfl,⟨by decide,by decide⟩,left / 128,by lia,acc++[UInt8.ofNat (128+left % 128)],left / 128,?_,λb o e=>(aj (ag e hx)).trans (k b o e),?_,?_,rfl⟩⟩
   .show[some (V.int (n:Int)),some (V.ref x),some (V.int (((left:Nat):Int) / 128))]=_
    rw[show(((left:Nat):Int) / 128)=((left / 128:Nat):Int)from rfl]
   .rw[aC,aQ];show some (HO.lst (acc.map bv++[V.int (((left:Nat):Int) % 128+128)]))=some (HO.lst (acc.map bv++[bv (UInt8.ofNat (128+left % 128))]))
    rw[wU (by lia),show(((left:Nat):Int) % 128+128)=((128+left % 128:Nat):Int)by lia]
   .rw[aY];show acc++(UInt8.ofNat (128+left % 128)::Sw.vary (left / 128))=_
    rw[<-kC c,hv]
inductive Sh where
 | node (a l n r:Addr) (ms:List Sh)
def Sh.a:Sh->Addr
 | .node a _ _ _ _=>a
mutual
noncomputable def Sh.adr:Sh->List Addr
 | .node a l _ _ ms=>a::l::Sh.adrs ms
noncomputable def Sh.adrs:List Sh->List Addr
 | []=>[]
 | s::r=>s.adr++Sh.adrs r
end
mutual
noncomputable def Sh.frz:Sh->List Addr
 | .node _ _ n r ms=>n::r::Sh.frzs ms
noncomputable def Sh.frzs:List Sh->List Addr
 | []=>[]
 | s::r=>s.frz++Sh.frzs r
end
def nf(k:Nat)(n r:Addr)(len:Int)(l:Addr):List (Str×V):=[("kind",.int (k:Int)),("name",.ref n),("row",.ref r),("length",.int len),("members",.ref l)]
mutual
inductive NdT(CT:Addr)(H:Hp):Sh->Sw.Value->List UInt8->Prop
 | mk {a l n r dx:Addr} {ms:List Sh} {v:Sw.Value} {nm:List UInt8}:H a=some (.ins CT dx (nf v.kind n r (v.enc.length:Int) l))->H n=some (.lst (nm.map bv))->(Pm.isHold v\/H r=some (.lst (v.enc.map bv)))/\(∃o,H r=some o) ->
   H l=some (.lst (ms.map λs=>V.ref s.a))->NdTs CT H ms (Pm.rowOf v)->NdT CT H (.node a l n r ms) v nm
inductive NdTs(CT:Addr)(H:Hp):List Sh->Sw.Row->Prop
 | nil:NdTs CT H [] .nil
 | cons {s:Sh} {ss:List Sh} {nm:List UInt8} {w:Sw.Value} {r:Sw.Row}:NdT CT H s w nm->NdTs CT H ss r->NdTs CT H (s::ss) (.cons nm w r)
end
def KpL(H H':Hp)(xs:List Addr):Prop:=∀x∈xs,∀o,H x=some o->H' x=some o
theorem KpL.of_same{H H':Hp}(k:bY H H')(xs:List Addr):KpL H H' xs:=λx ξ o e=>k x o e
theorem KpL.sub{H H':Hp}{xs ys:List Addr}(k:KpL H H' xs)(h:∀y∈ys,y∈xs):KpL H H' ys:=λx hx o e=>k x (h x hx) o e
mutual
theorem NdT.keep{CT:Addr}{H H':Hp}{s:Sh}{v:Sw.Value}{nm:List UInt8}(h:NdT CT H s v nm)(ka:KpL H H' s.adr)(kf:KpL H H' s.frz):NdT CT H' s v nm:=by
 cases h with
 | mk h1 h2 h3 h4 h5 =>
  unfold Sh.adr at ka;unfold Sh.frz at kf;refine .mk (ka _ (by simp) _ h1) (kf _ (by simp) _ h2) ⟨h3.1.imp id λz=>kf _ (by simp) _ z,h3.2.elim λo z=>⟨o,kf _ (by simp) _ z⟩⟩ (ka _ (by simp) _ h4) (h5.keep (ka.sub λy hy=>by simp[hy]) (kf.sub λy hy=>by simp[hy]))
theorem NdTs.keep{CT:Addr}{H H':Hp}{ss:List Sh}{r:Sw.Row}(h:NdTs CT H ss r)(ka:KpL H H' (Sh.adrs ss))(kf:KpL H H' (Sh.frzs ss)):NdTs CT H' ss r:=by
 cases h with
 | nil=>exact .nil
 | cons h1 h2 =>
  unfold Sh.adrs at ka;unfold Sh.frzs at kf;exact .cons (h1.keep (ka.sub λy hy=>by simp[hy]) (kf.sub λy hy=>by simp[hy])) (h2.keep (ka.sub λy hy=>by simp[hy]) (kf.sub λy hy=>by simp[hy]))
end
theorem NdT.same{CT:Addr}{H H':Hp}{s:Sh}{v:Sw.Value}{nm:List UInt8}(h:NdT CT H s v nm)(k:bY H H'):NdT CT H' s v nm:=h.keep (.of_same k _) (.of_same k _)
theorem NdTs.len{CT:Addr}{H:Hp}{ss:List Sh}{r:Sw.Row}(k:NdTs CT H ss r):ss.length=r.length:=by
 cases k with
 | nil=>rfl
 | cons _ h =>
  rw[ao,h.len];rfl
theorem NdTs.get{CT:Addr}{H:Hp}{ss:List Sh}{r:Sw.Row}(h:NdTs CT H ss r){i:Nat}{s:Sh}(e:ss[i]? =some s):∃n w,r.get? i=some (n,w)/\NdT CT H s w n:=by
 cases h with
 | nil=>simp at e
 | @cons s0 _ _ _ _ h1 h2 =>
  cases i with
  | zero =>
   have e:some s0=some s:=e
   injection e with e;subst e;exact ex2 _ _ ⟨rfl,h1⟩
  | succ i=>exact h2.get e
mutual
theorem NdT.all{CT:Addr}{H:Hp}{s:Sh}{v:Sw.Value}{nm:List UInt8}(h:NdT CT H s v nm)(x:Addr)(hx:x∈s.adr):∃o,H x=some o:=by
 cases h with
 | mk h1 h2 h3 h4 h5 =>
  unfold Sh.adr at hx;rcases aI.mp hx with rfl | hx
  .exact⟨_,h1⟩
  .rcases aI.mp hx with rfl | hx
   .exact⟨_,h4⟩
   .exact h5.all x hx
theorem NdTs.all{CT:Addr}{H:Hp}{ss:List Sh}{r:Sw.Row}(h:NdTs CT H ss r)(x:Addr)(hx:x∈Sh.adrs ss):∃o,H x=some o:=by
 cases h with
 | nil=>simp[Sh.adrs]at hx
 | cons h1 h2 =>
  unfold Sh.adrs at hx;rcases aM.mp hx with hx | hx
  .exact h1.all x hx
  .exact h2.all x hx
end
mutual
theorem NdT.allF{CT:Addr}{H:Hp}{s:Sh}{v:Sw.Value}{nm:List UInt8}(h:NdT CT H s v nm)(x:Addr)(hx:x∈s.frz):∃o,H x=some o:=by
 cases h with
 | mk h1 h2 h3 h4 h5 =>
  unfold Sh.frz at hx;rcases aI.mp hx with rfl | hx
  .exact⟨_,h2⟩
  .rcases aI.mp hx with rfl | hx
   .exact h3.2
   .exact h5.allF x hx
theorem NdTs.allF{CT:Addr}{H:Hp}{ss:List Sh}{r:Sw.Row}(h:NdTs CT H ss r)(x:Addr)(hx:x∈Sh.frzs ss):∃o,H x=some o:=by
 cases h with
 | nil=>simp[Sh.frzs]at hx
 | cons h1 h2 =>
  unfold Sh.frzs at hx;rcases aM.mp hx with hx | hx
  .exact h1.allF x hx
  .exact h2.allF x hx
end
theorem dY:∀(a b:List Sh),Sh.adrs (a++b)=Sh.adrs a++Sh.adrs b
 | [],b=>rfl
 | s::a,b=>by
  show s.adr++Sh.adrs (a++b)=s.adr++Sh.adrs a++Sh.adrs b
  rw[dY a b,aY]
theorem dM:∀(a b:List Sh),Sh.frzs (a++b)=Sh.frzs a++Sh.frzs b
 | [],b=>rfl
 | s::a,b=>by
  show s.frz++Sh.frzs (a++b)=s.frz++Sh.frzs a++Sh.frzs b
  rw[dM a b,aY]
theorem NdTs.append{CT:Addr}{H:Hp}{ss ts:List Sh}{m k:Sw.Row}(h:NdTs CT H ss m)(h2:NdTs CT H ts k):NdTs CT H (ss++ts) (Pm.rapp m k):=by
 cases h with
 | nil=>exact h2
 | cons h0 h1=>exact .cons h0 (h1.append h2)
theorem NdTs.split{CT:Addr}{H:Hp}:∀{ss:List Sh}{r:Sw.Row},NdTs CT H ss r->∀{i:Nat}{s:Sh},ss[i]? =some s->∃n w r1 r2,r=Pm.rapp r1 (.cons n w r2)/\r1.length=i/\NdTs CT H (ss.take i) r1/\NdT CT H s w n/\NdTs CT H (ss.drop (i+1)) r2
 | _,_,.nil,i,s,e=>by simp at e
 | _,_,.cons (s:=s0) h1 h2,0,s,e=>by
  have e:some s0=some s:=e
  injection e with e;subst e;exact⟨_,_,.nil,_,rfl,rfl,.nil,h1,h2⟩
 | _,_,.cons h1 h2,i+1,s,e=>by
  obtain⟨n,w,r1,r2,e1,e2,e3,e4,e5⟩:=h2.split e
  refine⟨n,w,.cons _ _ r1,r2,by rw[e1];rfl,?_,.cons h1 e3,e4,e5⟩
  show r1.length+1=i+1
  rw[e2]
theorem NdTs.cut{CT:Addr}{H:Hp}:∀{ss:List Sh}{r:Sw.Row},NdTs CT H ss r->∀{i:Nat},i<=ss.length->∃r1 r2,r=Pm.rapp r1 r2/\r1.length=i/\NdTs CT H (ss.take i) r1/\NdTs CT H (ss.drop i) r2
 | _,_,h,0,_=>⟨.nil,_,rfl,rfl,by rw[eD];exact .nil,by rw[ff];exact h⟩
 | _,_,.nil,i+1,hi=>by simp at hi
 | _,_,.cons h1 h2,i+1,hi=>by
  obtain⟨r1,r2,e1,e2,e3,e4⟩:=h2.cut (i:=i) (by simpa using hi)
  refine⟨.cons _ _ r1,r2,by rw[e1];rfl,?_,.cons h1 e3,e4⟩
  show r1.length+1=i+1
  rw[e2]
structure TxD(K:Fg_)(mg:Str->Option Value)(CT:Addr):Prop where
 cT:Cls K CT
 nKi:dk K CT "kind"
 nNa:dk K CT "name"
 nRo:dk K CT "row"
 nLe:dk K CT "length"
 nMe:dk K CT "members"
 mT:mg "Node" =some (.ref CT)
theorem pO{α β:Type}{f:α->β}{xs:List α}{i:Nat}{y:β}(h:(xs.map f)[i]? =some y):∃x,xs[i]? =some x/\f x=y:=by
 rw[bt]at h;cases e:xs[i]? with
 | none=>rw[e]at h;cases h
 | some x =>
  rw[e]at h;exact⟨x,rfl,aV h⟩
theorem lb{K:Fg_}{mg:Str->Option Value}{CT:Addr}(TD:TxD K mg CT):Fam K (λH a x=>∃s nm,s.a=a/\NdT CT H s x.1 nm/\x.1.plain=true) where
 same:=λ⟨s,nm,e,h,p⟩ k=>⟨s,nm,e,h.same k,p⟩
 pl:=λ⟨_,_,_,_,p⟩=>p
 hold:=λ{H a x} ⟨s,nm,e,h,p⟩=>by
  cases h with
  | mk h1 h2 h3 h4 h5 =>
   rename_i a0 l n r dx ms
   have e:a0=a:=e
   subst e;refine⟨ms.map Sh.a,⟨CT,dx,_,l,h1,TD.cT,TD.nKi,TD.nMe,rfl,rfl,by rw[eT];exact h4⟩,by rw[au];exact h5.len,λi a' ea=>?_⟩
   obtain⟨s',es,rfl⟩:=pO ea
   obtain⟨n',w,eg,hn⟩:=h5.get es
   have em:x.1.member i=some (n',w):=by rw[Pm.member_eq];exact eg
   refine⟨n',w,em,?_,s',n',rfl,hn,Pm.plain_mem p em⟩
   cases hn with
   | mk g1 g2 g3 g4 g5=>exact⟨CT,_,_,_,g1,TD.cT,TD.nNa,rfl,g2⟩
def Lk(K:Fg_)(H:Hp)(x:Sw.Value×Nat)(l:List Sw.Step)(as:List Addr):Prop:=∀(i:Nat)(a':Addr),as[i+1]? =some a' ->
 ∃(h:Addr)(k:Nat)(ms:List Addr)(y:Sw.Value×Nat)(st:Sw.Step)(j:Nat),as[i]? =some h/\(Pm.trail x l)[i]? =some y/\l[i]? =some st/\y.1.memberOf st=some j/\gQ K H h k ms/\ms[j]? =some a'
theorem kr.lk{K:Fg_}{H:Hp}{v:Sw.Value}{l:List Sw.Step}{as:List Addr}(h:kr K H v l as):Lk K H (v,0) l as:=h
theorem Lk.tail{K:Fg_}{H:Hp}{x y:Sw.Value×Nat}{st:Sw.Step}{l:List Sw.Step}{a0:Addr}{as:List Addr}(h:Lk K H x (st::l) (a0::as))(hg:Pm.go x st=some y):Lk K H y l as:=by
 intro i a' e
 have e:(a0::as)[(i+1)+1]? =some a':=e
 obtain⟨hh,k,ms,z,s',j,e1,e2,e3,e4,e5,e6⟩:=h (i+1) a' e
 refine⟨hh,k,ms,z,s',j,e1,?_,e3,e4,e5,e6⟩
 have:Pm.trail x (st::l)=x::Pm.trail y l:=by
  conv=>lhs;unfold Pm.trail
  rw[hg]
 rw[this]at e2;exact e2
theorem Lk.front{K:Fg_}{H:Hp}{x:Sw.Value×Nat}{a:List Sw.Step}{s:Sw.Step}{as:List Addr}(h:Lk K H x (a++[s]) as)(ht:(Pm.trail x a).length=a.length+1):Lk K H x a (as.take (a.length+1)):=by
 intro i a' e
 have hi:i+1<a.length+1:=by
  have:=(aK.mp e).1
  rw[aP]at this;lia
 rw[br hi]at e;obtain⟨hh,k,ms,z,s',j,e1,e2,e3,e4,e5,e6⟩:=h i a' e
 refine⟨hh,k,ms,z,s',j,by rw[br (cq hi)];exact e1,?_,by rw[cg (bA hi)]at e3;exact e3,e4,e5,e6⟩
 cases el:(Pm.trail x a).getLast? with
 | none=>exact aW (bz.mp el) (Pm.trail_ne _ _)
 | some y =>
  rw[Pm.trail_snoc a x y s [] ht el,cg (by lia)]at e2
  exact e2
theorem rO{K:Fg_}{CT:Addr}{H:Hp}{a l n r dx:Addr}{k k':Nat}{len:Int}{ms:List Addr}{ss:List Sh}(h1:H a=some (.ins CT dx (nf k n r len l)))(h4:H l=some (.lst (ss.map λs=>V.ref s.a)))(hh:gQ K H a k' ms):ms=ss.map Sh.a:=by
 obtain⟨C,Cc,fs,l',e1,_,_,_,_,e2,e3⟩:=hh
 rw[h1]at e1;injection e1 with e1;injection e1 with _ _ e1;subst e1;have e2:some (V.ref l)=some (V.ref l'):=e2
 injection e2 with e2;injection e2 with e2;subst e2;rw[h4]at e3;injection e3 with e3;injection e3 with e3;have:(ss.map Sh.a).map V.ref=ms.map V.ref:=by rw[eT];exact e3
 exact(List.map_inj_right (λx y z=>by injection z) |>.mp this).symm
theorem px(v:Sw.Value)(i:Nat)(x:Sw.Value):(v.with_ i x).kind=v.kind:=by cases v<;>rfl
theorem vw{v:Sw.Value}(h:Pm.isHold v)(i:Nat)(x:Sw.Value):Pm.rowOf (v.with_ i x)=(Pm.rowOf v).set i x:=by
 cases v with
 | list m=>rfl
 | rec_ m=>rfl
 | _=>rcases h with h | h<;>cases h
theorem pS{v w:Sw.Value}(h:Pm.isHold v)(e:w.kind=v.kind):Pm.isHold w:=by
 unfold Pm.isHold at *
 rw[e];exact h
theorem ue{A B C D E:List Addr}{a l:Addr}(h:C.Perm (D++E)):(a::l::(A++(C++B))).Perm ((a::l::(A++B++D))++E):=by
 refine dH.mpr λx=>?_
 have:=h.count_eq x
 simp only[cX,fZ,d7]at *;lia
theorem pP{α:Type}{ms:List α}{i:Nat}{s:α}(h:ms[i]? =some s):ms=ms.take i++s::ms.drop (i+1):=by
 have hi:=(aK.mp h)
 have:=du i ms
 rw[bW hi.1,hi.2]at this;exact this.symm
theorem grow{K:Fg_}{CT:Addr}{H:Hp}:∀(a:List Sw.Step)(s:Sh)(v:Sw.Value)(nm:List UInt8)(p:Nat)(u:Sw.Value)(q:Nat),(Pm.trail (v,p) a).length=a.length+1->(Pm.trail (v,p) a).getLast? =some (u,q)->NdT CT H s v nm->s.adr.Nodup ->
  ∃(t:Sh)(BI:List UInt8)(hs rest Ba:List Addr)(put:Sh->Sh),NdT CT H t u BI/\(∀x∈hs,x∈rest)/\s.adr.Perm (rest++t.adr)/\s.frz.Perm (Ba++t.frz) /\
   (∀x∈hs,∃dx k n r len l,H x=some (.ins CT dx (nf k n r len l)))/\(∀as,Lk K H (v,p) a as->as[0]? =some s.a->as.length=a.length+1->as=hs++[t.a])/\hs.Nodup /\
   ∀(H':Hp)(t':Sh)(u':Sw.Value)(g:Int),t'.a=t.a->(u'.enc.length:Int)=(u.enc.length:Int)+g->NdT CT H' t' u' BI ->
    (∀x∈hs,∀dx k n r len l,H x=some (.ins CT dx (nf k n r len l))->H' x=some (.ins CT dx (nf k n r (len+g) l)))->(∀x∈rest,x∉hs->∀o,H x=some o->H' x=some o)->KpL H H' Ba ->
    NdT CT H' (put t') (Pm.repl v a u') nm/\(put t').a=s.a/\(put t').adr.Perm (rest++t'.adr)/\(put t').frz.Perm (Ba++t'.frz)
 | [],s,v,nm,p,u,q,_,h2,hd,_=>by
  have h2:some (v,p)=some (u,q):=by unfold Pm.trail at h2;exact h2
  injection h2 with h2;injection h2 with h2 h3;subst h2 h3;refine⟨s,nm,[],[],[],id,hd,λx hx=>hx,.refl _,.refl _,(λx hx=>by simp at hx),(λas ξ h0 hl=>?_),.nil,λH' t' u' g e1 e2 e3 ξ ξ ξ=>⟨?_,e1,.refl _,.refl _⟩⟩
  .cases as with
   | nil=>simp at h0
   | cons b as =>
    have h0:some b=some s.a:=h0
    injection h0 with h0;have:as=[]:=by simpa using hl
    rw[this,h0];rfl
  .unfold Pm.repl;exact e3
 | st::a,s,v,nm,p,u,q,h1,h2,hd,FA=>by
  obtain⟨i,n,w,e1,e2,e3,e4⟩:=Pm.trail_cons h1 h2
  have e1:v.memberOf st=some i:=e1
  have e2:v.member i=some (n,w):=e2
  have IG:Pm.go (v,p) st=some (w,Pm.mplace v p i):=Pm.go_of e1 e2
  have Bd:=Pm.memberOf_hold e1
  cases hd with
  | mk d1 d2 d3 d4 d5 =>
   rename_i ra l n0 r0 dx ms
   have Bh:i<ms.length:=by rw[d5.len];exact Pm.memberOf_lt e1
   obtain⟨s1,N5⟩:∃s1,ms[i]? =some s1:=⟨_,aO Bh⟩
   obtain⟨n',w',r1,r2,f1,f2,f3,f4,f5⟩:=d5.split N5
   have D7:n'=n/\w'=w:=by
    have z:(Pm.rowOf v).get? i=some (n,w):=by rw[<-Pm.member_eq];exact e2
    have z2:=Pm.rapp_get r1 (.cons n' w' r2) 0
    rw[gw,f2,<-f1,z]at z2;have z2:some (n,w)=some (n',w'):=z2
    injection z2 with z2;injection z2 with z2 z3;exact⟨z2.symm,z3.symm⟩
   obtain⟨rfl,rfl⟩:=D7
   have Na:=pP N5
   have Rz:Sh.adrs ms=Sh.adrs (ms.take i)++(s1.adr++Sh.adrs (ms.drop (i+1))):=by
    conv=>lhs;rw[Na,dY]
    rfl
   have Wi:Sh.frzs ms=Sh.frzs (ms.take i)++(s1.frz++Sh.frzs (ms.drop (i+1))):=by
    conv=>lhs;rw[Na,dM]
    rfl
   have EJ:(ra::l::(Sh.adrs (ms.take i)++(s1.adr++Sh.adrs (ms.drop (i+1))))).Nodup:=by
    rw[<-Rz];exact FA
   have M':s1.adr.Nodup:=((bF.mp ((bF.mp (bc.mp (bc.mp EJ).2).2).2.1)).1)
   obtain⟨t,BI,hs,rest,Ba,put,g1,g2,g3,g4,g5,g6,g8,g7⟩:=grow a s1 w' n' _ u q e3 e4 f4 M'
   have Fd:∀x∈hs,x∈s1.adr:=λx hx=>g3.mem_iff.mpr (aB _ (g2 x hx))
   have UZ:ra∉hs:=λz=>(bc.mp EJ).1 (aA _ (aq _ (aB _ (Fd _ z))))
   have QV:=bF.mp (bc.mp (bc.mp EJ).2).2
   have Vz:=bF.mp QV.2.1
   refine⟨t,BI,ra::hs,ra::l::(Sh.adrs (ms.take i)++Sh.adrs (ms.drop (i+1))++rest),n0::r0::(Sh.frzs (ms.take i)++Sh.frzs (ms.drop (i+1))++Ba),λt'=>.node ra l n0 r0 (ms.take i++put t'::ms.drop (i+1)),g1,?_,?_,?_,?_,?_,?_,?_⟩
   .intro x hx;rcases aI.mp hx with rfl | hx
    .simp
    .have:=g2 x hx
     simp[this]
   .show(ra::l::Sh.adrs ms).Perm _
    rw[Rz];exact ue g3
   .show(n0::r0::Sh.frzs ms).Perm _
    rw[Wi];exact ue g4
   .intro x hx;rcases aI.mp hx with rfl | hx
    .exact⟨_,_,_,_,_,_,d1⟩
    .exact g5 x hx
   .intro as Df h0 hl;cases as with
    | nil=>simp at h0
    | cons b as =>
     have h0:some b=some ra:=h0
     injection h0 with h0;subst h0;have Lx:as.length=a.length+1:=by simpa using hl
     cases as with
     | nil=>simp at Lx
     | cons b1 as =>
      obtain⟨hh,k,ma,y,s',j,x1,x2,x3,x4,x5,x6⟩:=Df 0 b1 rfl
      have x1:some b=some hh:=x1
      injection x1 with x1;subst x1;rw[Pm.trail_head]at x2;injection x2 with x2;subst x2;have x3:some st=some s':=x3
      injection x3 with x3;subst x3;have x4:v.memberOf st=some j:=x4
      rw[e1]at x4;injection x4 with x4;subst x4;rw[rO d1 d4 x5]at x6;obtain⟨s2,z1,z2⟩:=pO x6
      rw[N5]at z1;injection z1 with z1;subst z1;rw[g6 (b1::as) (Df.tail IG) (by rw[<-z2];rfl) Lx]
      rfl
   .exact bc.mpr ⟨UZ,g8⟩
   .intro H' t' u' g k1 k2 k3 k4 k5 k6
    obtain⟨m1,m2,m3,m4⟩:=g7 H' t' u' g k1 k2 k3 (λx hx=>k4 x (aA _ hx)) (λx hx hn o eo=>k5 x (by simp[hx]) (λz=>by
     rcases aI.mp z with rfl | z
     .exact(bc.mp EJ).1 (aA _ (aq _ (aB _ (g3.mem_iff.mpr (aB _ hx)))))
     .exact hn z) o eo) (k6.sub λy hy=>by simp[hy])
    have nl:l∉ra::hs:=λz=>by
     rcases aI.mp z with z | z
     .exact(dC d4 d1 (by intro z;cases z)) z
     .obtain⟨Cc,k',n',r',Jw,l',eh⟩:=g5 l z
      rw[d4]at eh;cases eh
    have outs:∀x∈Sh.adrs (ms.take i)++Sh.adrs (ms.drop (i+1)),x∉ra::hs:=λx hx z=>by
     rcases aI.mp z with rfl | z
     .refine(bc.mp EJ).1 (aA _ ?_)
      rcases aM.mp hx with hx | hx
      .exact aB _ hx
      .exact aq _ (aq _ hx)
     .rcases aM.mp hx with hx | hx
      .exact QV.2.2 x hx x (aB _ (Fd x z)) rfl
      .exact Vz.2.2 x (Fd x z) x hx rfl
    have F6:∀x∈Sh.adrs (ms.take i)++Sh.adrs (ms.drop (i+1)),∀o,H x=some o->H' x=some o:=λx hx o eo=>k5 x (by
     rcases aM.mp hx with hx | hx<;>simp[hx]) (outs x hx) o eo
    have F7:∀x∈Sh.frzs (ms.take i)++Sh.frzs (ms.drop (i+1)),∀o,H x=some o->H' x=some o:=λx hx o eo=>k6 x (by
     rcases aM.mp hx with hx | hx<;>simp[hx]) o eo
    obtain⟨pre,post,j1,j2,j3⟩:=Pm.with_enc e2
    obtain⟨CA,FY,UC,Y8,UB⟩:=Pm.repl_enc a w' _ u q e3 e4
    have DK:((v.with_ i (Pm.repl w' a u')).enc.length:Int)=(v.enc.length:Int)+g:=by
     rw[j3,UB,j1,UC];simp only[ae];lia
    rw[Pm.repl_cons e1 e2];refine⟨.mk (dx:=dx) ?_ (k6 _ (by simp) _ d2) ⟨.inl (pS Bd (px _ _ _)),d3.2.elim λo y=>⟨o,k6 _ (by simp) _ y⟩⟩ ?_ ?_,rfl,?_,?_⟩
    .rw[DK,px];exact k4 ra (by simp) _ _ _ _ _ _ d1
    .have:=k5 l (by simp) nl _ d4
     rw[this];congr 2
     conv=>lhs;rw[Na]
     rw[aQ,aQ,bj,bj,m2]
    .have N6:Pm.rowOf (v.with_ i (Pm.repl w' a u'))=Pm.rapp r1 (.cons n' (Pm.repl w' a u') r2):=by
      rw[vw Bd,f1];rw[<-f2];exact Pm.rapp_set r1 r2 n' w' _
     rw[N6];refine NdTs.append (f3.keep (λx hx o eo=>F6 x (aB _ hx) o eo) λx hx o eo=>F7 x (aB _ hx) o eo) (.cons m1 (f5.keep (λx hx o eo=>F6 x (aq _ hx) o eo) λx hx o eo=>F7 x (aq _ hx) o eo))
    .show(ra::l::Sh.adrs (ms.take i++put t'::ms.drop (i+1))).Perm _
     rw[dY];exact ue m3
    .show(n0::r0::Sh.frzs (ms.take i++put t'::ms.drop (i+1))).Perm _
     rw[dM];exact ue m4
def nmR(n:List UInt8):List UInt8:=if n=[]then[]else Sw.vary n.length++n
def Af(K:Fg_)(CP:Addr):Sp:=λvs H Q ξ=>∃(a m n l:Addr)(d:PD)(bs:List UInt8),vs=[.ref a,.ref m]/\SqL K H a (bs.map bv)/\iE CP H m d n l/\d.place<=d.fin/\d.fin<=bs.length /\
 ∀x,H x=none->Q (.ref x) (upd H x (.lst (((bs.drop d.place).take (d.fin-d.place)).map bv)))
def zY(K:Fg_)(CP CT:Addr):Sp:=λvs H Q ξ=>∃(B:Hp)(z dx a m:Addr)(bs:List UInt8)(v:Sw.Value)(p np:Nat)(n:List UInt8),vs=[.ref z,.ref a,.ref m]/\H z=some (.ins CT dx [])/\SqL K H a (bs.map bv)/\bY B H/\Nd CP B bs m v p np n /\
 ∀(l r b:Addr)(H':Hp),H l=none->H r=none->l≠r->B b=some (.lst (n.map bv))->H' z=some (.ins CT dx (nf v.kind b r (v.enc.length:Int) l))->H' l=some (.lst [])->(Pm.isHold v\/H' r=some (.lst (v.enc.map bv)))->(∃xs,H' r=some (.lst xs))->Kp H H' z->Q .non H'
def xC:Sp:=λvs H Q ξ=>∃(b:Addr)(n:List UInt8),vs=[.ref b]/\H b=some (.lst (n.map bv))/\(nmR n).length<=16777216/\∀(x:Addr)(H':Hp),bY H H'->H x=none->H' x=some (.lst ((nmR n).map bv))->Q (.ref x) H'
def xD(CT:Addr):Sp:=λvs H Q ξ=>∃(a dx b r l:Addr)(k:Nat)(len:Int)(n:List UInt8),vs=[.ref a]/\H a=some (.ins CT dx (nf k b r len l))/\H b=some (.lst (n.map bv))/\n.length<=1000000/\∀H':Hp,bY H H'->Q (.int (((nmR n).length:Int)+len)) H'
def xI(CT:Addr):Sp:=λvs H Q ξ=>∃(a dx b r l:Addr)(k:Nat)(len:Int)(xs:List V),vs=[.ref a]/\H a=some (.ins CT dx (nf k b r len l))/\H l=some (.lst xs)/\xs.length<34359738368/\∀H':Hp,bY H H'->Q (.int ((Sw.vary xs.length).length:Int)) H'
def Lng(CT:Addr)(H H':Hp)(as:List Addr)(g:Int):Prop:=∀x∈as,∀dx k n r len l,H x=some (.ins CT dx (nf k n r len l))->H' x=some (.ins CT dx (nf k n r (len+g) l))
def lB(CT:Addr)(H:Hp)(as:List Addr):Prop:=∀x∈as,∃dx k n r len l,H x=some (.ins CT dx (nf k n r len l))
def iQ(CT CV:Addr)(H:Hp)(Q:VK)(E:XK)(a0:Addr)(len0:Int)(as ls:List Addr)(g:Int)(new:Hp->Prop):Prop :=
 if 16777216<len0+g then gp E CV [.int (-9)]else ∀H':Hp,(∀x o,H x=some o->x∉as->x∉ls->H' x=some o)->Lng CT H H' as g->new H'->Q (.ref a0) H'
def vN(CT CV:Addr):Sp:=λvs H Q E=>∃(gl a0:Addr)(as:List Addr)(g len0:Int),vs=[.ref gl,.int g]/\H gl=some (.lst (as.map V.ref))/\as.Nodup/\lB CT H as/\as[0]? =some a0 /\
 (∃dx k n r l,H a0=some (.ins CT dx (nf k n r len0 l)))/\iQ CT CV H Q E a0 len0 as [] g λξ=>True
theorem scAB:bq ["row","part"] ["row","part"] (aS sAB):=fs_
theorem ok_AB{f:Addr}{fd:FuncData}(F:Fun K "all_bytes" "all_bytes" sAB f fd)(TP:TxP K mg CP):bQ P w K mg base CX0 1 f fd ["row","part"] (Af K CP):=by
 refine F.ok scAB (λvs H Q E h=>?_) (λAY A outer s H vs Q E hr h=>?_)
 .obtain⟨a,m,n,l,d,bs,rfl,_⟩:=h
  rfl
 .obtain⟨a,m,n,l,d,bs,rfl,hs,⟨dx,hm⟩,h1,h2,q⟩:=h
  refine⟨_,aJ (bK (iy jh (pv 0) (gj (a6 (pv 1) rfl)) (gj (a6 (pv 1) rfl)))),?_⟩
  try dsimp only[cW];refine⟨_,rfl,_,rfl,fd_ hm TP.cP TP.nPl rfl ⟨_,rfl,_,rfl,fd_ hm TP.cP TP.nEn rfl ⟨_,rfl,ex2 a _ ⟨rfl,hs,λx hx=>?_⟩⟩⟩⟩
  have e:=jT bs d.place (d.fin-d.place) (by lia) (x:=(d.place:Int)) (y:=(d.fin:Int)) rfl (by lia)
  rw[e];exact q x hx
theorem scNI:bq ["self","row","part"] ["self","row","part"] (aS sNI):=fs_
theorem ok_NI{f KS:Addr}{fd HQ:FuncData}(F:Fun K "__init__" "Node.__init__" sNI f fd)(TP:TxP K mg CP)(B:TxB mg CP)(TD:TxD K mg CT)
  (GA:Co P w K mg base CX0 1 KS HQ ["row","part"] (Af K CP) "all_bytes") :
  bQ P w K mg base CX0 2 f fd ["self","row","part"] (zY K CP CT):=by
 refine F.ok scNI (λvs H Q E h=>?_) (λAY A outer s H vs Q E hr h=>?_)
 .obtain⟨B',z,dx,a,m,bs,v,p,np,n,rfl,_⟩:=h
  rfl
 .obtain⟨B',z,dx,a,m,bs,v,p,np,n,rfl,hz,hs,V1,nd,q⟩:=h
  refine⟨_,az (dv (pv 0) (a6 (pv 2) rfl) rfl) (az (dv (pv 0) (a6 (pv 2) rfl) rfl)
   (az (dv (pv 0) (kP (bC iY (a6 (pv 2) rfl) (jD (aa (pgi B.k5 rfl) (aa (pgi B.k6 rfl) aG))) (by with_unfolding_all rfl)) (ee aG) (cj GA hr rfl cM (aa (pv 1) (aa (pv 2) aG)))) rfl)
   (az (dv (pv 0) (dI iA (a6 (pv 2) rfl) (a6 (pv 2) rfl)) rfl) (aJ (dv (pv 0) (ee aG) rfl))))),?_⟩
  try dsimp only[cW];obtain⟨b,lm,as,dm,hb,h1,_⟩:=nd.pt
  have h1:=V1 _ _ h1
  have Lf:m≠z:=dC h1 hz (by intro y;injection y with _ _ y3;exact aW (congrArg List.length y3) (by show ¬9=0;decide))
  refine⟨_,rfl,m,CP,dm,_,_,rfl,h1,TP.cP,TP.nKi,rfl,_,rfl,z,CT,dx,[],rfl,hz,TD.cT,TD.nKi,(by show 0<1000;decide),?_⟩
  refine⟨_,rfl,m,CP,dm,_,_,rfl,by rw[aj Lf];exact h1,TP.cP,TP.nNl,rfl,_,rfl,z,CT,dx,_,rfl,aC,TD.cT,TD.nNa,(by show 1<1000;decide),?_⟩
  generalize LK:upd (upd H z _) z _=H1;have Fu:H1 z=some (.ins CT dx [("kind",.int (v.kind:Int)),("name",.ref b)]):=by
   rw[<-LK,aC];rfl
  have k1:∀c o,H c=some o->c≠z->H1 c=some o:=λc o e n=>by rw[<-LK,aj n,aj n];exact e
  have BD:=k1 _ _ h1 Lf
  have JL:SqL K H1 a (bs.map bv):=by
   rcases hs with(y | ⟨o,y⟩) | y
   .exact .inl (.inl (k1 _ _ y (dC y hz (by intro z;cases z))))
   .exact .inl (.inr ⟨o,k1 _ _ y (dC y hz (by intro z;cases z))⟩)
   .exact .inr y
  have Gj:∀x,H1 x=none->H x=none:=λx hx=>by
   cases e:H x with
   | none=>rfl
   | some o =>
    by_cases y:x=z
    .rw[y,Fu]at hx;cases hx
    .rw[k1 x o e y]at hx;cases hx
  refine⟨_,rfl,fd_ BD TP.cP TP.nKi rfl ⟨(by show 2<=sizeLine;decide),λt ht=>ex2 t _ ⟨rfl,.inr (SqT.of aC),rfl,rfl,_,rfl,?_⟩⟩⟩
  rw[show(if false=true then !inV (.int ((Pm.pdOf v p np n.length).kind:Int)) [.int 5,.int 6]else inV (.int ((Pm.pdOf v p np n.length).kind:Int)) [.int 5,.int 6])=decide (v.kind=5\/v.kind=6)from qz (a:=5) (b:=6)]
  generalize CJ:upd H1 t (.tup [.int 5,.int 6])=H2;have k2:bY H1 H2:=λc o e=>by rw[<-CJ,aj (ag e ht)];exact e
  have X5:=nd.at_.take
  have hle:=nd.at_.le
  by_cases c:v.kind=5\/v.kind=6
  case' pos =>
   rw[ah c];refine c9 ⟨aX _,λr hr=>?_⟩
   have C5:Pm.isHold v\/upd H2 r (.lst []) r=some (.lst (v.enc.map bv)):=.inl c
   generalize DU:upd H2 r (.lst [])=H3 at C5
  case' neg =>
   rw[ai c];refine cK ⟨_,rfl,_,rfl,ex6 a m b lm _ bs ⟨rfl,k2.seq JL,⟨dm,k2 _ _ BD⟩,by show p<=p+_;exact b8 _ _,hle,λr hr=>?_⟩⟩
   have e1:((bs.drop (Pm.pdOf v p np n.length).place).take ((Pm.pdOf v p np n.length).fin-(Pm.pdOf v p np n.length).place))=v.enc:=by
    show(bs.drop p).take (p+v.enc.length-p)=v.enc
    rw[d6];exact X5
   rw[e1];have C5:Pm.isHold v\/upd H2 r (.lst (v.enc.map bv)) r=some (.lst (v.enc.map bv)):=.inr aC
   generalize DU:upd H2 r (.lst (v.enc.map bv))=H3 at C5
  all_goals (
   have k3:bY H2 H3:=λc o e=>by rw[<-DU,aj (ag e hr)];exact e
   have Bs:∃xs,H3 r=some (.lst xs):=by rw[<-DU,aC];exact⟨_,rfl⟩
   have Lq:=k3 _ _ (k2 _ _ Fu)
   have FB:=k3 _ _ (k2 _ _ BD)
   have MZ:H r=none:=Gj r (k2.free hr)
   obtain⟨xs,Bs⟩:=Bs
   have Fp:r≠z:=dC Bs Lq (by intro y;cases y)
   refine⟨_,rfl,z,CT,dx,_,rfl,Lq,TD.cT,TD.nRo,(by show 2<1000;decide),?_⟩
   refine⟨_,rfl,m,CP,dm,_,_,rfl,by rw[aj Lf];exact FB,TP.cP,TP.nEn,rfl,_,rfl,m,CP,dm,_,_,rfl,by rw[aj Lf];exact FB,TP.cP,TP.nPl,rfl,_,_,rfl,rfl,_,rfl,z,CT,dx,_,rfl,aC,TD.cT,TD.nLe,(by show 3<1000;decide),?_⟩
   refine⟨aX _,λl hl=>?_⟩
   have Lh:l≠z:=λy=>by rw[y,aC]at hl;cases hl
   have Dm:H3 l=none:=by rw[aj Lh,aj Lh]at hl;exact hl
   have Dj:l≠r:=λy=>by rw[y,Bs]at Dm;cases Dm
   refine⟨_,rfl,z,CT,dx,_,rfl,by rw[aj (ba Lh)];exact aC,TD.cT,TD.nMe,(by show 4<1000;decide),?_⟩
   refine q l r b _ (Gj l (k2.free (k3.free Dm))) MZ Dj hb ?_ ?_ ?_ ⟨xs,?_⟩ λc o e nc=>?_
   .rw[aC];have DK:(((Pm.pdOf v p np n.length).fin:Nat):Int)-(((Pm.pdOf v p np n.length).place:Nat):Int)=(v.enc.length:Int):=by
     show(((p+v.enc.length:Nat):Int))-((p:Nat):Int)=_
     lia
    show some (HO.ins CT dx [("kind",V.int (v.kind:Int)),("name",V.ref b),("row",V.ref r),("length",V.int ((((Pm.pdOf v p np n.length).fin:Nat):Int)-(((Pm.pdOf v p np n.length).place:Nat):Int))),("members",V.ref l)])=_
    rw[DK];rfl
   .rw[aj Lh,aC]
   .refine C5.imp id λy=>?_
    rw[aj Fp,aj (ba Dj),aj Fp,aj Fp];exact y
   .rw[aj Fp,aj (ba Dj),aj Fp,aj Fp];exact Bs
   .have e3:=k3 _ _ (k2 _ _ (k1 c o e nc))
    rw[aj nc,aj (ag e3 Dm),aj nc,aj nc];exact e3)
theorem scNW:bq ["name"] ["name"] (aS sNW):=fs_
theorem ok_NW{f FH:Addr}{fd Cv:FuncData}(F:Fun K "name_row" "name_row" sNW f fd)(len:mg "len" =none)
  (GV:Co P w K mg base CX0 1 FH Cv ["amount"] vM "vary_row") :
  bQ P w K mg base CX0 2 f fd ["name"] xC:=by
 refine F.ok scNW (λvs H Q E h=>?_) (λAY A outer s H vs Q E hr h=>?_)
 .obtain⟨b,n,rfl,_⟩:=h
  rfl
 .obtain⟨b,n,rfl,hb,hn,q⟩:=h
  refine⟨_,aJ (bK (kP (eI (pv 0) (λξ=>rfl)) (dI ql (cj GV hr rfl cM (aa (ck cB (by rfl) len bo (aa (pv 0) aG)) aG)) (pv 0)) (ee aG))),?_⟩
  try dsimp only[cW];refine⟨_,rfl,_,.inl ⟨_,SqL.of hb,rfl⟩,?_⟩
  unfold nmR at q hn;cases n with
  | nil =>
   refine cK ⟨aX _,λx hx=>?_⟩
   exact q x _ (λc o e=>(aj (ag e hx)).trans e) hx (by rw[aC];rfl)
  | cons c n =>
   rw[ay (λz=>nomatch z)]at q hn
   rw[ae]at hn;refine c9 ⟨_,rfl,ex2 b _ ⟨rfl,.inl (SqL.of hb),(c::n).length,by show[V.int (((c::n).map bv).length:Int)]=_;rw[au],by lia,λx H1 k1 hx h1=>?_⟩⟩
   have l5:=jP (n:=(c::n).length) (by lia)
   refine⟨_,rfl,ex4 x b _ _ ⟨rfl,rfl,SqL.of h1,SqL.of (k1 _ _ hb),?_,λy hy=>?_⟩⟩
   .rw[au,au,sizeLine_eq];exact hn
   .refine q y _ (λc o e=>(aj (ag (k1 _ _ e) hy)).trans (k1 _ _ e)) (k1.free hy) ?_
    rw[aC,aQ]
theorem AE{n:List UInt8}(h:n.length<=1000000):(nmR n).length<=16777216:=by
 unfold nmR;have:=jP (n:=n.length) (by lia)
 split
 .exact aX _
 .rw[ae];lia
theorem scML:bq ["node"] ["node"] (aS sML):=fs_
theorem ok_ML{f HR:Addr}{fd EZ:FuncData}(F:Fun K "member_length" "member_length" sML f fd)(TD:TxD K mg CT)(len:mg "len" =none)
  (GN:Co P w K mg base CX0 2 HR EZ ["name"] xC "name_row") :
  bQ P w K mg base CX0 3 f fd ["node"] (xD CT):=by
 refine F.ok scML (λvs H Q E h=>?_) (λAY A outer s H vs Q E hr h=>?_)
 .obtain⟨a,dx,b,r,l,k,ln,n,rfl,_⟩:=h
  rfl
 .obtain⟨a,dx,b,r,l,k,ln,n,rfl,ha,hb,hn,q⟩:=h
  refine⟨_,aJ (bK (dI gk (ck cB (by rfl) len bo (aa (cj GN hr rfl cM (aa (a6 (pv 0) rfl) aG)) aG)) (a6 (pv 0) rfl))),?_⟩
  try dsimp only[cW];refine⟨_,rfl,fd_ ha TD.cT TD.nNa rfl (ex2 b n ⟨rfl,hb,AE hn,λx H1 k1 hx h1=>?_⟩)⟩
  refine ex2 x _ ⟨rfl,.inl (SqL.of h1),_,rfl,fd_ (k1 _ _ ha) TD.cT TD.nLe rfl (ex2 _ _ ⟨rfl,rfl,?_⟩)⟩
  rw[au];exact q H1 k1
theorem scCO:bq ["holder"] ["holder"] (aS sCO):=fs_
theorem ok_CO{f FH:Addr}{fd Cv:FuncData}(F:Fun K "count_length" "count_length" sCO f fd)(TD:TxD K mg CT)(len:mg "len" =none)
  (GV:Co P w K mg base CX0 1 FH Cv ["amount"] vM "vary_row") :
  bQ P w K mg base CX0 2 f fd ["holder"] (xI CT):=by
 refine F.ok scCO (λvs H Q E h=>?_) (λAY A outer s H vs Q E hr h=>?_)
 .obtain⟨a,dx,b,r,l,k,ln,xs,rfl,_⟩:=h
  rfl
 .obtain⟨a,dx,b,r,l,k,ln,xs,rfl,ha,hl,hn,q⟩:=h
  refine⟨_,aJ (bK (ck cB (by rfl) len bo (aa (cj GV hr rfl cM (aa (ck cB (by rfl) len bo (aa (a6 (pv 0) rfl) aG)) aG)) aG))),?_⟩
  try dsimp only[cW];refine⟨_,rfl,fd_ ha TD.cT TD.nMe rfl (ex2 l _ ⟨rfl,.inl (SqL.of hl),xs.length,rfl,hn,λx H1 k1 hx h1=>?_⟩)⟩
  refine ex2 x _ ⟨rfl,.inl (SqL.of h1),?_⟩
  rw[au];exact q H1 k1
theorem AF{k k':Nat}{n n' r r' l l':Addr}{a b g:Int}(h:nf k n r a l=nf k' n' r' b l'):nf k n r (a+g) l=nf k' n' r' (b+g) l':=by
 unfold nf at *
 injection h with h1 h;injection h with h2 h;injection h with h3 h;injection h with h4 h;injection h with h5 _;injection h1 with _ h1;injection h2 with _ h2;injection h3 with _ h3;injection h4 with _ h4;injection h5 with _ h5;injection h4 with h4;rw[h1,h2,h3,h4,h5]
theorem scLN:bq ["holders","grown","holder"] ["holders","grown"] (aS sLN):=fs_
theorem ok_LN{f:Addr}{fd Cv:FuncData}(F:Fun K "lengthen" "lengthen" sLN f fd)(TD:TxD K mg CT)(lv:GI mg "LONGEST_VALUE" 16777216)
  (L6:fm K U CV Gn)(Mw:mg "NoValue" = some (.ref CV))(GV:bQ P w K mg base CX0 2 Gn Cv ["self"] (fK CV 0 aNV))(bV:bZ K Cv ["self"] []) :
  bQ P w K mg base (CXF P w) 4 f fd ["holders","grown"] (vN CT CV):=by
 refine okX F scLN (λvs H Q E h=>?_) (λAY A outer s H vs Q E hr h=>?_)
 .obtain ⟨gl,a0,as,g,len0,rfl,_⟩:=h
  rfl
 .obtain ⟨gl,a0,as,g,len0,rfl,BA,FA,D8,h0,⟨d0,k0,n0,r0,l0,Dq⟩,q⟩:=h
  refine ⟨_,az (lS PassesOwn.leaving rfl (kM (pv 0)) (fv (i:=2) scLN.nd rfl (.inl rfl)) (aJ (lT (pv 2) (pv 1) tw)))
   (az (cE (bC jx (a6 (dJ cx (pv 0) bb (λξ ξ=>rfl)) rfl) (pgi lv rfl) (bX _)) (aJ (jl L6 GV bV rfl hr cN rfl rfl Mw)) b7)
   (aJ (bK (dJ cx (pv 0) bb (λξ ξ=>rfl))))),?_⟩
  try dsimp only [cW]
  have LB:gl∉as:=λz=>by
   obtain ⟨dx,k,n,r,len,l,e⟩:=D8 gl z
   rw [BA] at e
   cases e
  refine ⟨_,rfl,gl,rfl,⟨_,SqL.of BA⟩,rS (xs:=as.map V.ref) (λi σ G=>(∃ v2,σ=[some (.ref gl),some (.int g),v2])/\(∀ x o,H x=some o->x∉as.take i->G x=some o)/\Lng CT H G (as.take i) g) ⟨⟨none,rfl⟩,λx o e ξ=>e,λx hx=>by simp at hx⟩ ?_ ?_ ?_⟩
  .rintro i σ G _ ⟨_,kG,_⟩
   exact SqL.of (kG _ _ BA λz=>LB (List.mem_of_mem_take z))
  .rintro i x σ G hx ⟨⟨v2,rfl⟩,kG,lG⟩
   obtain ⟨h,eh,rfl⟩:=pO hx
   have hi:i<as.length:=(aK.mp eh).1
   have U6:h∉as.take i:=λz=>by
    obtain ⟨j,ej⟩:=dZ z
    have hj:j<i:=by
     have:=(aK.mp ej).1
     rw [aP] at this
     lia
    rw [br hj] at ej
    have:=(List.getElem?_inj (jt hj hi) FA).mp (ej.trans eh.symm)
    exact bG hj this
   obtain ⟨dx,k,n,r,len,l,e⟩:=D8 h (di eh)
   have eG:=kG _ _ e U6
   have Rx:as.take (i+1)=as.take i++[h]:=by rw [eQ,eh];rfl
   refine ⟨_,rfl,h,CT,dx,_,_,rfl,eG,TD.cT,TD.nLe,rfl,_,rfl,_,_,rfl,rfl,dx,_,eG,(by show 5<1000;decide),?_⟩
   refine ⟨⟨_,rfl⟩,λx o ex hx=>?_,λx hx Cc k' n' r' Jw l' ex=>?_⟩
   .rw [Rx] at hx
    rw [aj (λz=>hx (by rw [z];simp))]
    exact kG x o ex λz=>hx (aB _ z)
   .rw [Rx] at hx
    by_cases MM:x=h
    .subst MM
     rw [e] at ex
     injection ex with ex
     injection ex with _ ex1 ex2
     subst ex1
     have:nf k n r len l=nf k' n' r' Jw l':=ex2
     rw [aC,<-AF this]
     rfl
    .rw [aj MM]
     rcases aM.mp hx with hx | hx
     .exact lG x hx _ _ _ _ _ _ ex
     .exact aW (aN.mp hx) MM
  .rintro σ G ⟨⟨v2,rfl⟩,kG,lG⟩
   rw [au,fN] at kG lG
   have Do:=kG _ _ BA LB
   have Dd:a0∈as:=di h0
   have VX:=lG a0 Dd _ _ _ _ _ _ Dq
   have IL:atI (as.map V.ref) 0=some (V.ref a0):=iN (j:=0) (by rw [bt,h0];rfl)
   refine ⟨_,rfl,gl,_,_,V.ref a0,rfl,rfl,SqL.of Do,IL,fd_ VX TD.cT TD.nLe rfl (ex2 _ _ ⟨rfl,rfl,_,rfl,?_⟩)⟩
   unfold iQ at q
   by_cases c:16777216<len0+g
   .rw [ah c]
    rw [ax c] at q
    exact c9 ⟨rfl,q⟩
   .rw [ai c]
    rw [ay c] at q
    exact cK ⟨_,rfl,gl,_,_,V.ref a0,rfl,rfl,SqL.of Do,IL,q G (λx o e hn ξ=>kG x o e hn) lG trivial⟩
def xy(CT CV:Addr):Sp:=λvs H Q E=>∃(gl h y a0:Addr)(hs:List Addr)(i:Nat)(dh nh rh lh dy ny ry ly:Addr)(kh ky:Nat)(BF Bt len0:Int)(ms:List V)(n:List UInt8),vs=[.ref gl,.int (i:Int)]/\H gl=some (.lst ((hs++[h]).map V.ref))/\(hs++[h]).Nodup/\lB CT H (hs++[h]) /\
 (hs++[h])[0]? =some a0/\(∃dx k n r l,H a0=some (.ins CT dx (nf k n r len0 l)))/\H h=some (.ins CT dh (nf kh nh rh BF lh))/\H lh=some (.lst ms)/\ms.length<16777216/\ms[i]? =some (V.ref y)/\H y=some (.ins CT dy (nf ky ny ry Bt ly))/\H ny=some (.lst (n.map bv))/\n.length<=1000000/\gl≠lh/\ny≠lh /\
 iQ CT CV H Q E a0 len0 (hs++[h]) [lh] (((Sw.vary (ms.length-1)).length:Int)-((Sw.vary ms.length).length:Int)-(((nmR n).length:Int)+Bt)) λH'=>H' lh=some (.lst (ms.eraseIdx i))
theorem xT:bq ["holders","i","holder","before","gone"] ["holders","i"] (aS sRM):=fs_
theorem ok_RM{f HY HS KI:Addr}{fd E2 DI Dr:FuncData}(F:Fun K "remove_member" "remove_member" sRM f fd)(TD:TxD K mg CT)
  (GC:Co P w K mg base CX0 2 HY E2 ["holder"] (xI CT) "count_length")
  (GM:Co P w K mg base CX0 3 HS DI ["node"] (xD CT) "member_length")
  (GL:Co P w K mg base (CXF P w) 4 KI Dr ["holders","grown"] (vN CT CV) "lengthen") :
  bQ P w K mg base (CXF P w) 5 f fd ["holders","i"] (xy CT CV):=by
 refine okX F xT (λvs H Q E h=>?_) (λAY A outer s H vs Q E hr h=>?_)
 .obtain⟨gl,h,y,a0,hs,i,dh,nh,rh,lh,dy,ny,ry,ly,kh,ky,BF,Bt,len0,ms,n,rfl,_⟩:=h
  rfl
 .obtain⟨gl,h,x,a0,hs,i,dh,nh,rh,lh,dx,nx,rx,lx,kh,kx,BF,Bj,len0,ms,n,rfl,BA,FA,D8,h0,⟨d0,k0,n0,r0,l0,Dq⟩,hh,Cr,Qy,hi,hx,EE,hn,Ir,nnl,q⟩:=h
  have Bm:cD 2 _:=hr.mono (by decide)
  have Bs:cD 3 _:=hr.mono (by decide)
  refine⟨_,az (bE (i:=2) xT.nd rfl (.inl rfl) (dJ cx (pv 0) (eK dF bb) (λξ ξ=>rfl)))
   (az (bE (i:=3) xT.nd rfl (.inl rfl) (cj GC Bm rfl cM (aa (pv 2) aG)))
   (az (bE (i:=4) xT.nd rfl (.inl rfl) (iW bp PySem.F.slot_list_pop PySem.F.type_list_pop wu (a6 (pv 2) rfl) (aa (pv 1) aG)))
   (aJ (bK (cj GL hr rfl dG (aa (pv 0) (aa (dI iA (dI iA (cj GC Bm rfl cM (aa (pv 2) aG)) (pv 3)) (cj GM Bs rfl cM (aa (pv 4) aG))) aG))))))),?_⟩
  try dsimp only[cW];have Fe:i<ms.length:=(aK.mp hi).1
  refine⟨_,rfl,_,rfl,gl,_,_,V.ref h,rfl,rfl,SqL.of BA,by rw[aQ];exact fD _ _,?_⟩
  refine⟨_,rfl,h,dh,nh,rh,lh,kh,BF,ms,rfl,hh,Cr,by lia,λH1 k1=>?_⟩
  have UT:seqIndex? (i:Int) ms.length=some i:=by
   unfold seqIndex?
   simp only[show ¬((i:Int)<0)from(jg (cV _)),if_false];rw[ax (by simp;exact Fe)]
   rfl
  refine⟨_,rfl,fd_ (k1 _ _ hh) TD.cT TD.nMe rfl ⟨.inl ⟨rfl,_,SqL.of (k1 _ _ Cr)⟩,_,rfl,lh,ms,(i:Int),i,V.ref x,rfl,rfl,k1 _ _ Cr,(cV _),by lia,UT,hi,?_⟩⟩
  generalize CJ:upd H1 lh (.lst (ms.eraseIdx i))=H2;have B5:H2 lh=some (.lst (ms.eraseIdx i)):=by rw[<-CJ,aC]
  have k2:∀y o,H y=some o->y≠lh->H2 y=some o:=λy o e ne=>by rw[<-CJ,aj ne];exact k1 y o e
  have BE:∀{y:Addr}{C d:Addr}{fs:List (Str×V)},H y=some (.ins C d fs)->y≠lh:=λe=>dC e Cr (by intro z;cases z)
  have EL:(ms.eraseIdx i).length=ms.length-1:=by
   rw[List.length_eraseIdx,ax Fe]
  refine⟨_,rfl,_,rfl,h,dh,nh,rh,lh,kh,BF,_,rfl,k2 _ _ hh (BE hh),B5,by rw[EL];lia,λH3 k3=>?_⟩
  refine⟨_,rfl,ex2 _ _ ⟨rfl,rfl,_,rfl,ex8 x dx nx rx lx kx Bj n ⟨rfl,k3 _ _ (k2 _ _ hx (BE hx)),k3 _ _ (k2 _ _ EE nnl),hn,λH4 k4=>?_⟩⟩⟩
  have D1:bY H2 H4:=k3.trans k4
  refine ex2 _ _ ⟨rfl,rfl,gl,a0,hs++[h],_,len0,rfl,D1 _ _ (k2 _ _ BA Ir),FA,λy hy=>?_,h0,⟨d0,k0,n0,r0,l0,D1 _ _ (k2 _ _ Dq (BE Dq))⟩,?_⟩
  .obtain⟨dy,ky,ny,ry,Bt,ly,e⟩:=D8 y hy
   exact⟨dy,ky,ny,ry,Bt,ly,D1 _ _ (k2 _ _ e (BE e))⟩
  .rw[EL];unfold iQ at *
   by_cases c:16777216<len0+(((Sw.vary (ms.length-1)).length:Int)-((Sw.vary ms.length).length:Int)-(((nmR n).length:Int)+Bj))
   .rw[ax c]at q |-;exact q
   .rw[ay c]at q |-;intro H' f1 f2 _
    refine q H' (λy o e n1 n2=>f1 y o (D1 _ _ (k2 y o e (λz=>n2 (by rw[z];simp)))) n1 (by simp)) (λy hy dy ky ny ry Bt ly e=>f2 y hy _ _ _ _ _ _ (D1 _ _ (k2 _ _ e (BE e)))) ?_
    refine f1 lh _ (D1 _ _ B5) (λz=>?_) (by simp)
    obtain⟨dy,ky,ny,ry,Bt,ly,e⟩:=D8 lh z
    rw[Cr]at e;cases e
def qZ(CT CV:Addr):Sp:=λvs H Q E=>∃(gl h x a0:Addr)(hs:List Addr)(i:Nat)(dh nh rh lh dx nx rx lx:Addr)(kh kx:Nat)(BF Bj len0:Int)(ms:List V)(n:List UInt8),vs=[.ref gl,.int (i:Int),.ref x]/\H gl=some (.lst ((hs++[h]).map V.ref))/\(hs++[h]).Nodup/\lB CT H (hs++[h]) /\
 (hs++[h])[0]? =some a0/\(∃dx k n r l,H a0=some (.ins CT dx (nf k n r len0 l)))/\H h=some (.ins CT dh (nf kh nh rh BF lh))/\H lh=some (.lst ms)/\ms.length<16777216/\i<=ms.length/\H x=some (.ins CT dx (nf kx nx rx Bj lx))/\H nx=some (.lst (n.map bv))/\n.length<=1000000/\gl≠lh/\nx≠lh /\
 iQ CT CV H Q E a0 len0 (hs++[h]) [lh] (((nmR n).length:Int)+Bj+((Sw.vary (ms.length+1)).length:Int)-((Sw.vary ms.length).length:Int)) λH'=>H' lh=some (.lst (ms.take i++V.ref x::ms.drop i))
theorem An:bq ["holders","i","x","holder","before"] ["holders","i","x"] (aS sIM):=fs_
theorem ok_IM{f HY HS KI:Addr}{fd E2 DI Dr:FuncData}(F:Fun K "insert_member" "insert_member" sIM f fd)(TD:TxD K mg CT)
  (GC:Co P w K mg base CX0 2 HY E2 ["holder"] (xI CT) "count_length")
  (GM:Co P w K mg base CX0 3 HS DI ["node"] (xD CT) "member_length")
  (GL:Co P w K mg base (CXF P w) 4 KI Dr ["holders","grown"] (vN CT CV) "lengthen") :
  bQ P w K mg base (CXF P w) 5 f fd ["holders","i","x"] (qZ CT CV):=by
 refine okX F An (λvs H Q E h=>?_) (λAY A outer s H vs Q E hr h=>?_)
 .obtain⟨gl,h,x,a0,hs,i,dh,nh,rh,lh,dx,nx,rx,lx,kh,kx,BF,Bj,len0,ms,n,rfl,_⟩:=h
  rfl
 .obtain⟨gl,h,x,a0,hs,i,dh,nh,rh,lh,dx,nx,rx,lx,kh,kx,BF,Bj,len0,ms,n,rfl,BA,FA,D8,h0,⟨d0,k0,n0,r0,l0,Dq⟩,hh,Cr,Qy,hi,hx,EE,hn,Ir,nnl,q⟩:=h
  have Bm:cD 2 _:=hr.mono (by decide)
  have Bs:cD 3 _:=hr.mono (by decide)
  refine⟨_,az (bE (i:=3) An.nd rfl (.inl rfl) (dJ cx (pv 0) (eK dF bb) (λξ ξ=>rfl)))
   (az (bE (i:=4) An.nd rfl (.inl rfl) (cj GC Bm rfl cM (aa (pv 3) aG)))
   (az (cY (iW bp PySem.F.slot_list_insert PySem.F.type_list_insert u7 (a6 (pv 3) rfl) (aa (pv 1) (aa (pv 2) aG))))
   (aJ (bK (cj GL hr rfl dG (aa (pv 0) (aa (dI iA (dI gk (cj GM Bs rfl cM (aa (pv 2) aG)) (cj GC Bm rfl cM (aa (pv 3) aG))) (pv 4)) aG))))))),?_⟩
  try dsimp only[cW];refine⟨_,rfl,_,rfl,gl,_,_,V.ref h,rfl,rfl,SqL.of BA,by rw[aQ];exact fD _ _,?_⟩
  refine⟨_,rfl,h,dh,nh,rh,lh,kh,BF,ms,rfl,hh,Cr,by lia,λH1 k1=>?_⟩
  refine⟨_,rfl,fd_ (k1 _ _ hh) TD.cT TD.nMe rfl ⟨.inl ⟨rfl,_,SqL.of (k1 _ _ Cr)⟩,_,rfl,_,rfl,lh,ms,i,V.ref x,rfl,rfl,k1 _ _ Cr,hi,by rw[sizeLine_eq];exact Qy,?_⟩⟩
  generalize CJ:upd H1 lh (.lst (ms.take i++V.ref x::ms.drop i))=H2;have B5:H2 lh=some (.lst (ms.take i++V.ref x::ms.drop i)):=by rw[<-CJ,aC]
  have k2:∀y o,H y=some o->y≠lh->H2 y=some o:=λy o e ne=>by rw[<-CJ,aj ne];exact k1 y o e
  have BE:∀{y:Addr}{C d:Addr}{fs:List (Str×V)},H y=some (.ins C d fs)->y≠lh:=λe=>dC e Cr (by intro z;cases z)
  have EL:(ms.take i++V.ref x::ms.drop i).length=ms.length+1:=by
   rw[ae,ao,aP,aD];lia
  refine⟨_,rfl,_,rfl,ex8 x dx nx rx lx kx Bj n ⟨rfl,k2 _ _ hx (BE hx),k2 _ _ EE nnl,hn,λH3 k3=>?_⟩⟩
  refine⟨_,rfl,h,dh,nh,rh,lh,kh,BF,_,rfl,k3 _ _ (k2 _ _ hh (BE hh)),k3 _ _ B5,by rw[EL];lia,λH4 k4=>?_⟩
  have D1:bY H2 H4:=k3.trans k4
  refine ex2 _ _ ⟨rfl,rfl,_,rfl,ex2 _ _ ⟨rfl,rfl,gl,a0,hs++[h],_,len0,rfl,D1 _ _ (k2 _ _ BA Ir),FA,λy hy=>?_,h0,⟨d0,k0,n0,r0,l0,D1 _ _ (k2 _ _ Dq (BE Dq))⟩,?_⟩⟩
  .obtain⟨dy,ky,ny,ry,Bt,ly,e⟩:=D8 y hy
   exact⟨dy,ky,ny,ry,Bt,ly,D1 _ _ (k2 _ _ e (BE e))⟩
  .rw[EL];unfold iQ at *
   by_cases c:16777216<len0+(((nmR n).length:Int)+Bj+((Sw.vary (ms.length+1)).length:Int)-((Sw.vary ms.length).length:Int))
   .rw[ax c]at q |-;exact q
   .rw[ay c]at q |-;intro H' f1 f2 _
    refine q H' (λy o e n1 n2=>f1 y o (D1 _ _ (k2 y o e (λz=>n2 (by rw[z];simp)))) n1 (by simp)) (λy hy dy ky ny ry Bt ly e=>f2 y hy _ _ _ _ _ _ (D1 _ _ (k2 _ _ e (BE e)))) ?_
    refine f1 lh _ (D1 _ _ B5) (λz=>?_) (by simp)
    obtain⟨dy,ky,ny,ry,Bt,ly,e⟩:=D8 lh z
    rw[Cr]at e;cases e
structure jd(CT:Addr)(B H:Hp)(s:Sh)(v:Sw.Value):Prop where
 sb:bY B H
 ok:NdT CT H s v []
 nd:s.adr.Nodup
 fz:∀x∈s.frz,x∉s.adr
 fb:∀x∈s.adr,B x=none
 pl:v.plain=true
 dp:v.deep<=64
 ln:v.enc.length<=16777216
structure lA(K:Fg_)(CT:Addr)(H:Hp)(s:Sh)(v:Sw.Value)(nm:List UInt8)(p:Nat)(a:List Sw.Step)(u:Sw.Value)(t:Sh)(BI:List UInt8)(hs rest Ba:List Addr)(put:Sh->Sh):Prop where
 ok:NdT CT H t u BI
 inR:∀x∈hs,x∈rest
 adr:s.adr.Perm (rest++t.adr)
 frz:s.frz.Perm (Ba++t.frz)
 nodes:∀x∈hs,∃dx k n r len l,H x=some (.ins CT dx (nf k n r len l))
 way:∀as,Lk K H (v,p) a as->as[0]? =some s.a->as.length=a.length+1->as=hs++[t.a]
 ndh:hs.Nodup
 fin:∀(H':Hp)(t':Sh)(u':Sw.Value)(g:Int),t'.a=t.a->(u'.enc.length:Int)=(u.enc.length:Int)+g->NdT CT H' t' u' BI ->
    (∀x∈hs,∀dx k n r len l,H x=some (.ins CT dx (nf k n r len l))->H' x=some (.ins CT dx (nf k n r (len+g) l)))->(∀x∈rest,x∉hs->∀o,H x=some o->H' x=some o)->KpL H H' Ba ->
    NdT CT H' (put t') (Pm.repl v a u') nm/\(put t').a=s.a/\(put t').adr.Perm (rest++t'.adr)/\(put t').frz.Perm (Ba++t'.frz)
theorem p6{K:Fg_}{CT:Addr}{H:Hp}{a:List Sw.Step}{s:Sh}{v:Sw.Value}{nm:List UInt8}{p:Nat}{u:Sw.Value}{q:Nat}(h1:(Pm.trail (v,p) a).length=a.length+1)(h2:(Pm.trail (v,p) a).getLast? =some (u,q))(h3:NdT CT H s v nm)(h4:s.adr.Nodup) :
  ∃t BI hs rest Ba put,lA K CT H s v nm p a u t BI hs rest Ba put:=by
 obtain⟨t,BI,hs,rest,Ba,put,g1,g2,g3,g4,g5,g6,g7,g8⟩:=grow (K:=K) a s v nm p u q h1 h2 h3 h4
 exact⟨t,BI,hs,rest,Ba,put,g1,g2,g3,g4,g5,g6,g7,g8⟩
theorem lA.ndt{K:Fg_}{CT:Addr}{H:Hp}{s:Sh}{v:Sw.Value}{nm:List UInt8}{p:Nat}{a:List Sw.Step}{u:Sw.Value}{t:Sh}{BI:List UInt8}{hs rest Ba:List Addr}{put:Sh->Sh}(W:lA K CT H s v nm p a u t BI hs rest Ba put)(hn:s.adr.Nodup):(hs++[t.a]).Nodup:=by
 rw[bF];refine⟨W.ndh,by simp,λx hx y hy z=>?_⟩
 rw[aN.mp hy]at z;have h1:(rest++t.adr).Nodup:=W.adr.nodup_iff.mp hn
 refine(bF.mp h1).2.2 x (W.inR x hx) t.a ?_ z
 cases t;unfold Sh.adr;exact a7
theorem lA.nodesAt{K:Fg_}{CT:Addr}{H:Hp}{s:Sh}{v:Sw.Value}{nm:List UInt8}{p:Nat}{a:List Sw.Step}{u:Sw.Value}{t:Sh}{BI:List UInt8}{hs rest Ba:List Addr}{put:Sh->Sh}(W:lA K CT H s v nm p a u t BI hs rest Ba put):lB CT H (hs++[t.a]):=by
 intro x hx;rcases aM.mp hx with hx | hx
 .exact W.nodes x hx
 .rw[aN.mp hx];cases W.ok with
  | mk h1 _ _ _ _=>exact⟨_,_,_,_,_,_,h1⟩
theorem vj{K:Fg_}{CT:Addr}{B H H':Hp}{s:Sh}{v:Sw.Value}{p:Nat}{a:List Sw.Step}{u u':Sw.Value}{ta tl tn tr:Addr}{AZ tms':List Sh}{BI:List UInt8}{hs rest Ba:List Addr}{put:Sh->Sh}{g:Int}{xa xf gone:List Addr}
  (G:jd CT B H s v)(W:lA K CT H s v [] p a u (.node ta tl tn tr AZ) BI hs rest Ba put)(hu:Pm.isHold u)(hk:u'.kind=u.kind)(hlen:(u'.enc.length:Int)=(u.enc.length:Int)+g)
  (f1:∀x o,H x=some o->x∉hs++[ta]->x∉[tl]->H' x=some o)(f2:Lng CT H H' (hs++[ta]) g)(f3:H' tl=some (.lst (tms'.map λs=>V.ref s.a)))(f4:NdTs CT H' tms' (Pm.rowOf u'))
  (MO:(s.adr++xa).Nodup)(EB:(Sh.adrs AZ++xa).Perm (Sh.adrs tms'++gone))(Bk:∀x∈Sh.frzs tms',x∈Sh.frzs AZ\/x∈xf)(MN:∀x∈xf,x∉s.adr++xa)(Nq:∀x∈s.frz,x∉xa)(hB:∀x∈xa,B x=none)
  (Bn:(Pm.repl v a u').plain=true)(DS:(Pm.repl v a u').deep<=64)(IE:(Pm.repl v a u').enc.length<=16777216) :
  ∃s':Sh,s'.a=s.a/\jd CT B H' s' (Pm.repl v a u'):=by
 have Bz:∀x,x∈s.adr↔x∈rest++(ta::tl::Sh.adrs AZ):=λx=>W.adr.mem_iff
 have Qo:(rest++(ta::tl::Sh.adrs AZ)).Nodup:=W.adr.nodup_iff.mp G.nd
 have UQ:ta∈s.adr:=(Bz ta).mpr (by simp)
 have BG:tl∈s.adr:=(Bz tl).mpr (by simp)
 have DD:∀x∈hs++[ta],x∈s.adr:=λx hx=>by
  rcases aM.mp hx with hx | hx
  .exact(Bz x).mpr (aB _ (W.inR x hx))
  .rw[aN.mp hx];exact UQ
 have UV:bY B H':=λx o e=>by
  refine f1 x o (G.sb x o e) (λz=>?_) (λz=>?_)
  .rw[G.fb x (DD x z)]at e;cases e
  .rw[aN.mp z,G.fb tl BG]at e;cases e
 have HD:∀x∈s.frz,∀o,H x=some o->H' x=some o:=λx hx o e=>f1 x o e (λz=>G.fz x hx (DD x z)) (λz=>G.fz x hx (by rw[aN.mp z];exact BG))
 have Hz:∀x,x∈s.frz↔x∈Ba++(tn::tr::Sh.frzs AZ):=λx=>W.frz.mem_iff
 obtain⟨w1,w2,w3,w4⟩:=W.fin H' (.node ta tl tn tr tms') u' g rfl hlen (by
   cases W.ok with
   | mk h1 h2 h3 h4 h5 =>
    rename_i dx
    refine .mk (dx:=dx) ?_ (HD _ ((Hz _).mpr (by simp)) _ h2) ⟨.inl (pS hu hk),h3.2.elim λo y=>⟨o,HD _ ((Hz _).mpr (by simp)) _ y⟩⟩ f3 f4
    rw[hk,hlen];exact f2 ta (by simp) _ _ _ _ _ _ h1) (λx hx=>f2 x (aB _ hx)) (λx hx hn o e=>f1 x o e (λz=>by
   rcases aM.mp z with z | z
   .exact hn z
   .rw[aN.mp z]at hx;exact(bF.mp Qo).2.2 ta hx ta (by simp) rfl) (λz=>by
   rw[aN.mp z]at hx;exact(bF.mp Qo).2.2 tl hx tl (by simp) rfl)) (λx hx o e=>HD x ((Hz x).mpr (aB _ hx)) o e)
 have Bw:(s.adr++xa).Perm ((put (.node ta tl tn tr tms')).adr++gone):=by
  refine dH.mpr λx=>?_
  have e1:=W.adr.count_eq x
  have e2:=w3.count_eq x
  have e3:=EB.count_eq x
  simp only[Sh.adr,d7,fZ]at *;lia
 have JW:∀x∈(put (.node ta tl tn tr tms')).adr,x∈s.adr++xa:=λx hx=>Bw.mem_iff.mpr (aB _ hx)
 refine⟨put (.node ta tl tn tr tms'),w2,UV,w1,(bF.mp (Bw.nodup_iff.mp MO)).1,λx hx z=>?_,λx hx=>?_,Bn,DS,IE⟩
 .have hz:=JW x z
  have hx:=w4.mem_iff.mp hx
  have hold:x∈s.frz->False:=λy=>by
   rcases aM.mp hz with hz | hz
   .exact G.fz x y hz
   .exact Nq x y hz
  rcases aM.mp hx with hx | hx
  .exact hold ((Hz x).mpr (aB _ hx))
  .unfold Sh.frz at hx;rcases aI.mp hx with rfl | hx
   .exact hold ((Hz _).mpr (by simp))
   .rcases aI.mp hx with rfl | hx
    .exact hold ((Hz _).mpr (by simp))
    .rcases Bk x hx with y | y
     .exact hold ((Hz x).mpr (by simp[y]))
     .exact MN x y hz
 .rcases aM.mp (JW x hx)with hx | hx
  .exact G.fb x hx
  .exact hB x hx
theorem NdT.node{CT:Addr}{H:Hp}{s:Sh}{v:Sw.Value}{nm:List UInt8}(h:NdT CT H s v nm):∃dx n r l,H s.a=some (.ins CT dx (nf v.kind n r (v.enc.length:Int) l)):=by
 cases h with
 | mk h1 _ _ _ _=>exact⟨_,_,_,_,h1⟩
theorem uz(xs:List V):pk xs none (some (-1))=xs.dropLast:=by
 unfold pk;rw[HT.sIx_none,ff,Nat.sub_zero,List.dropLast_eq_take];congr 1
 show(if(-1:Int)<0 then((-1:Int)+(xs.length:Int)).toNat else min (-1:Int).toNat xs.length)=_
 rw[ax (by decide)]
 lia
theorem lu{xs:List V}{k:Nat}{y:V}(hk:0<k)(h:xs[xs.length-k]? =some y)(hl:k<=xs.length):atI xs (-(k:Int))=some y:=by
 unfold atI ixN;rw[ay (by lia),ax (by lia)]
 show xs[(-(k:Int)+(xs.length:Int)).toNat]? =_
 rw[show(-(k:Int)+(xs.length:Int)).toNat=xs.length-k by lia]
 exact h
theorem vY{a:List Sw.Step}{v u u':Sw.Value}{p q:Nat}{g:Int}(h1:(Pm.trail (v,p) a).length=a.length+1)(h2:(Pm.trail (v,p) a).getLast? =some (u,q))(h:(u'.enc.length:Int)=(u.enc.length:Int)+g):((Pm.repl v a u').enc.length:Int)=(v.enc.length:Int)+g:=by
 obtain⟨pre,post,e1,_,e3⟩:=Pm.repl_enc a v p u q h1 h2
 rw[e3,e1];simp only[ae];lia
def Chg(CT CL CV:Addr)(B:Hp)(v:Sw.Value)(l:List Sw.Step)(d:Sw.Deed)(Q:VK)(E:XK):Prop:=match v.doneAt l d with
 | none=>gp E CL [.int (-4),.int (((v.leads l).length:Nat):Int)]
 | some v'=>if v'.ok=false then gp E CV [.int (-9)]else ∀(s':Sh)(H':Hp),jd CT B H' s' v'->Q (.ref s'.a) H'
theorem wk{w:Sw.Value}(hp:w.plain=true)(h:16777216<w.enc.length):w.ok=false:=by
 rw[Pm.ok_of hp,ai (p:=w.enc.length<=Sw.MOST) (by unfold Sw.MOST;exact gR h),gC]
theorem ug{w:Sw.Value}(hp:w.plain=true)(hd:w.deep<=64)(h:w.enc.length<=16777216):w.ok=true:=by
 rw[Pm.ok_of hp,ah (p:=w.deep<=Sw.DEEP) hd,ah (p:=w.enc.length<=Sw.MOST) h]
 rfl
theorem uh{w:Sw.Value}(hp:w.plain=true)(h:64<w.deep):w.ok=false:=by
 rw[Pm.ok_of hp,ai (p:=w.deep<=Sw.DEEP) (by unfold Sw.DEEP;exact gR h),fJ]
theorem qr{K:Fg_}{CT CL CV:Addr}{B H H1:Hp}{s:Sh}{v:Sw.Value}{a:List Sw.Step}{u u':Sw.Value}{q0:Nat}{ta tl tn tr:Addr}{AZ tms':List Sh}{BI:List UInt8}{hs rest Ba:List Addr}{put:Sh->Sh}{g:Int}{xa xf gone:List Addr}{Q:VK}{E:XK}{l:List Sw.Step}{d:Sw.Deed}
  (G:jd CT B H s v)(W:lA K CT H s v [] 0 a u (.node ta tl tn tr AZ) BI hs rest Ba put)(h1:(Pm.trail (v,0) a).length=a.length+1)(h2:(Pm.trail (v,0) a).getLast? =some (u,q0))(k1:∀x o,H x=some o->x∈s.adr++s.frz\/B x=some o->H1 x=some o)(hu:Pm.isHold u)(hk:u'.kind=u.kind)(hlen:(u'.enc.length:Int)=(u.enc.length:Int)+g)
  (f4:∀H',(∀x o,H1 x=some o->x∉hs++[ta]->x∉[tl]->H' x=some o)->NdTs CT H' tms' (Pm.rowOf u'))
  (MO:(s.adr++xa).Nodup)(EB:(Sh.adrs AZ++xa).Perm (Sh.adrs tms'++gone))(Bk:∀x∈Sh.frzs tms',x∈Sh.frzs AZ\/x∈xf)(MN:∀x∈xf,x∉s.adr++xa)(Nq:∀x∈s.frz,x∉xa)(hB:∀x∈xa,B x=none)
  (hd:v.doneAt l d=some (Pm.repl v a u'))(Bn:(Pm.repl v a u').plain=true)(DS:(Pm.repl v a u').deep<=64)(q:Chg CT CL CV B v l d Q E) :
  iQ CT CV H1 Q E s.a (v.enc.length:Int) (hs++[ta]) [tl] g λH'=>H' tl=some (.lst (tms'.map λs=>V.ref s.a)):=by
 classical
 have hl:=vY h1 h2 hlen
 unfold iQ;unfold Chg at q;rw[hd]at q;dsimp only at q;rw[<-hl];by_cases c:16777216<(Pm.repl v a u').enc.length
 .rw[ax (by omega)]
  rw[ax (wk Bn c)]at q;exact q
 .rw[ay (by omega)]
  rw[ug Bn DS (bg c),ay (λz=>nomatch z)]at q
  intro H' f1 f2 f3
  have Bz:∀x,x∈s.adr↔x∈rest++(ta::tl::Sh.adrs AZ):=λx=>W.adr.mem_iff
  have DD:∀x∈hs++[ta],x∈s.adr:=λx hx=>by
   rcases aM.mp hx with hx | hx
   .exact(Bz x).mpr (aB _ (W.inR x hx))
   .rw[aN.mp hx];exact(Bz ta).mpr (by simp)
  let H0:Hp:=λx=>if x∈s.adr++s.frz\/(∃o,B x=some o)then H x else none
  have e0:∀x o,H0 x=some o->H1 x=some o:=λx o e=>by
   have e:(if x∈s.adr++s.frz\/(∃o,B x=some o)then H x else none)=some o:=e
   by_cases hx:x∈s.adr++s.frz\/(∃o,B x=some o)
   .rw[ax hx]at e;rcases hx with hx | ⟨o',hx⟩
    .exact k1 x o e (.inl hx)
    .have:=G.sb x o' hx
     rw[e]at this;injection this with this;subst this;exact k1 x o e (.inr hx)
   .rw[ay hx]at e;cases e
  have Lp:∀xs,(∀x∈xs,x∈s.adr++s.frz)->KpL H H0 xs:=λxs Hc x hx o e=>by
   show(if x∈s.adr++s.frz\/(∃o,B x=some o)then H x else none)=some o
   rw[ax (.inl (Hc x hx))];exact e
  have G0:jd CT B H0 s v:=⟨λx o e=>by
   show(if x∈s.adr++s.frz\/(∃o,B x=some o)then H x else none)=some o
   rw[ax (.inr ⟨o,e⟩)];exact G.sb x o e,G.ok.keep (Lp _ λx hx=>aB _ hx) (Lp _ λx hx=>aq _ hx),G.nd,G.fz,G.fb,G.pl,G.dp,G.ln⟩
  have DO:∀x∈s.adr++s.frz,H0 x=H x:=λx hx=>ax (.inl hx)
  have Qn:∀x∈Ba++(tn::tr::Sh.frzs AZ),x∈s.adr++s.frz:=λx hx=>aq _ (W.frz.mem_iff.mpr hx)
  have Fx:∀x∈rest++(ta::tl::Sh.adrs AZ),x∈s.adr++s.frz:=λx hx=>aB _ ((Bz x).mpr hx)
  have W0:lA K CT H0 s v [] 0 a u (.node ta tl tn tr AZ) BI hs rest Ba put:=by
   refine⟨W.ok.keep (Lp _ λx hx=>Fx x (aq _ hx)) (Lp _ λx hx=>Qn x (aq _ hx)),W.inR,W.adr,W.frz,λx hx=>?_,λas Df=>W.way as λi a' e=>?_,W.ndh,λH' t' u' g b1 b2 b3 b4 b5 b6=>W.fin H' t' u' g b1 b2 b3 (λx hx dx k n r len l e=>b4 x hx _ _ _ _ _ _ (by rw[DO x (Fx x (aB _ (W.inR x hx)))];exact e)) (λx hx hn o e=>b5 x hx hn o (by rw[DO x (Fx x (aB _ hx))];exact e)) λx hx o e=>b6 x hx o (by rw[DO x (Qn x (aB _ hx))];exact e)⟩
   .obtain⟨dx,k,n,r,len,l,e⟩:=W.nodes x hx
    exact⟨dx,k,n,r,len,l,by rw[DO x (Fx x (aB _ (W.inR x hx)))];exact e⟩
   .obtain⟨hh,k,ms,y,st,j,z1,z2,z3,z4,⟨C,dx,fs,l',w1,w2,w3,w4,w5,w6,w7⟩,z6⟩:=Df i a' e
    have back:∀x o,H0 x=some o->H x=some o:=λx o e=>by
     have e:(if x∈s.adr++s.frz\/(∃o,B x=some o)then H x else none)=some o:=e
     by_cases hx:x∈s.adr++s.frz\/(∃o,B x=some o)
     .rw[ax hx]at e;exact e
     .rw[ay hx]at e;cases e
    exact⟨hh,k,ms,y,st,j,z1,z2,z3,z4,⟨C,dx,fs,l',back _ _ w1,w2,w3,w4,w5,w6,back _ _ w7⟩,z6⟩
  obtain⟨s',es,G'⟩:=vj G0 W0 hu hk hlen (λx o e n1 n2=>f1 x o (e0 x o e) n1 n2) (λx hx dx k n r len l e=>f2 x hx _ _ _ _ _ _ (e0 _ _ e)) f3 (f4 H' f1) MO EB Bk MN Nq hB Bn DS (bg c)
  have:=q s' H' G'
  rw[es]at this;exact this
def zD(CT CL CV:Addr):Sp:=λvs H Q E=>∃(B:Hp)(s:Sh)(v:Sw.Value)(d:Addr)(ws:List V)(l:List Sw.Step),vs=[.ref s.a,.ref d]/\jd CT B H s v/\B d=some (.lst ws)/\dE B ws l/\l.length<=65536/\Chg CT CL CV B v l .take Q E
theorem sL{H:Hp}{ws:List V}{la:List Sw.Step}{ls:Sw.Step}(h:dE H ws (la++[ls])):∃w0,ws[ws.length-1]? =some w0/\iD H w0 ls:=by
 have hl:=h.len
 rw[ae,a9]at hl;obtain⟨w0,e⟩:∃w0,ws[ws.length-1]? =some w0:=⟨_,aO (by omega)⟩
 obtain⟨s,es,hs⟩:=h.get e
 rw[show ws.length-1=la.length by lia,cZ]at es
 injection es with es;subst es;exact⟨w0,e,hs⟩
theorem og:∀(r:Sw.Row)(i:Nat)(n:List UInt8)(w:Sw.Value),r.get? i=some (n,w)->n∈r.names
 | .nil,_,_,_,h=>by cases h
 | .cons n' v' r,0,n,w,h=>by
  have h:some (n',v')=some (n,w):=h
  have h:=aV h
  rw[Prod.mk.injEq]at h;rw[<-h.1];exact a7
 | .cons n' v' r,i+1,n,w,h=>aA _ (og r i n w h)
theorem u6{v:Sw.Value}(hp:v.plain=true){i:Nat}{n:List UInt8}{w:Sw.Value}(h:v.member i=some (n,w))(hn:Pm.namedOf v=true):Sw.nameOk n=true:=by
 cases v with
 | rec_ m =>
  have hp:(m.plain&&(m.names.all Sw.nameOk&&Sw.rising m.names))=true:=hp
  rw[aE,aE]at hp;rw[Pm.member_eq]at h;exact dU.mp hp.2.1 n (og m i n w h)
 | _=>cases hn
theorem rK{u:Sw.Value}(hp:u.plain=true){i:Nat}{n:List UInt8}{w:Sw.Value}(hm:u.member i=some (n,w)):n.length<=255:=by
 obtain⟨h1,h2⟩:=Pm.name_of hp hm
 cases e:Pm.namedOf u with
 | false=>rw[h1 e];exact aX _
 | true =>
  have:=u6 hp hm e
  unfold Sw.nameOk at this;rw[aE,aE,bw,bw]at this;exact this.2.1
theorem wL{α:Type}{ms:List α}{i:Nat}(h:i<ms.length):ms.eraseIdx i=ms.take i++ms.drop (i+1):=List.eraseIdx_eq_take_drop_succ ms i
theorem Ah:bq ["top","steps","trail","leading"] ["top","steps"] (aS sTA):=fs_
theorem ok_TA{f FJ FK Kw:Addr}{fd EY NX Gm Dr:FuncData}(F:Fun K "take_at" "take_at" sTA f fd)(TD:TxD K mg CT)(len:mg "len" =none)(uc:fm K U CL Fl)(Jv:mg "LeadsNowhere" =some (.ref CL))
  (GL:bQ P w K mg base CX0 2 Fl Dr ["self","leading"] (fK CL 1 aLN))(bL:bZ K Dr ["self","leading"] [])
  (GF:Co P w K mg base CX0 3 FJ EY ["whole","steps"] (vO K) "follow")
  (GM:Co P w K mg base CX0 2 FK NX ["holder","step"] (vP K) "find_member")
  (GR:Co P w K mg base (CXF P w) 5 Kw Gm ["holders","i"] (xy CT CV) "remove_member") :
  bQ P w K mg base (CXF P w) 6 f fd ["top","steps"] (zD CT CL CV):=by
 refine okX F Ah (λvs H Q E h=>?_) (λAY A outer s H vs Q E hr h=>?_)
 .obtain⟨B,s,v,d,ws,l,rfl,_⟩:=h
  rfl
 .obtain⟨B,sh,v,d,ws,l,rfl,G,hd,A',hl,q⟩:=h
  have Bm:cD 2 _:=hr.mono (by decide)
  have Bs:cD 3 _:=hr.mono (by decide)
  refine⟨_,az (bE (i:=2) Ah.nd rfl (.inl rfl) (cj GF Bs rfl cM (aa (pv 0) (aa (pv 1) aG))))
   (az (bE (i:=3) Ah.nd rfl (.inl rfl) (dI iA (ck cB (by rfl) len bo (aa (pv 2) aG)) bb))
   (az (cE (PW.pt (kJ (nY (eI (pv 1) (λξ=>rfl))) (jB (bC jw (pv 3) (ck cB (by rfl) len bo (aa (pv 1) aG)) (bX _)))))
    (aJ (iw uc GL bL rfl Bs cN rfl rfl Jv (aa (pv 3) aG) (by decide))) b7)
   (aJ (bK (cj GR hr rfl dG (aa (iy jh (pv 2) qf (gj (eK dF bb))) (aa (cj GM Bm rfl cM (aa (dJ cx (pv 2) (eK dF bb) (λξ ξ=>rfl)) (aa (dJ cx (pv 1) (eK dF bb) (λξ ξ=>rfl)) aG))) aG))))))),?_⟩
  try dsimp only[cW];have Gg:=G.sb _ _ hd
  refine⟨_,rfl,_,rfl,ex6 _ sh.a d v ws l ⟨rfl,lb TD,ex2 sh [] ⟨rfl,G.ok,G.pl⟩,Gg,A'.same G.sb,hl,λg as H1 k1 II hg D4 Df Dd=>?_⟩⟩
  have BU:=D4.len
  have BG:(Pm.trail (v,0) l).length=(v.leads l).length+1:=Pm.trail_len l (v,0)
  have hle:=Pm.leads_le l v
  have BS:=A'.len
  have DF:=k1 _ _ Gg
  refine⟨_,rfl,ex2 g _ ⟨rfl,.inl (SqL.of hg),ex2 _ _ ⟨rfl,rfl,?_⟩⟩⟩
  have Bv:(((as.map V.ref).length:Nat):Int)-1=(((v.leads l).length:Nat):Int):=by
   rw[au,BU,BG];lia
  refine⟨_,rfl,_,.inl ⟨_,SqL.of DF,rfl⟩,?_⟩
  have bad:(l=[]\/(Pm.trail (v,0) l).length<=l.length)->gp E CL [.int (-4),.int (((v.leads l).length:Nat):Int)]:=λc=>by
   unfold Chg at q;rw[Pm.take_none c]at q;exact q
  rcases cG l with el | ⟨la,ls,el⟩
  .have ew:ws=[]:=by
    rw[el]at BS;exact de.mp BS
   subst ew;refine c9 ⟨_,rfl,rfl,?_⟩
   show gp E CL [.int (-4),.int ((((as.map V.ref).length:Nat):Int)-1)]
   rw[Bv];exact bad (.inl el)
  .rw[cH]at el;have BH:ws≠[]:=λz=>by
    rw[z,el,ae]at BS;exact aW BS (by simp)
   have CH:(!ws.isEmpty)=true:=by
    cases ws with
    | nil=>exact aW rfl BH
    | cons _ _=>rfl
   rw[CH];refine cK ⟨_,rfl,_,rfl,ex2 d _ ⟨rfl,.inl (SqL.of DF),ex2 _ _ ⟨rfl,rfl,_,rfl,?_⟩⟩⟩
   show(if decide ((((as.map V.ref).length:Nat):Int)-1<((ws.length:Nat):Int))=true then _ else _)
   rw[Bv,BS];by_cases c:(Pm.trail (v,0) l).length=l.length+1
   .rw[ai (show ¬((((v.leads l).length:Nat):Int)<((l.length:Nat):Int))by lia)]
    cases Be:(Pm.trail (v,0) l).getLast? with
    | none=>exact aW (bz.mp Be) (Pm.trail_ne _ _)
    | some y =>
     subst el;obtain⟨u,p,i,n,t1,t2,t3,t4,t5,t6⟩:=Pm.trail_front c Be
     obtain⟨t,BI,hs,rest,Ba,put,W⟩:=p6 (K:=K) t1 t2 G.ok G.nd
     have De:as.length=la.length+2:=by rw[BU,c,ae,a9]
     have Bo:=W.way (as.take (la.length+1)) (Df.lk.front t1) (by rw[br (a8 _ _)];exact Dd) (by rw[aP];lia)
     have Vu:as.dropLast=hs++[t.a]:=by rw[List.dropLast_eq_take,De];exact Bo
     have Hh:as[la.length]? =some t.a:=by
      have e1:(as.take (la.length+1))[la.length]? =as[la.length]?:=br (aF _)
      rw[<-e1,Bo];have e2:hs.length=la.length:=by
       have:=congrArg List.length Bo
       rw[aP,ae,a9]at this;lia
      rw[<-e2,cZ]
     obtain⟨w0,Ie,CK⟩:=sL A'
     have DN:=Pm.trail_last_pl G.pl t2
     have Bd:=Pm.memberOf_hold t3
     refine cK ⟨_,rfl,_,rfl,_,rfl,ex2 g _ ⟨rfl,SqL.of hg,λg2 Do=>?_⟩⟩
     rw[uz,<-List.map_dropLast,Vu];have k2:bY H1 (upd H1 g2 (.lst ((hs++[t.a]).map V.ref))):=λb o e=>(aj (ag e Do)).trans e
     have BN:=k1.trans k2
     refine⟨_,rfl,_,rfl,g,_,_,V.ref t.a,rfl,rfl,SqL.of (k2 _ _ hg),?_,_,rfl,_,rfl,ex4 d _ _ w0 ⟨rfl,rfl,SqL.of (k2 _ _ DF),lu (k:=1) (aF _) Ie (by cases ws with | nil=>exact aW rfl BH | cons _ _=>simp),?_⟩⟩
     .refine lu (k:=2) (a8 _ _) ?_ (by rw[au];lia)
      rw[au,bt,show as.length-2=la.length by lia,Hh]
      rfl
     .refine ex5 _ t.a w0 (u,p) ls ⟨rfl,lb TD,ex2 t BI ⟨rfl,W.ok.same BN,DN⟩,(CK.same G.sb).same BN,?_⟩
      have EK:mNo u ls=(i:Int):=by unfold mNo;rw[t3]
      show xy CT CV [.ref g2,.int (mNo u ls)] _ _ _
      rw[EK];have Hx:=W.ndt G.nd
      have Hy:=W.nodesAt
      obtain⟨ta,tl,tn,tr,AZ⟩:=t
      have K8:=W.ok
      cases K8 with
      | mk h1 h2 h3 h4 h5 =>
       rename_i dt
       have Fe:i<AZ.length:=by rw[h5.len];exact Pm.memberOf_lt t3
       obtain⟨sy,Fm⟩:∃sy,AZ[i]? =some sy:=⟨_,aO Fe⟩
       obtain⟨n',w',r1,r2,f1,f2,f3,f4,f5⟩:=h5.split Fm
       have Bz:u.member i=some (n',w'):=by
        have z2:=Pm.rapp_get r1 (.cons n' w' r2) 0
        rw[gw,f2,<-f1]at z2;rw[Pm.member_eq];exact z2
       have Eh:=rK DN Bz
       obtain⟨d0,n0,r0,l0,Dq⟩:=G.ok.node
       have MS:=Pm.row_short Bd
       have MT:u.enc.length<=v.enc.length:=by
        obtain⟨pre,post,e1,_,_⟩:=Pm.repl_enc la v 0 u p t1 t2
        rw[e1];simp only[ae];exact leL (eP _) (fF (aX _) (b8 _ _))
       have Ls:=G.ln
       have B1:=h5.len
       have LB:∀{x:Addr}{o:HO},H x=some o->x≠g2:=λe=>ag (k1 _ _ e) Do
       have V':=f4
       cases f4 with
       | mk y1 y2 y3 y4 y5 =>
        rename_i ya yl yn yr yd yms
        have UH:yn≠tl:=λz=>by
         have hf:yn∈sh.frz:=W.frz.mem_iff.mpr (aq _ (by
          unfold Sh.frz;refine aA _ (aA _ ?_)
          rw[pP Fm,dM];refine aq _ ?_
          show yn∈(Sh.node ya yl yn yr yms).frz++_
          unfold Sh.frz;simp))
         exact G.fz yn hf (W.adr.mem_iff.mpr (by rw[z];simp[Sh.adr]))
        refine⟨g2,ta,ya,sh.a,hs,i,dt,tn,tr,tl,yd,yn,yr,yl,u.kind,w'.kind,_,_,(v.enc.length:Int),_,n',rfl,aC,Hx,λx hx=>?_,?_,⟨d0,_,n0,r0,l0,BN _ _ Dq⟩,BN _ _ h1,BN _ _ h4,by rw[au];lia,by rw[bt,Fm];rfl,BN _ _ y1,BN _ _ y2,by lia,λz=>LB h4 z.symm,UH,?_⟩
        .obtain⟨dx,k,n,r,ln,lx,e⟩:=Hy x hx
         exact⟨dx,k,n,r,ln,lx,BN _ _ e⟩
        .show(hs++[ta])[0]? =some sh.a
         rw[show hs++[ta]=as.take (la.length+1)from Bo.symm,br (a8 _ _)];exact Dd
        .rw[au,show(AZ.map λs=>V.ref s.a).eraseIdx i=(AZ.take i++AZ.drop (i+1)).map (λs=>V.ref s.a)by rw[wL (by rw[au];exact Fe),aQ,gU,iS]]
         have hlen:((Pm.withRow u (Pm.rapp r1 r2)).enc.length:Int)=(u.enc.length:Int)+(((Sw.vary (AZ.length-1)).length:Int)-((Sw.vary AZ.length).length:Int)-(((nmR n').length:Int)+(w'.enc.length:Int))):=by
          have:=Pm.len_more Bd (r1:=r1) (r2:=r2) (n:=n') (w:=w')
          rw[<-f1,Pm.row_self Bd,Pm.nmB_is DN Bz]at this;have e3:AZ.length=r1.length+r2.length+1:=by
           rw[B1,f1,Pm.rapp_len];show r1.length+(r2.length+1)=_
           exact rfl
          rw[e3,show r1.length+r2.length+1-1=r1.length+r2.length from(iG _ _)];unfold nmR;lia
         obtain⟨u',d1,d2,d3,_⟩:=Pm.done_take t3 DN
         have BO:=Pm.take_done t3 f1 f2
         rw[d1]at BO;injection BO with BO;subst BO;obtain⟨Il,E4,CY⟩:=Pm.repl_deep la v 0 u p (Pm.withRow u (Pm.rapp r1 r2)) t1 t2
         have JB:=G.dp
         have VE:∀x∈Sh.adrs AZ,x∈sh.adr:=λx hx=>W.adr.mem_iff.mpr (aq _ (by unfold Sh.adr;simp[hx]))
         have Vo:∀x∈Sh.frzs AZ,x∈sh.frz:=λx hx=>W.frz.mem_iff.mpr (aq _ (by unfold Sh.frz;simp[hx]))
         have EI:(rest++(ta::tl::Sh.adrs AZ)).Nodup:=W.adr.nodup_iff.mp G.nd
         have B2:=bF.mp EI
         have eA:Sh.adrs AZ=Sh.adrs (AZ.take i)++((Sh.node ya yl yn yr yms).adr++Sh.adrs (AZ.drop (i+1))):=by
          conv=>lhs;rw[pP Fm,dY]
          rfl
         have eF:Sh.frzs AZ=Sh.frzs (AZ.take i)++((Sh.node ya yl yn yr yms).frz++Sh.frzs (AZ.drop (i+1))):=by
          conv=>lhs;rw[pP Fm,dM]
          rfl
         refine qr (CL:=CL) (xa:=[]) (xf:=[]) (gone:=(Sh.node ya yl yn yr yms).adr) (tms':=AZ.take i++AZ.drop (i+1)) (u':=Pm.withRow u (Pm.rapp r1 r2)) (l:=la++[ls]) (d:=.take) G W t1 t2 (λx o e ξ=>BN _ _ e) Bd (Pm.withRow_kind _ _) hlen (λH' kk=>?_) (by rw[bJ];exact G.nd) ?_ ?_ (λx hx=>by simp at hx) (λx ξ hx=>by simp at hx) (λx hx=>by simp at hx) ?_ (Pm.repl_plain la v _ G.pl d2) (by lia) q
         .rw[Pm.withRow_row Bd];have hk:∀x∈Sh.adrs (AZ.take i)++Sh.adrs (AZ.drop (i+1)),∀o,H x=some o->H' x=some o:=λx hx o e=>by
           have Cd:x∈Sh.adrs AZ:=by
            rw[eA];rcases aM.mp hx with hx | hx
            .exact aB _ hx
            .exact aq _ (aq _ hx)
           refine kk x o (BN _ _ e) (λz=>?_) (λz=>?_)
           .rcases aM.mp z with z | z
            .exact B2.2.2 x (W.inR x z) x (by simp[Cd]) rfl
            .rw[aN.mp z]at Cd
             exact(bc.mp B2.2.1).1 (aA _ Cd)
           .rw[aN.mp z]at Cd
            exact(bc.mp (bc.mp B2.2.1).2).1 Cd
          have QF:∀x∈Sh.frzs (AZ.take i)++Sh.frzs (AZ.drop (i+1)),∀o,H x=some o->H' x=some o:=λx hx o e=>by
           have Cd:x∈sh.frz:=Vo x (by
            rw[eF];rcases aM.mp hx with hx | hx
            .exact aB _ hx
            .exact aq _ (aq _ hx))
           refine kk x o (BN _ _ e) (λz=>G.fz x Cd ?_) (λz=>G.fz x Cd ?_)
           .refine W.adr.mem_iff.mpr ?_
            rcases aM.mp z with z | z
            .exact aB _ (W.inR x z)
            .rw[aN.mp z];exact aq _ (by unfold Sh.adr;simp)
           .refine W.adr.mem_iff.mpr ?_
            rw[aN.mp z];exact aq _ (by unfold Sh.adr;simp)
          exact NdTs.append (f3.keep (λx hx o e=>hk x (aB _ hx) o e) λx hx o e=>QF x (aB _ hx) o e) (f5.keep (λx hx o e=>hk x (aq _ hx) o e) λx hx o e=>QF x (aq _ hx) o e)
         .rw[bJ,eA,dY];refine dH.mpr λx=>?_
          simp only[d7];exact Eq.trans (Nat.add_left_comm _ _ _) (dj _ _)
         .intro x hx;rw[dM]at hx;rw[eF];rcases aM.mp hx with hx | hx
          .exact .inl (aB _ hx)
          .exact .inl (aq _ (aq _ hx))
         .rw[Pm.doneAt_snoc la v 0 u p ls _ t1 t2,d1];rfl
   .rw[ah (show((((v.leads l).length:Nat):Int)<((l.length:Nat):Int))by lia)]
    refine c9 ⟨_,rfl,rfl,?_⟩
    show gp E CL [.int (-4),.int ((((as.map V.ref).length:Nat):Int)-1)]
    rw[Bv];exact bad (.inr (by lia))
structure PN where
 a:Addr
 m:Addr
 b:Addr
 r:Addr
 dx:Addr
 l:Addr
 w:Sw.Value
 p:Nat
 np:Nat
 n:List UInt8
 nm:List UInt8
structure xj(CP CT:Addr)(B:Hp)(bs:List UInt8)(G:Hp)(c:PN):Prop where
 nd:Nd CP B bs c.m c.w c.p c.np c.n
 at_:G c.a=some (.ins CT c.dx (nf c.w.kind c.b c.r (c.w.enc.length:Int) c.l))
 nm:G c.b=some (.lst (c.nm.map bv))
 row:Pm.isHold c.w\/G c.r=some (.lst (c.w.enc.map bv))
 rl:∃xs,G c.r=some (.lst xs)
theorem xj.same{CP CT:Addr}{B:Hp}{bs:List UInt8}{G G':Hp}{c:PN}(h:xj CP CT B bs G c)(k:∀x o,x=c.a\/x=c.b\/x=c.r->G x=some o->G' x=some o):xj CP CT B bs G' c :=
 ⟨h.nd,k _ _ (.inl rfl) h.at_,k _ _ (.inr (.inl rfl)) h.nm,h.row.imp id λy=>k _ _ (.inr (.inr rfl)) y,let ⟨xs,y⟩:=h.rl;⟨xs,k _ _ (.inr (.inr rfl)) y⟩⟩
inductive gZ(CT:Addr)(H:Hp):List PN->List Sh->Prop
 | nil:gZ CT H [] []
 | cons {c:PN} {cs:List PN} {s:Sh} {ss:List Sh}:s.a=c.a->NdT CT H s c.w c.nm->gZ CT H cs ss->gZ CT H (c::cs) (s::ss)
theorem gZ.append{CT:Addr}{H:Hp}{cs:List PN}{ss:List Sh}{ds:List PN}{ts:List Sh}(h:gZ CT H cs ss)(k:gZ CT H ds ts):gZ CT H (cs++ds) (ss++ts):=by
 induction h with
 | nil=>exact k
 | cons h1 h2 _ ih=>exact .cons h1 h2 ih
theorem gZ.split{CT:Addr}{H:Hp}:∀(cs ds:List PN){ss:List Sh},gZ CT H (cs++ds) ss->∃s1 s2,ss=s1++s2/\gZ CT H cs s1/\gZ CT H ds s2
 | [],ds,ss,h=>⟨[],ss,rfl,.nil,h⟩
 | c::cs,ds,_,.cons h1 h2 h3=>by
  obtain⟨s1,s2,rfl,e1,e2⟩:=gZ.split cs ds h3
  exact⟨_::s1,s2,rfl,.cons h1 h2 e1,e2⟩
inductive oU:List PN->Sw.Row->Prop
 | nil:oU [] .nil
 | cons {c:PN} {cs:List PN} {r:Sw.Row}:oU cs r->oU (c::cs) (.cons c.nm c.w r)
theorem gZ.row{CT:Addr}{H:Hp}{cs:List PN}{r:Sw.Row}(h:oU cs r):∀{ss:List Sh},gZ CT H cs ss->NdTs CT H ss r/\ss.map Sh.a=cs.map (·.a):=by
 induction h with
 | nil =>
  intro ss k;cases k;exact⟨.nil,rfl⟩
 | cons _ ih =>
  intro ss k;cases k with
  | cons k1 k2 k3 =>
   obtain⟨e1,e2⟩:=ih k3
   exact⟨.cons k2 e1,by rw[bj,bj,e2,k1]⟩
def sizes(cs:List PN):Nat:=(cs.map λc=>Pm.cntV c.w+1).sum
theorem ji(a b:List PN):sizes (a++b)=sizes a+sizes b:=by
 unfold sizes;rw[aQ,List.sum_append]
theorem oU.sizes{cs:List PN}{r:Sw.Row}(h:oU cs r):sizes cs=Pm.cntR r:=by
 induction h with
 | nil=>rw[Pm.cntR_nil];rfl
 | cons _ ih =>
  rw[Pm.cntR_cons,<-ih];unfold L2.J.sizes;rw[bj,iR];lia
theorem lO:∀cs:List PN,cs.length<=sizes cs
 | []=>aX _
 | c::cs=>by
  have:=lO cs
  unfold sizes at *
  rw[bj,iR,ao];exact leL (dj _ _) (fF (a8 _ _) this)
theorem rq:∀(r:Sw.Row)(cs:List PN),cs.length=r.length->(∀j c,cs[j]? =some c->r.get? j=some (c.nm,c.w))->oU cs r
 | .nil,[],_,_=>.nil
 | .nil,_::_,h,_=>by cases h
 | .cons n w r,[],h,_=>by cases h
 | .cons n w r,c::cs,h,k=>by
  have e:some (n,w)=some (c.nm,c.w):=k 0 c rfl
  injection e with e;injection e with e1 e2;subst e1 e2;exact .cons (rq r cs (Nat.succ.inj h) λj c' e=>k (j+1) c' e)
structure MemI(CP CT:Addr)(B:Hp)(bs:List UInt8)(G0 G:Hp)(D:Addr)(u:Sw.Value)(as:List Addr)(i:Nat)(cs:List PN):Prop where
 same:bY G0 G
 len:cs.length=i
 list:G D=some (.lst (cs.map λc=>V.ref c.a))
 ok:∀c∈cs,xj CP CT B bs G c/\G0 c.a=none/\c.a≠D/\(∃o,B c.b=some o)/\G0 c.r=none/\c.r≠D
 nd:(cs.map (·.a)).Nodup
 idx:∀j c,cs[j]? =some c->(Pm.rowOf u).get? j=some (c.nm,c.w)/\as[j]? =some c.m
structure MkI(CP CT:Addr)(B H G:Hp)(bs:List UInt8)(gP gN top:Addr)(v:Sw.Value)(X XF:List Addr)(pend:List PN):Prop where
 same:bY H G
 parts:G gP=some (.lst (pend.map λc=>V.ref c.m))
 nodes:G gN=some (.lst (pend.map λc=>V.ref c.a))
 ok:∀c∈pend,xj CP CT B bs G c/\H c.a=none/\((∃o,B c.b=some o)\/H c.b=none)/\H c.r=none/\c.b≠gP/\c.b≠gN/\c.r≠gP/\c.r≠gN/\c.b∉X/\c.r∉X
 nd:(X++pend.map (·.a)).Nodup
 xs:∀x∈X,H x=none/\x≠gP/\x≠gN/\∃o,G x=some o
 fs:∀x∈XF,(H x=none\/∃o,B x=some o)/\x≠gP/\x≠gN/\x∉X/\∃xs,G x=some (.lst xs)
 gs:gP≠gN/\H gP=none/\H gN=none
 wand:∀(Hs:Hp)(ss:List Sh),KpL G Hs X->KpL G Hs XF->gZ CT Hs pend ss->∃s:Sh,s.a=top/\NdT CT Hs s v []/\s.adr.Perm (X++Sh.adrs ss)/\s.frz.Perm (XF++Sh.frzs ss)
def xE(K:Fg_)(CP CT:Addr):Sp:=λvs H Q ξ=>∃(B:Hp)(a m:Addr)(bs:List UInt8)(v:Sw.Value)(p np:Nat)(n:List UInt8),vs=[.ref a,.ref m]/\bY B H/\SqL K B a (bs.map bv)/\bs.length<=65536/\Nd CP B bs m v p np n /\
 ∀(s:Sh)(H':Hp),bY H H'->NdT CT H' s v []->s.adr.Nodup->(∀x∈s.adr,H x=none)->(∀x∈s.frz,x∉s.adr)->(∀x∈s.frz,H x=none\/∃o,B x=some o)->Q (.ref s.a) H'
theorem rj:bq ["row","part","top","parts","nodes","node","members","member"] ["row","part"] (aS sMK):=fs_
theorem ok_MK{f IV:Addr}{fd Bl:FuncData}(F:Fun K "make_tree" "make_tree" sMK f fd)(TP:TxP K mg CP)(TD:TxD K mg CT)(M:Mk K CT IV)
  (GN:bQ P w K mg base CX0 2 IV Bl ["self","row","part"] (zY K CP CT))(bN:bZ K Bl ["self","row","part"] []) :
  bQ P w K mg base CX0 4 f fd ["row","part"] (xE K CP CT):=by
 refine F.ok rj (λvs H Q E h=>?_) (λAY A outer s H vs Q E hr h=>?_)
 .obtain⟨B,a,m,bs,v,p,np,n,rfl,_⟩:=h
  rfl
 .obtain⟨B,a,m,bs,v,p,np,n,rfl,hB,hs,hz,nd,q⟩:=h
  refine⟨_,az (bE (i:=2) rj.nd rfl (.inl rfl) (jm M GN hr rfl TD.mT bN .nil cM (aa (pv 0) (aa (pv 1) aG))))
   (az (dv (pv 2) (ee aG) rfl)
   (az (bE (i:=3) rj.nd rfl (.inl rfl) (ee (aa (pv 1) aG)))
   (az (bE (i:=4) rj.nd rfl (.inl rfl) (ee (aa (pv 2) aG)))
   (az (iV PassesOwn.never (eI (pv 4) (λξ=>rfl))
    (az (bE (i:=5) rj.nd rfl (.inl rfl) (qi bp PySem.F.slot_list_pop PySem.F.type_list_pop qo (pv 4)))
    (az (bE (i:=6) rj.nd rfl (.inl rfl) (a6 (qi bp PySem.F.slot_list_pop PySem.F.type_list_pop qo (pv 3)) rfl))
    (az (dv (pv 5) (lX rfl rj.nd (kM (pv 6)) (jb (own:=[("member",7)]) (by kernel_rfl)) (λs H C cl fp=>fv (i:=7) rj.nd rfl (.inl rfl)) (λs H C cl fp=>jR) (λs H C cl fp pn xe fl hp=>jm M GN hr rfl TD.mT bN .nil cM (aa (pv 0) (aa (pv 7) aG))) ft0 rfl ⟨outer,rfl⟩ rfl) rfl)
    (az (cY (iW bp PySem.F.slot_list_extend PySem.F.type_list_extend ir (pv 3) (aa (pv 6) aG)))
    (aJ (cY (iW bp PySem.F.slot_list_extend PySem.F.type_list_extend ir (pv 4) (aa (a6 (pv 5) rfl) aG)))))))))
   (aJ (bK (pv 2))))))),?_⟩
  try dsimp only[cW];have Bn:=nd.pl
  have NC:=Pm.cntV_le v
  have UM:=nd.at_.le
  refine⟨_,rfl,_,rfl,λz dz nz Li Ms=>?_⟩
  have sc:bY H (upd (upd H dz (.own z)) z (.ins CT dz [])):=λb o e=>by
   rw[aj (ag e nz),aj (ag e Li)];exact e
  refine⟨B,z,dz,a,m,bs,v,p,np,n,rfl,aC,sc.seq (hB.seq hs),hB.trans sc,nd,λl r b H1 hl hr Zd hb Fu Fb C5 JN k1=>⟨rfl,?_⟩⟩
  have s1:bY H H1:=bY.made nz Li k1
  have MZ:H r=none:=sc.free hr
  refine⟨aX _,λt ht=>⟨_,rfl,z,CT,dz,_,rfl,(aj (ag Fu ht)).trans Fu,TD.cT,TD.nNa,(by show 5<1000;decide),?_⟩⟩
  have S0:t≠z:=λy=>by rw[y,Fu]at ht;cases ht
  generalize CJ:upd (upd H1 t (.lst [])) z _=H2;have Jy:H2 z=some (.ins CT dz (nf v.kind t r (v.enc.length:Int) l)):=by rw[<-CJ,aC];rfl
  have JD:H2 t=some (.lst []):=by rw[<-CJ,aj S0,aC]
  have k2:∀x o,H1 x=some o->x≠z->H2 x=some o:=λx o e n=>by rw[<-CJ,aj n,aj (ag e ht)];exact e
  have s2:bY H H2:=λx o e=>k2 x o (s1 x o e) (ag e nz)
  obtain⟨xr,Bf⟩:=JN
  have Fp:r≠z:=dC Bf Fu (by intro y;cases y)
  have Bm:=k2 _ _ Bf Fp
  have UR:H t=none:=s1.free ht
  refine⟨_,rfl,(by show 1<=sizeLine;decide),λgP J7=>?_⟩
  refine⟨_,rfl,(by show 1<=sizeLine;decide),λgN IH=>?_⟩
  generalize DU:upd (upd H2 gP (.lst [V.ref m])) gN (.lst [V.ref z])=H3;have s3:bY H2 H3:=λx o e=>by
   rw[<-DU,aj (λy=>by rw[<-y,aj (ag e J7),e]at IH;cases IH),aj (ag e J7)]
   exact e
  have Fq:gP≠gN:=λy=>by rw[<-y,aC]at IH;cases IH
  have HB:H2 gN=none:=by rw[aj (ba Fq)]at IH;exact IH
  have VQ:H3 gP=some (.lst [V.ref m]):=by rw[<-DU,aj Fq,aC]
  have VS:H3 gN=some (.lst [V.ref z]):=by rw[<-DU,aC]
  refine⟨λtm σ G=>∃v5 v6 v7,σ=[some (.ref a),some (.ref m),some (.ref z),some (.ref gP),some (.ref gN),v5,v6,v7]/\∃X XF pend,MkI CP CT B H G bs gP gN z v X XF pend/\tm=sizes pend/\tm<=Pm.cntV v+1,
   ⟨Pm.cntV v+1,none,none,none,rfl,[],[],[⟨z,m,t,r,dz,l,v,p,np,n,[]⟩],?_,by unfold sizes;simp,aF _⟩,?_⟩
  .refine⟨s2.trans s3,VQ,VS,λc hc=>?_,by simp,(λx hx=>by simp at hx),(λx hx=>by simp at hx),⟨Fq,s2.free J7,s2.free HB⟩,λHs ss ξ ξ JH=>?_⟩
   .rw[aN.mp hc];refine⟨⟨nd,s3 _ _ Jy,s3 _ _ JD,C5.imp id λy=>s3 _ _ (k2 _ _ y Fp),xr,s3 _ _ Bm⟩,nz,.inr UR,MZ,ag JD J7,ag JD HB,ag Bm J7,ag Bm HB,by simp,by simp⟩
   .cases JH with
    | cons e1 e2 e3 =>
     cases e3;exact⟨_,e1,e2,by simp[Sh.adrs],by simp[Sh.frzs]⟩
  .rintro tm σ G ⟨v5,v6,v7,rfl,X,XF,pend,I,rfl,Ew⟩
   refine⟨_,rfl,_,.inl ⟨_,SqL.of I.nodes,rfl⟩,?_⟩
   rcases cG pend with ep | ⟨rest,c,ep⟩
   .subst ep;obtain⟨s',e1,e2,e3,e4⟩:=I.wand G [] (λx ξ o e=>e) (λx ξ o e=>e) .nil
    have e3:s'.adr.Perm (X++[]):=e3
    have e4:s'.frz.Perm (XF++[]):=e4
    rw[bJ]at e3 e4;have hx:=I.nd
    rw[List.map_nil,bJ]at hx;refine cK ⟨_,rfl,?_⟩
    rw[<-e1];exact q s' G I.same e2 (e3.nodup_iff.mpr hx) (λx hx=>(I.xs x (e3.mem_iff.mp hx)).1) (λx hx hy=>(I.fs x (e4.mem_iff.mp hx)).2.2.2.1 (e3.mem_iff.mp hy)) (λx hx=>(I.fs x (e4.mem_iff.mp hx)).1)
   .rw[cH]at ep;subst ep;obtain⟨Du,LW,XN,XH,Ol,Om,K4,K5,XM,XG⟩:=I.ok c (by simp)
    have DB:=I.nodes
    have ED:=I.parts
    rw[aQ]at DB ED;have CH:(!((rest++[c]).map λc=>V.ref c.a).isEmpty)=true:=by rw[aQ];simp
    rw[CH];have Fq:=I.gs.1
    refine c9 ⟨_,λσ' G' h=>h,?_⟩
    refine⟨_,rfl,.inl ⟨rfl,_,SqL.of DB⟩,gN,_,V.ref c.a,rfl,rfl,DB,by rw[ae];simp,?_⟩
    rw[show(rest.map (λc=>V.ref c.a)++[c].map λc=>V.ref c.a).dropLast=rest.map λc=>V.ref c.a from eU]
    generalize HM:upd G gN (.lst (rest.map λc=>V.ref c.a))=G1
    have QZ:G1 gP=some (.lst (rest.map (λc=>V.ref c.m)++[c].map λc=>V.ref c.m)):=by rw[<-HM,aj Fq];exact ED
    refine e4_ Du.nd.pt λbm lm Ja dm=>c5_ λZi BD IF hlen U9=>?_
    have Zc:G c.m=_:=I.same _ _ (hB _ _ BD)
    have mP:c.m≠gP:=ag (hB _ _ BD) I.gs.2.1
    have mN:c.m≠gN:=ag (hB _ _ BD) I.gs.2.2
    have lP:lm≠gP:=ag (hB _ _ IF) I.gs.2.1
    have lN:lm≠gN:=ag (hB _ _ IF) I.gs.2.2
    refine⟨_,rfl,.inl ⟨rfl,_,SqL.of QZ⟩,gP,_,V.ref c.m,rfl,rfl,QZ,by rw[ae];simp,?_⟩
    rw[show(rest.map (λc=>V.ref c.m)++[c].map λc=>V.ref c.m).dropLast=rest.map λc=>V.ref c.m from eU]
    generalize IP:upd G1 gP (.lst (rest.map λc=>V.ref c.m))=G2
    have kG:∀x o,G x=some o->x≠gP->x≠gN->G2 x=some o:=λx o e n1 n2=>by rw[<-IP,aj n1,<-HM,aj n2];exact e
    have LI:G2 gN=some (.lst (rest.map λc=>V.ref c.a)):=by rw[<-IP,aj (ba Fq),<-HM,aC]
    have LH:G2 gP=some (.lst (rest.map λc=>V.ref c.m)):=by rw[<-IP,aC]
    have Px:bY H G2:=λx o e=>kG x o (I.same x o e) (ag e I.gs.2.1) (ag e I.gs.2.2)
    have FV:bY B G2:=hB.trans Px
    refine fd_ (FV _ _ BD) TP.cP TP.nMe rfl ?_
    refine⟨_,rfl,lm,rfl,⟨_,SqL.of (FV _ _ IF)⟩,λD hD=>?_⟩
    have Mv:D≠gP:=λy=>by rw[y,LH]at hD;cases hD
    have P9:D≠gN:=λy=>by rw[y,LI]at hD;cases hD
    refine qu (xs:=Ja.map V.ref) (λi Gi=>∃cs,MemI CP CT B bs G2 Gi D c.w Ja i cs) ?_ ?_ ?_ ?_
    .exact⟨[],λx o e=>(aj (ag e hD)).trans e,rfl,aC,(λc hc=>by simp at hc),by simp,λj c e=>by simp at e⟩
    .rintro i Gi _ ⟨cs,J⟩
     exact J.same.seq (SqL.of (FV _ _ IF))
    .rintro i x Gi hx ⟨cs,J⟩
     obtain⟨mi,N',rfl⟩:=pO hx
     have Fe:i<Ja.length:=(aK.mp N').1
     obtain⟨ni,wi,PJ,Oa,PY⟩:=U9 i mi N'
     refine⟨rfl,tW ?_⟩
     refine⟨_,rfl,_,rfl,λz2 LR Im Js PR=>?_⟩
     have Ld:bY Gi (upd (upd Gi LR (.own z2)) z2 (.ins CT LR [])):=λb o e=>by
      rw[aj (ag e Im),aj (ag e Js)];exact e
     have Md:bY B Gi:=FV.trans J.same
     refine⟨B,z2,LR,a,mi,bs,wi,_,PJ,ni,rfl,aC,Ld.seq (Md.seq hs),Md.trans Ld,PY,λl2 r2 b2 G3 B5 Bm Vd Fh Lq Dm JM Hn k3=>⟨rfl,?_⟩⟩
     have Le:bY Gi G3:=bY.made Im Js k3
     obtain⟨Sm,Hn⟩:=Hn
     have NO:Gi D=some (.lst (cs.map λc=>V.ref c.a)):=J.list
     have Jg:z2≠D:=λy=>by rw[y,NO]at Im;cases Im
     have GO:r2≠D:=λy=>by
      have:=Ld _ _ NO
      rw[<-y,Bm]at this;cases this
     have Mt:b2≠D:=ag (FV _ _ Fh) hD
     have CI:cs.length<sizeLine:=by
      rw[J.len,sizeLine_eq];have h1:=Pm.cntV_le c.w
      have h2:=Du.nd.at_.le
      have h3:=j6 (Pm.rowOf c.w)
      rw[<-Pm.cnt_row]at h3;lia
     refine⟨_,Le _ _ NO,by rw[au];exact CI,cs++[⟨z2,mi,b2,r2,LR,l2,wi,Pm.mplace c.w c.p i,PJ,ni,ni⟩],?_⟩
     have kD:∀x o,G3 x=some o->x≠D->upd G3 D (.lst ((cs.map λc=>V.ref c.a)++[V.ref z2])) x=some o:=λx o e n=>(aj n).trans e
     refine⟨λx o e=>kD x o (Le _ _ (J.same x o e)) (ag e hD),by rw[ae,J.len];rfl,by rw[aC,aQ];rfl,λc' hc'=>?_,?_,λj c' e=>?_⟩
     .rcases aM.mp hc' with hc' | hc'
      .obtain⟨o1,o2,o3,o4,o5,o6⟩:=J.ok c' hc'
       refine⟨o1.same λx o hx e=>kD x o (Le _ _ e) ?_,o2,o3,o4,o5,o6⟩
       rcases hx with rfl | rfl | rfl
       .exact o3
       .obtain⟨o',Ej⟩:=o4
        exact ag (FV _ _ Ej) hD
       .exact o6
      .rw[aN.mp hc'];refine⟨⟨PY,kD _ _ Lq Jg,kD _ _ (Le _ _ (Md _ _ Fh)) Mt,JM.imp id λy=>kD _ _ y GO,Sm,kD _ _ Hn GO⟩,J.same.free Im,Jg,⟨_,Fh⟩,J.same.free (Ld.free Bm),GO⟩
     .rw[aQ,bF];refine⟨J.nd,by simp,λx hx y hy e=>?_⟩
      obtain⟨c',hc',rfl⟩:=dX.mp hx
      have hy:y=z2:=by simpa using hy
      obtain⟨o1,_⟩:=J.ok c' hc'
      have:=o1.at_
      rw[show c'.a=z2 from e.trans hy,Im]at this;cases this
     .by_cases hj:j<cs.length
      .rw[cg hj]at e;exact J.idx j c' e
      .have Ly:j=cs.length:=by
        have:=(aK.mp e).1
        rw[ae,a9]at this;exact cu (bA this) (bg hj)
       rw[Ly,cZ]at e;injection e with e;rw[<-e,Ly,J.len];exact⟨by rw[<-Pm.member_eq];exact Oa,N'⟩
    .rintro G4 ⟨cs,J⟩
     rw[au]at J;have F9:=rq (Pm.rowOf c.w) cs (by rw[J.len,hlen]) λj c' e=>(J.idx j c' e).1
     have U3:cs.map (·.m)=Ja:=by
      refine List.ext_getElem? λj=>?_
      rw[bt];cases e:cs[j]? with
      | none =>
       have:=cv.mp e
       rw[cv.mpr (by rw[<-J.len];exact this)]
       rfl
      | some c'=>rw[(J.idx j c' e).2];rfl
     have Gs:c.a≠gN:=λy=>dC Du.at_ I.nodes (by intro z;cases z) y
     have FP:c.a≠gP:=λy=>dC Du.at_ I.parts (by intro z;cases z) y
     have ND:=J.same _ _ (kG _ _ Du.at_ FP Gs)
     have RB:c.a≠D:=ag (kG _ _ Du.at_ FP Gs) hD
     refine⟨_,rfl,c.a,CT,c.dx,_,rfl,ND,TD.cT,TD.nMe,(by show 5<1000;decide),?_⟩
     generalize Q7:upd G4 c.a _=G5;have Kb:G5 c.a=some (.ins CT c.dx (nf c.w.kind c.b c.r (c.w.enc.length:Int) D)):=by rw[<-Q7,aC];rfl
     have k5:∀x o,G4 x=some o->x≠c.a->G5 x=some o:=λx o e n=>by rw[<-Q7,aj n];exact e
     have QY:=k5 _ _ (J.same _ _ LH) (ba FP)
     have Q0:=k5 _ _ (J.same _ _ LI) (ba Gs)
     have Q9:=k5 _ _ J.list (ba RB)
     have S6:lm≠c.a:=ag (hB _ _ IF) LW
     have Ng:=k5 _ _ (J.same _ _ (FV _ _ IF)) S6
     have C3:sizes (rest++[c])=sizes rest+(Pm.cntV c.w+1):=by rw[ji];unfold sizes;simp
     have JE:sizes cs=Pm.cntV c.w:=by rw[F9.sizes,Pm.cnt_row]
     have Fb:=lO rest
     have B5:=lO cs
     have VB:Ja.length=cs.length:=J.len.symm
     refine⟨_,rfl,.inl ⟨rfl,_,SqL.of QY⟩,_,rfl,ex4 gP lm _ _ ⟨rfl,rfl,QY,Ng,by rw[au,au,sizeLine_eq];lia,?_⟩⟩
     generalize Fi:upd G5 gP (.lst ((rest.map λc=>V.ref c.m)++Ja.map V.ref))=G6
     have k6:∀x o,G5 x=some o->x≠gP->G6 x=some o:=λx o e n=>by rw[<-Fi,aj n];exact e
     have VP:G6 gP=some (.lst ((rest++cs).map λc=>V.ref c.m)):=by
      rw[<-Fi,aC,aQ,<-U3,eT];rfl
     refine⟨_,rfl,.inl ⟨rfl,_,SqL.of (k6 _ _ Q0 (ba Fq))⟩,_,rfl,fd_ (k6 _ _ Kb FP) TD.cT TD.nMe rfl (ex4 gN D _ _ ⟨rfl,rfl,k6 _ _ Q0 (ba Fq),k6 _ _ Q9 Mv,by rw[au,au,sizeLine_eq];lia,?_⟩)⟩
     generalize Q6:upd G6 gN (.lst ((rest.map λc=>V.ref c.a)++cs.map λc=>V.ref c.a))=G7
     have k7:∀x o,G6 x=some o->x≠gN->G7 x=some o:=λx o e n=>by rw[<-Q6,aj n];exact e
     have BR:∀x o,G x=some o->x≠gP->x≠gN->x≠c.a->G7 x=some o:=λx o e n1 n2 n3=>k7 _ _ (k6 _ _ (k5 _ _ (J.same _ _ (kG x o e n1 n2)) n3) n1) n2
     have GX:∀x o,G4 x=some o->x≠gP->x≠gN->x≠c.a->G7 x=some o:=λx o e n1 n2 n3=>k7 _ _ (k6 _ _ (k5 _ _ e n3) n1) n2
     have Ka:=k7 _ _ (k6 _ _ Kb FP) Gs
     have Q8:=k7 _ _ (k6 _ _ Q9 Mv) P9
     have By:∀{x:Addr}{xs:List V},G x=some (.lst xs)->x≠c.a:=λe=>dC e Du.at_ (by intro z;cases z)
     obtain⟨YO,Hd⟩:=Du.rl
     have QU:=BR _ _ Du.nm Ol Om (By Du.nm)
     have M0:=BR _ _ Hd K4 K5 (By Hd)
     have old:∀{x:Addr}{o:HO},G x=some o->x≠gP->x≠gN->x≠D:=λe n1 n2=>ag (kG _ _ e n1 n2) hD
     have EH:=bF.mp I.nd
     have On:c.a∈(rest++[c]).map (·.a):=by simp
     have Oo:c.a∉X:=λy=>EH.2.2 c.a y c.a On rfl
     have DX:D∉X:=λy=>by
      obtain⟨_,n1,n2,o,e⟩:=I.xs D y
      exact old e n1 n2 rfl
     have DH:∀{x:Addr},G2 x=none->H x=none:=λe=>Px.free e
     refine⟨sizes (rest++cs),by rw[ji,C3,JE];exact aF _,_,_,_,rfl,c.a::D::X,c.b::c.r::XF,rest++cs,⟨λx o e=>?_,?_,?_,λc' hc'=>?_,?_,λx hx=>?_,λx hx=>?_,I.gs,λHs ss kX kF JH=>?_⟩,rfl,by rw[ji,JE];rw[C3]at Ew;exact cq Ew⟩
     .exact BR x o (I.same x o e) (ag e I.gs.2.1) (ag e I.gs.2.2) (ag e LW)
     .exact k7 _ _ VP Fq
     .rw[<-Q6,aC,aQ]
     .rcases aM.mp hc' with hc' | hc'
      .obtain⟨o1,o2,o3,o4,o5,o6,o7,o8,o9,SY⟩:=I.ok c' (aB _ hc')
       obtain⟨YQ,He⟩:=o1.rl
       have Ov:c'.a≠gN:=λy=>dC o1.at_ I.nodes (by intro z;cases z) y
       have Ou:c'.a≠gP:=λy=>dC o1.at_ I.parts (by intro z;cases z) y
       have Ot:c'.a≠c.a:=λy=>by
        have:=EH.2.1
        rw[aQ,bF]at this;exact this.2.2 c'.a (d8 hc') c.a (by simp) y
       refine⟨o1.same λx o hx e=>?_,o2,o3,o4,o5,o6,o7,o8,λy=>?_,λy=>?_⟩
       .rcases hx with rfl | rfl | rfl
        .exact BR _ _ e Ou Ov Ot
        .exact BR _ _ e o5 o6 (By o1.nm)
        .exact BR _ _ e o7 o8 (By He)
       .rcases aI.mp y with y | y
        .exact By o1.nm y
        .rcases aI.mp y with y | y
         .exact old o1.nm o5 o6 y
         .exact o9 y
       .rcases aI.mp y with y | y
        .exact By He y
        .rcases aI.mp y with y | y
         .exact old He o7 o8 y
         .exact SY y
      .obtain⟨o1,o2,o3,⟨ob,o4⟩,o5,o6⟩:=J.ok c' hc'
       have Ou:c'.a≠gP:=λy=>by rw[y,LH]at o2;cases o2
       have Ov:c'.a≠gN:=λy=>by rw[y,LI]at o2;cases o2
       have Ot:c'.a≠c.a:=λy=>by rw[y,kG _ _ Du.at_ FP Gs]at o2;cases o2
       have RH:c'.b≠gP:=ag (hB _ _ o4) I.gs.2.1
       have RI:c'.b≠gN:=ag (hB _ _ o4) I.gs.2.2
       have RF:c'.b≠c.a:=ag (hB _ _ o4) LW
       have Pz:c'.r≠gP:=λy=>by rw[y,LH]at o5;cases o5
       have PB:c'.r≠gN:=λy=>by rw[y,LI]at o5;cases o5
       have Py:c'.r≠c.a:=λy=>by rw[y,kG _ _ Du.at_ FP Gs]at o5;cases o5
       refine⟨o1.same λx o hx e=>?_,DH o2,.inl ⟨ob,o4⟩,DH o5,RH,RI,Pz,PB,λy=>?_,λy=>?_⟩
       .rcases hx with rfl | rfl | rfl
        .exact GX _ _ e Ou Ov Ot
        .exact GX _ _ e RH RI RF
        .exact GX _ _ e Pz PB Py
       .rcases aI.mp y with y | y
        .exact RF y
        .rcases aI.mp y with y | y
         .exact ag (FV _ _ o4) hD y
         .exact ag (hB _ _ o4) (I.xs _ y).1 rfl
       .rcases aI.mp y with y | y
        .exact Py y
        .rcases aI.mp y with y | y
         .exact o6 y
         .obtain⟨_,n1,n2,o',e'⟩:=I.xs _ y
          rw[kG _ _ e' n1 n2]at o5;cases o5
     .
      have Bk:∀c'∈cs,c'.a∉X/\c'.a≠c.a/\c'.a≠D/\∀c2∈rest,c'.a≠c2.a:=λc' hc'=>by
       obtain⟨o1,o2,o3,_⟩:=J.ok c' hc'
       refine⟨λy=>?_,λy=>?_,o3,λc2 Fg y=>?_⟩
       .obtain⟨_,n1,n2,o',e'⟩:=I.xs _ y
        rw[kG _ _ e' n1 n2]at o2;cases o2
       .rw[y,kG _ _ Du.at_ FP Gs]at o2;cases o2
       .obtain⟨p1,_⟩:=I.ok c2 (aB _ Fg)
        rw[y,kG _ _ p1.at_ (λy=>dC p1.at_ I.parts (by intro z;cases z) y) (λy=>dC p1.at_ I.nodes (by intro z;cases z) y)]at o2
        cases o2
      have Cp:=EH.2.1
      rw[aQ,bF]at Cp;have VZ:∀c2∈rest++[c],c2.a≠D:=λc2 Fg=>by
       obtain⟨p1,_⟩:=I.ok c2 Fg
       exact old p1.at_ (λy=>dC p1.at_ I.parts (by intro z;cases z) y) (λy=>dC p1.at_ I.nodes (by intro z;cases z) y)
      rw[aQ,cX,cX,bc,bc,bF,bF];refine⟨λy=>?_,λy=>?_,EH.1,⟨Cp.1,J.nd,λx hx y hy e=>?_⟩,λx hx y hy e=>?_⟩
      .rcases aI.mp y with y | y
       .exact RB y
       .rcases aM.mp y with y | y
        .exact Oo y
        .rcases aM.mp y with y | y
         .exact Cp.2.2 c.a y c.a (by simp) rfl
         .obtain⟨c',hc',e⟩:=dX.mp y
          exact(Bk c' hc').2.1 e
      .rcases aM.mp y with y | y
       .exact DX y
       .rcases aM.mp y with y | y
        .obtain⟨c',hc',e⟩:=dX.mp y
         exact VZ c' (aB _ hc') e
        .obtain⟨c',hc',e⟩:=dX.mp y
         exact(Bk c' hc').2.2.1 e
      .obtain⟨c2,Fg,rfl⟩:=dX.mp hx
       obtain⟨c',hc',rfl⟩:=dX.mp hy
       exact(Bk c' hc').2.2.2 c2 Fg e.symm
      .rcases aM.mp hy with hy | hy
       .exact EH.2.2 x hx y (by rw[aQ];exact aB _ hy) e
       .obtain⟨c',hc',rfl⟩:=dX.mp hy
        exact(Bk c' hc').1 (e▸hx)
     .rcases aI.mp hx with rfl | hx
      .exact⟨LW,FP,Gs,_,Ka⟩
      .rcases aI.mp hx with rfl | hx
       .exact⟨DH hD,Mv,P9,_,Q8⟩
       .obtain⟨n0,n1,n2,o,e⟩:=I.xs x hx
        exact⟨n0,n1,n2,o,BR _ _ e n1 n2 (λy=>Oo (y▸hx))⟩
     .have GQ:∀{y:Addr}{xs:List V},G y=some (.lst xs)->y≠gP->y≠gN->y∉X->y∉c.a::D::X:=λe n1 n2 n3 z=>by
       rcases aI.mp z with z | z
       .exact By e z
       .rcases aI.mp z with z | z
        .exact old e n1 n2 z
        .exact n3 z
      rcases aI.mp hx with rfl | hx
      .exact⟨XN.symm,Ol,Om,GQ Du.nm Ol Om XM,_,QU⟩
      .rcases aI.mp hx with rfl | hx
       .exact⟨.inl XH,K4,K5,GQ Hd K4 K5 XG,_,M0⟩
       .obtain⟨n0,n1,n2,n3,xs,e⟩:=I.fs x hx
        exact⟨n0,n1,n2,GQ e n1 n2 n3,xs,BR _ _ e n1 n2 (By e)⟩
     .obtain⟨s1,s2,rfl,e1,e2⟩:=gZ.split rest cs JH
      obtain⟨e3,e4⟩:=gZ.row F9 e2
      have Uy:KpL G Hs X:=λx hx o e=>by
       obtain⟨_,n1,n2,_⟩:=I.xs x hx
       exact kX x (by simp[hx]) o (BR _ _ e n1 n2 (λy=>Oo (y▸hx)))
      have Uz:KpL G Hs XF:=λx hx o e=>by
       obtain⟨_,n1,n2,_,xs,e'⟩:=I.fs x hx
       exact kF x (by simp[hx]) o (BR _ _ e n1 n2 (By e'))
      have JV:NdT CT Hs (.node c.a D c.b c.r s2) c.w c.nm:=by
       refine .mk (kX _ (by simp) _ Ka) (kF _ (by simp) _ QU) ⟨Du.row.imp id λy=>kF _ (by simp) _ (BR _ _ y K4 K5 (By y)),Du.rl.elim λxs y=>⟨_,kF _ (by simp) _ (BR _ _ y K4 K5 (By y))⟩⟩ ?_ e3
       have:=kX D (by simp) _ Q8
       rw[this];have e5:(s2.map Sh.a).map V.ref=(cs.map (·.a)).map V.ref:=by rw[e4]
       rw[eT,eT]at e5;exact congrArg (λz=>some (HO.lst z)) e5.symm
      obtain⟨s',w1,w2,w3,w4⟩:=I.wand Hs (s1++[.node c.a D c.b c.r s2]) Uy Uz (e1.append (.cons rfl JV .nil))
      refine⟨s',w1,w2,w3.trans ?_,w4.trans ?_⟩
      .rw[dY,dY];refine dH.mpr λx=>?_
       simp only[Sh.adrs,Sh.adr,d7,fZ,List.count_nil,cX];lia
      .rw[dM,dM];refine dH.mpr λx=>?_
       simp only[Sh.frzs,Sh.frz,d7,fZ,List.count_nil,cX];lia
def z9(K:Fg_):Sp:=λvs H Q ξ=>∃(k n:Nat)(b:Addr)(ys:List V),vs=[.int (k:Int),.int (n:Int),.ref b]/\SqL K H b ys/\n<34359738368/\ys.length+6<=sizeLine/\∀(x:Addr)(H':Hp),bY H H'->H x=none->H' x=some (.lst (V.int (k:Int)::((Sw.vary n).map bv++ys)))->Q (.ref x) H'
structure TE1 where
 s:Sh
 w:Sw.Value
 nm:List UInt8
def rF(stk:List TE1):List UInt8:=stk.reverse.flatMap λx=>nmR x.nm++x.w.enc
theorem uX(r:List TE1)(x:TE1):rF (r++[x])=nmR x.nm++x.w.enc++rF r:=by
 unfold rF;rw[List.reverse_append];rfl
def szT(stk:List TE1):Nat:=(stk.map λx=>Pm.cntV x.w+1).sum
theorem j4(a b:List TE1):szT (a++b)=szT a+szT b:=by
 unfold szT;rw[aQ,List.sum_append]
theorem tX(a:List TE1):szT a.reverse=szT a:=by
 unfold szT;rw[List.map_reverse,List.sum_reverse]
theorem tY:∀a:List TE1,a.length<=szT a
 | []=>aX _
 | c::cs=>by
  have:=tY cs
  unfold szT at *
  rw[bj,iR,ao];exact leL (dj _ _) (fF (a8 _ _) this)
theorem yx(n:List UInt8):n.length<=(nmR n).length:=by
 unfold nmR;by_cases h:n=[]
 .rw[h];exact aX _
 .rw[ay h,ae];exact a8 _ _
theorem t9{CT:Addr}{H:Hp}{named:Bool}:∀{ms:List Sh}{r:Sw.Row},NdTs CT H ms r->(∀n∈r.names,Pm.nmB named n=nmR n)->r.plain=true ->
  ∃es:List TE1,es.map (λx=>V.ref x.s.a)=ms.map (λs=>V.ref s.a)/\(∀x∈es,NdT CT H x.s x.w x.nm/\x.w.plain=true)/\szT es=Pm.cntR r/\(es.flatMap λx=>nmR x.nm++x.w.enc)=r.enc named
 | _,_,.nil,_,_=>⟨[],rfl,(λx hx=>by simp at hx),by rw[Pm.cntR_nil];rfl,by rw[Pm.enc_nil];rfl⟩
 | _,_,.cons (s:=s) (nm:=nm) (w:=w) (r:=r) h1 h2,hn,hp=>by
  have M6:(w.plain&&r.plain)=true:=hp
  rw[aE]at M6
  obtain⟨es,e1,e2,e3,e4⟩:=t9 h2 (λn Eh=>hn n (aA _ Eh)) M6.2
  refine⟨⟨s,w,nm⟩::es,by rw[bj,bj,e1],λx hx=>?_,?_,?_⟩
  .rcases aI.mp hx with rfl | hx
   .exact⟨h1,M6.1⟩
   .exact e2 x hx
  .rw[Pm.cntR_cons,<-e3];unfold szT;rw[bj,iR];dsimp only;lia
  .rw[List.flatMap_cons,e4,Pm.enc_cons,hn nm a7,aY]
theorem tD{u:Sw.Value}(hp:u.plain=true):∀n∈(Pm.rowOf u).names,Pm.nmB (Pm.namedOf u) n=nmR n:=by
 intro n hn;obtain⟨i,hi⟩:=dZ hn
 rw[iZ]at hi;cases e:(Pm.rowOf u).get? i with
 | none=>rw[e]at hi;cases hi
 | some x =>
  obtain⟨n',w⟩:=x
  rw[e]at hi;have hi:some n'=some n:=hi
  injection hi with hi;subst hi;exact Pm.nmB_is hp (by rw[Pm.member_eq];exact e)
theorem rN{u:Sw.Value}(hp:u.plain=true):(Pm.rowOf u).plain=true:=by
 cases u with
 | list m =>
  have hp:(m.plain&&_)=true:=hp
  rw[aE]at hp;exact hp.1
 | rec_ m =>
  have hp:(m.plain&&_)=true:=hp
  rw[aE]at hp;exact hp.1
 | _=>rfl
def zC(CT:Addr):Sp:=λvs H Q ξ=>∃(s:Sh)(v:Sw.Value),vs=[.ref s.a]/\NdT CT H s v []/\v.plain=true/\v.enc.length<=16777216/\∀(x:Addr)(H':Hp),bY H H'->H' x=some (.lst (v.enc.map bv))->Q (.ref x) H'
theorem scKR:bq ["kind","how_many","inner"] ["kind","how_many","inner"] (aS sKR):=fs_
theorem ok_KR{f FH:Addr}{fd Cv:FuncData}(F:Fun K "counted_row" "counted_row" sKR f fd)
  (GV:Co P w K mg base CX0 1 FH Cv ["amount"] vM "vary_row") :
  bQ P w K mg base CX0 2 f fd ["kind","how_many","inner"] (z9 K):=by
 refine F.ok scKR (λvs H Q E h=>?_) (λAY A outer s H vs Q E hr h=>?_)
 .obtain⟨k,n,b,ys,rfl,_⟩:=h
  rfl
 .obtain⟨k,n,b,ys,rfl,hb,hn,hy,q⟩:=h
  refine⟨_,aJ (bK (dI ql (dI ql (ee (aa (pv 0) aG)) (cj GV hr rfl cM (aa (pv 1) aG))) (pv 2))),?_⟩
  try dsimp only[cW];refine⟨_,rfl,(by show 1<=sizeLine;decide),λy MI=>?_⟩
  have l5:=jP (n:=n) hn
  have ky:bY H (upd H y (.lst [V.int (k:Int)])):=λb o e=>(aj (ag e MI)).trans e
  refine⟨_,rfl,n,rfl,hn,λx H1 k1 hx h1=>?_⟩
  refine ex4 y x _ _ ⟨rfl,rfl,SqL.of (k1 _ _ aC),SqL.of h1,?_,λp hp=>?_⟩
  .rw[au];show 1+_<=_
   lia
  .have kp:bY H1 (upd H1 p (.lst ([V.int (k:Int)]++(Sw.vary n).map bv))):=λb o e=>(aj (ag e hp)).trans e
   have kk:=ky.trans (k1.trans kp)
   refine⟨_,rfl,ex4 p b _ _ ⟨rfl,rfl,SqL.of aC,kk.seq hb,?_,λp2 Qr=>?_⟩⟩
   .rw[ae,au];show 1+_+_<=_
    lia
   .refine q p2 _ (λb o e=>(aj (ag (kk _ _ e) Qr)).trans (kk _ _ e)) (kk.free Qr) ?_
    rw[aC,aY];rfl
theorem xQ:bq ["top","made","left","node"] ["top"] (aS sTW):=fs_
theorem ok_TW{f HR KL:Addr}{fd EZ V8:FuncData}(F:Fun K "tree_row" "tree_row" sTW f fd)(TD:TxD K mg CT)(k5:GI mg "LIST" 5)(k6:GI mg "RECORD" 6)(len:mg "len" =none)(Tn:mg "list" =none)(Tj:mg "reversed" =none)
  (GN:Co P w K mg base CX0 2 HR EZ ["name"] xC "name_row")
  (GK:Co P w K mg base CX0 2 KL V8 ["kind","how_many","inner"] (z9 K) "counted_row") :
  bQ P w K mg base CX0 3 f fd ["top"] (zC CT):=by
 refine F.ok xQ (λvs H Q E h=>?_) (λAY A outer s H vs Q E hr h=>?_)
 .obtain⟨s,v,rfl,_⟩:=h
  rfl
 .obtain⟨s0,v,rfl,hv,Bn,IE,q⟩:=h
  refine⟨_,az (bE (i:=1) xQ.nd rfl (.inl rfl) (ee aG))
   (az (bE (i:=2) xQ.nd rfl (.inl rfl) (ee (aa (pv 0) aG)))
   (az (iV PassesOwn.never (eI (pv 2) (λξ=>rfl))
    (az (bE (i:=3) xQ.nd rfl (.inl rfl) (qi bp PySem.F.slot_list_pop PySem.F.type_list_pop qo (pv 2)))
    (az (cY (iW bp PySem.F.slot_list_extend PySem.F.type_list_extend ir (pv 1) (aa (cj GN hr rfl cM (aa (a6 (pv 3) rfl) aG)) aG)))
    (aJ (cE (bC iY (a6 (pv 3) rfl) (jD (aa (pgi k5 rfl) (aa (pgi k6 rfl) aG))) (by with_unfolding_all rfl))
     (az (cY (iW bp PySem.F.slot_list_extend PySem.F.type_list_extend ir (pv 1) (aa (cj GK hr rfl cM (aa (a6 (pv 3) rfl) (aa (ck cB (by rfl) len bo (aa (a6 (pv 3) rfl) aG)) (aa (ee aG) aG)))) aG)))
     (aJ (cY (iW bp PySem.F.slot_list_extend PySem.F.type_list_extend ir (pv 2) (aa (sS rfl rfl Tn rfl Tj (aa (a6 (pv 3) rfl) aG)) aG)))))
     (aJ (cY (iW bp PySem.F.slot_list_extend PySem.F.type_list_extend ir (pv 1) (aa (a6 (pv 3) rfl) aG)))))))))
   (aJ (bK (pv 1))))),?_⟩
  try dsimp only[cW];refine⟨aX _,λgM LC=>?_⟩
  refine⟨_,rfl,(by show 1<=sizeLine;decide),λgL LD=>?_⟩
  have GZ:gM≠gL:=λy=>by rw[<-y,aC]at LD;cases LD
  have HC:H gL=none:=by rw[aj (ba GZ)]at LD;exact LD
  have NC:=Pm.cntV_le v
  refine⟨λtm σ G=>∃v3,σ=[some (.ref s0.a),some (.ref gM),some (.ref gL),v3]/\∃(acc:List UInt8)(stk:List TE1),bY H G/\G gM=some (.lst (acc.map bv))/\G gL=some (.lst (stk.map λx=>V.ref x.s.a))/\(∀x∈stk,NdT CT H x.s x.w x.nm/\x.w.plain=true)/\acc++rF stk=v.enc/\tm=szT stk/\tm<=Pm.cntV v+1,
   ⟨Pm.cntV v+1,none,rfl,[],[⟨s0,v,[]⟩],?_,?_,aC,?_,?_,by unfold szT;simp,aF _⟩,?_⟩
  .exact λb o e=>(aj (ag e HC)).trans ((aj (ag e LC)).trans e)
  .rw[aj GZ,aC];rfl
  .intro x hx;rw[aN.mp hx];exact⟨hv,Bn⟩
  .show rF [⟨s0,v,[]⟩]=v.enc
   unfold rF nmR;simp
  .rintro tm σ G ⟨v3,rfl,acc,stk,kG,hM,hL,Hj,D6,rfl,Ew⟩
   refine⟨_,rfl,_,.inl ⟨_,SqL.of hL,rfl⟩,?_⟩
   rcases cG stk with ep | ⟨rest,x,ep⟩
   .subst ep;refine cK ⟨_,rfl,q gM G kG ?_⟩
    have:acc++[]=v.enc:=D6
    rw[bJ]at this;rw[hM,this]
   .rw[cH]at ep;subst ep;obtain⟨hx,MJ⟩:=Hj x (by simp)
    rw[uX]at D6;have hlen:=congrArg List.length D6
    simp only[ae]at hlen;have Uw:=sizeLine_eq
    have C3:szT (rest++[x])=szT rest+(Pm.cntV x.w+1):=by rw[j4];unfold szT;simp
    have Fb:=tY rest
    have E9:=yx x.nm
    rw[aQ]at hL |-;have CH:(!((rest.map λx=>V.ref x.s.a)++[x].map λx=>V.ref x.s.a).isEmpty)=true:=by simp
    rw[CH];refine c9 ⟨_,λσ' G' h=>h,?_⟩
    refine⟨_,rfl,.inl ⟨rfl,_,SqL.of hL⟩,gL,_,V.ref x.s.a,rfl,rfl,hL,by rw[ae];simp,?_⟩
    rw[show((rest.map λx=>V.ref x.s.a)++[x].map λx=>V.ref x.s.a).dropLast=rest.map λx=>V.ref x.s.a from eU]
    generalize HM:upd G gL (.lst (rest.map λx=>V.ref x.s.a))=G1
    have s1:bY H G1:=λb o e=>by rw[<-HM,aj (ag e HC)];exact kG b o e
    have Q1:G1 gM=some (.lst (acc.map bv)):=by rw[<-HM,aj GZ];exact hM
    have Kg:G1 gL=some (.lst (rest.map λx=>V.ref x.s.a)):=by rw[<-HM,aC]
    have Cd:=hx
    obtain⟨xs,xw,xn⟩:=x
    dsimp only at hx Cd MJ hlen D6 C3 E9;cases hx with
    | mk h1 h2 h3 h4 h5 =>
     rename_i xa xl xb xr xd Bp
     refine⟨_,rfl,.inl ⟨rfl,_,SqL.of Q1⟩,_,rfl,fd_ (s1 _ _ h1) TD.cT TD.nNa rfl (ex2 xb xn ⟨rfl,s1 _ _ h2,by lia,λy G2 k2 hy IQ=>?_⟩)⟩
     refine ex4 gM y _ _ ⟨rfl,rfl,k2 _ _ Q1,IQ,by rw[au,au];lia,?_⟩
     rw[<-aQ];generalize DG:upd G2 gM (.lst ((acc++nmR xn).map bv))=G3;have s3:bY H G3:=λb o e=>by rw[<-DG,aj (ag e LC)];exact k2 _ _ (s1 b o e)
     have LJ:G3 gM=some (.lst ((acc++nmR xn).map bv)):=by rw[<-DG,aC]
     have Q3:G3 gL=some (.lst (rest.map λx=>V.ref x.s.a)):=by rw[<-DG,aj (ba GZ)];exact k2 _ _ Kg
     refine⟨_,rfl,fd_ (s3 _ _ h1) TD.cT TD.nKi rfl ⟨(by show 2<=sizeLine;decide),λt ht=>ex2 t _ ⟨rfl,.inr (SqT.of aC),rfl,rfl,_,rfl,?_⟩⟩⟩
     rw[show(if false=true then !inV (.int (xw.kind:Int)) [.int 5,.int 6]else inV (.int (xw.kind:Int)) [.int 5,.int 6])=decide (xw.kind=5\/xw.kind=6)from qz (a:=5) (b:=6)]
     generalize VW:upd G3 t (.tup [.int 5,.int 6])=G4;have k4:bY G3 G4:=λb o e=>by rw[<-VW,aj (ag e ht)];exact e
     have s4:=s3.trans k4
     by_cases c:xw.kind=5\/xw.kind=6
     .rw[ah c];have Bd:Pm.isHold xw:=c
      have Za:=Pm.row_short Bd
      have QD:=h5.len
      have EL:Bp.length<=xw.enc.length:=by lia
      refine c9 ⟨_,rfl,.inl ⟨rfl,_,SqL.of (k4 _ _ LJ)⟩,_,rfl,fd_ (s4 _ _ h1) TD.cT TD.nKi rfl ⟨_,rfl,fd_ (s4 _ _ h1) TD.cT TD.nMe rfl (ex2 xl _ ⟨rfl,.inl (SqL.of (s4 _ _ h4)),aX _,λe he=>?_⟩)⟩⟩
      have ke:bY G4 (upd G4 e (.lst [])):=λb o e'=>(aj (ag e' he)).trans e'
      refine⟨xw.kind,Bp.length,e,[],by show[V.int (xw.kind:Int),V.int ((Bp.map λs=>V.ref s.a).length:Int),V.ref e]=_;rw[au],SqL.of aC,by lia,by rw[Uw];decide,λy2 G5 k5 MH Rc=>?_⟩
      have ME:=ke.trans k5
      have Wf:V.int (xw.kind:Int)::((Sw.vary Bp.length).map bv++[])=((UInt8.ofNat xw.kind::Sw.vary Bp.length).map bv):=by
       rw[bJ,bj,wU (by rcases c with c | c<;>lia)]
      rw[Wf]at Rc
      obtain⟨K1,_⟩:=Pm.hold_enc Bd
      have J9:=congrArg List.length K1
      rw[ao,ae]at J9;refine ex4 gM y2 _ _ ⟨rfl,rfl,ME _ _ (k4 _ _ LJ),Rc,?_,?_⟩
      .rw[au,au,ae,ao,QD];lia
      rw[<-aQ];generalize Fi:upd G5 gM (.lst ((acc++nmR xn++(UInt8.ofNat xw.kind::Sw.vary Bp.length)).map bv))=G6;have s6:bY H G6:=λb o e=>by rw[<-Fi,aj (ag e LC)];exact ME _ _ (s4 b o e)
      have VU:G6 gM=some (.lst ((acc++nmR xn++(UInt8.ofNat xw.kind::Sw.vary Bp.length)).map bv)):=by rw[<-Fi,aC]
      have Q2:G6 gL=some (.lst (rest.map λx=>V.ref x.s.a)):=by rw[<-Fi,aj (ba GZ)];exact ME _ _ (k4 _ _ Q3)
      refine⟨_,rfl,.inl ⟨rfl,_,SqL.of Q2⟩,_,rfl,fd_ (s6 _ _ h1) TD.cT TD.nMe rfl (ex2 xl _ ⟨rfl,SqL.of (s6 _ _ h4),λy3 UK=>?_⟩)⟩
      have k7:bY G6 (upd G6 y3 (.lst (Bp.map λs=>V.ref s.a).reverse)):=λb o e=>(aj (ag e UK)).trans e
      have Vx:=j6 (Pm.rowOf xw)
      rw[<-Pm.cnt_row]at Vx;refine ex4 gL y3 _ _ ⟨rfl,rfl,k7 _ _ Q2,aC,by rw[au,eZ,au];lia,?_⟩
      obtain⟨es,e1,e2,e3,e4⟩:=t9 (named:=Pm.namedOf xw) h5 (tD MJ) (rN MJ)
      generalize NL:upd (upd G6 y3 _) gL _=G8;have VV:G8 gL=some (.lst ((rest++es.reverse).map λx=>V.ref x.s.a)):=by
       rw[<-NL,aC,aQ,List.map_reverse,e1]
      have VT:G8 gM=some (.lst ((acc++nmR xn++(UInt8.ofNat xw.kind::Sw.vary Bp.length)).map bv)):=by
       rw[<-NL,aj GZ];exact k7 _ _ VU
      refine⟨szT (rest++es.reverse),by rw[j4,tX,e3,C3,Pm.cnt_row];exact aF _,_,rfl,acc++nmR xn++(UInt8.ofNat xw.kind::Sw.vary Bp.length),rest++es.reverse,λb o e=>?_,VT,VV,λy hy=>?_,?_,rfl,by rw[j4,tX,e3,<-Pm.cnt_row];rw[C3]at Ew;exact cq Ew⟩
      .rw[<-NL,aj (ag e HC)];exact k7 _ _ (s6 b o e)
      .rcases aM.mp hy with hy | hy
       .exact Hj y (aB _ hy)
       .exact e2 y (List.mem_reverse.mp hy)
      .unfold rF;rw[List.reverse_append,List.reverse_reverse,List.flatMap_append,e4];rw[<-D6,K1,QD];unfold rF;simp only[aY,cX]
     .rw[ai c];have C5:H xr=some (.lst (xw.enc.map bv)):=h3.1.resolve_left c
      refine cK ⟨_,rfl,.inl ⟨rfl,_,SqL.of (k4 _ _ LJ)⟩,_,rfl,fd_ (s4 _ _ h1) TD.cT TD.nRo rfl (ex4 gM xr _ _ ⟨rfl,rfl,k4 _ _ LJ,s4 _ _ C5,by rw[au,au,ae];lia,?_⟩)⟩
      rw[<-aQ];generalize Fi:upd G4 gM _=G6;refine⟨szT rest,by rw[C3];exact bO (b8 _ _),_,rfl,acc++nmR xn++xw.enc,rest,λb o e=>?_,by rw[<-Fi,aC],by rw[<-Fi,aj (ba GZ)];exact k4 _ _ Q3,λy hy=>Hj y (aB _ hy),?_,rfl,by rw[C3]at Ew;exact Nat.le_of_add_right_le Ew⟩
      .rw[<-Fi,aj (ag e LC)];exact s4 b o e
      .rw[<-D6];simp only[aY]
structure XOk(CT:Addr)(B H:Hp)(s x:Sh)(w:Sw.Value):Prop where
 ok:NdT CT H x w []
 nd:x.adr.Nodup
 fz:∀y∈x.frz,y∉x.adr
 fb:∀y∈x.adr,B y=none
 ap:∀y∈x.adr,y∉s.adr/\y∉s.frz
 xf:∀y∈x.frz,y∉s.adr
 pl:w.plain=true
 dp:w.deep<=64
theorem tq{K:Fg_}{CT CL CV:Addr}{B H H1:Hp}{s:Sh}{v:Sw.Value}{la:List Sw.Step}{u w:Sw.Value}{p0:Nat}{ta tl tn tr:Addr}{AZ:List Sh}{BI:List UInt8}{hs rest Ba:List Addr}{put:Sh->Sh}{xa xl xn xr g2:Addr}{Bp:List Sh}{n:List UInt8}{i:Nat}{r1 r2:Sw.Row}{Q:VK}{E:XK}{l:List Sw.Step}{d:Sw.Deed}
  (G:jd CT B H s v)(W:lA K CT H s v [] 0 la u (.node ta tl tn tr AZ) BI hs rest Ba put)(t1:(Pm.trail (v,0) la).length=la.length+1)(t2:(Pm.trail (v,0) la).getLast? =some (u,p0))(Bd:Pm.isHold u)
  (k1:∀x o,H x=some o->x∈s.adr++s.frz\/B x=some o->H1 x=some o)(Do:H1 g2=some (.lst ((hs++[ta]).map V.ref)))(Np:g2≠tl)(h0:(hs++[ta])[0]? =some s.a)
  (hx:NdT CT H1 (.node xa xl xn xr Bp) w n)(Sn:(Sh.node xa xl xn xr Bp).adr.Nodup)(ap:∀y∈(Sh.node xa xl xn xr Bp).adr,y∉s.adr/\y∉s.frz)(xf:∀y∈(Sh.node xa xl xn xr Bp).frz,y∉s.adr/\y∉(Sh.node xa xl xn xr Bp).adr)(xB:∀y∈(Sh.node xa xl xn xr Bp).adr,B y=none)(hn:n.length<=1000000)
  (er:Pm.rowOf u=Pm.rapp r1 r2)(el:r1.length=i)(DC:Pm.nmB (Pm.namedOf u) n=nmR n)(hd:v.doneAt l d=some (Pm.repl v la (Pm.withRow u (Pm.rapp r1 (.cons n w r2)))))(Bn:(Pm.repl v la (Pm.withRow u (Pm.rapp r1 (.cons n w r2)))).plain=true)(DS:(Pm.repl v la (Pm.withRow u (Pm.rapp r1 (.cons n w r2)))).deep<=64)(q:Chg CT CL CV B v l d Q E) :
  qZ CT CV [.ref g2,.int (i:Int),.ref xa] H1 Q E:=by
 have Hx:=W.ndt G.nd
 have Hy:=W.nodesAt
 have Bq:∀y,y∈s.adr↔y∈rest++(ta::tl::Sh.adrs AZ):=λy=>W.adr.mem_iff
 have B3:∀y,y∈s.frz↔y∈Ba++(tn::tr::Sh.frzs AZ):=λy=>W.frz.mem_iff
 have kA:∀y∈s.adr,∀o,H y=some o->H1 y=some o:=λy hy o e=>k1 y o e (.inl (aB _ hy))
 have kF:∀y∈s.frz,∀o,H y=some o->H1 y=some o:=λy hy o e=>k1 y o e (.inl (aq _ hy))
 have DD:∀x∈hs++[ta],x∈s.adr:=λx hx=>by
  rcases aM.mp hx with hx | hx
  .exact(Bq x).mpr (aB _ (W.inR x hx))
  .rw[aN.mp hx];exact(Bq ta).mpr (by simp)
 have BG:tl∈s.adr:=(Bq tl).mpr (by simp)
 have K8:=W.ok
 cases K8 with
 | mk b1 b2 b3 b4 b5 =>
  rename_i dt
  obtain⟨d0,n0,r0,l0,Dq⟩:=G.ok.node
  have UW:s.a∈s.adr:=DD _ (di h0)
  have MS:=Pm.row_short Bd
  have MT:u.enc.length<=v.enc.length:=by
   obtain⟨pre,post,e1,_,_⟩:=Pm.repl_enc la v 0 u p0 t1 t2
   rw[e1];simp only[ae];exact leL (eP _) (fF (aX _) (b8 _ _))
  have Ls:=G.ln
  have B1:=b5.len
  have JN:r1.length+r2.length=AZ.length:=by rw[B1,er,Pm.rapp_len]
  have Cd:=hx
  cases hx with
  | mk y1 y2 y3 y4 y5 =>
   rename_i yd
   have UL:xn≠tl:=λz=>(xf xn (by unfold Sh.frz;simp)).1 (by rw[z];exact BG)
   refine⟨g2,ta,xa,s.a,hs,i,dt,tn,tr,tl,yd,xn,xr,xl,u.kind,w.kind,_,_,(v.enc.length:Int),_,n,rfl,Do,Hx,λx hx=>?_,h0,⟨d0,_,n0,r0,l0,kA _ UW _ Dq⟩,kA _ (DD _ (by simp)) _ b1,kA _ BG _ b4,by rw[au];lia,by rw[au];exact leL el (leR JN (b8 _ _)),y1,y2,hn,Np,UL,?_⟩
   .obtain⟨dx,k,n,r,ln,lx,e⟩:=Hy x hx
    exact⟨dx,k,n,r,ln,lx,kA _ (DD x hx) _ e⟩
   .rw[au,show(AZ.map λs=>V.ref s.a).take i++V.ref xa::(AZ.map λs=>V.ref s.a).drop i=(AZ.take i++(Sh.node xa xl xn xr Bp)::AZ.drop i).map (λs=>V.ref s.a)by rw[aQ,bj,gU,iS];rfl]
    have hlen:((Pm.withRow u (Pm.rapp r1 (.cons n w r2))).enc.length:Int)=(u.enc.length:Int)+(((nmR n).length:Int)+(w.enc.length:Int)+((Sw.vary (AZ.length+1)).length:Int)-((Sw.vary AZ.length).length:Int)):=by
     have:=Pm.len_more Bd (r1:=r1) (r2:=r2) (n:=n) (w:=w)
     rw[<-er,Pm.row_self Bd,DC,JN]at this;exact this
    obtain⟨c1,c2,f1,f2,f3,f4⟩:=b5.cut (i:=i) (leL el (leR JN (b8 _ _)))
    have NF:c1=r1/\c2=r2:=by
     have:Pm.rapp c1 c2=Pm.rapp r1 r2:=by rw[<-f1,er]
     exact Pm.rapp_inj this (by rw[f2,el])
    obtain⟨rfl,rfl⟩:=NF
    have EI:(rest++(ta::tl::Sh.adrs AZ)).Nodup:=W.adr.nodup_iff.mp G.nd
    have B2:=bF.mp EI
    have eA:Sh.adrs AZ=Sh.adrs (AZ.take i)++Sh.adrs (AZ.drop i):=by rw[<-dY,du]
    have eF:Sh.frzs AZ=Sh.frzs (AZ.take i)++Sh.frzs (AZ.drop i):=by rw[<-dM,du]
    have EF:∀x∈Sh.adrs AZ,x∉hs++[ta]/\x∉[tl]:=λx hx=>by
     refine⟨λz=>?_,λz=>?_⟩
     .rcases aM.mp z with z | z
      .exact B2.2.2 x (W.inR x z) x (by simp[hx]) rfl
      .rw[aN.mp z]at hx;exact(bc.mp B2.2.1).1 (aA _ hx)
     .rw[aN.mp z]at hx;exact(bc.mp (bc.mp B2.2.1).2).1 hx
    refine qr (CL:=CL) (xa:=(Sh.node xa xl xn xr Bp).adr) (xf:=(Sh.node xa xl xn xr Bp).frz) (gone:=[]) (tms':=AZ.take i++(Sh.node xa xl xn xr Bp)::AZ.drop i) (u':=Pm.withRow u (Pm.rapp c1 (.cons n w c2))) (l:=l) (d:=d) G W t1 t2 k1 Bd (Pm.withRow_kind _ _) hlen (λH' kk=>?_) ?_ ?_ ?_ ?_ (λx hx z=>(ap x z).2 hx) xB hd Bn DS q
    .rw[Pm.withRow_row Bd];have J2:∀x∈Sh.adrs AZ,∀o,H x=some o->H' x=some o:=λx hx o e=>kk x o (kA x ((Bq x).mpr (by simp[hx])) o e) (EF x hx).1 (EF x hx).2
     have J1:∀x∈Sh.frzs AZ,∀o,H x=some o->H' x=some o:=λx hx o e=>by
      have hf:=(B3 x).mpr (by simp[hx])
      exact kk x o (kF x hf o e) (λz=>G.fz x hf (DD x z)) (λz=>G.fz x hf (by rw[aN.mp z];exact BG))
     have ML:NdT CT H' (.node xa xl xn xr Bp) w n:=Cd.keep (λx hx o e=>kk x o e (λz=>(ap x hx).1 (DD x z)) (λz=>(ap x hx).1 (by rw[aN.mp z];exact BG))) (λx hx o e=>kk x o e (λz=>(xf x hx).1 (DD x z)) (λz=>(xf x hx).1 (by rw[aN.mp z];exact BG)))
     exact NdTs.append (f3.keep (λx hx o e=>J2 x (by rw[eA];exact aB _ hx) o e) λx hx o e=>J1 x (by rw[eF];exact aB _ hx) o e) (.cons ML (f4.keep (λx hx o e=>J2 x (by rw[eA];exact aq _ hx) o e) λx hx o e=>J1 x (by rw[eF];exact aq _ hx) o e))
    .rw[bF];exact⟨G.nd,Sn,λa ha b hb z=>(ap b hb).1 (z▸ha)⟩
    .rw[dY,bJ,eA];refine dH.mpr λx=>?_
     simp only[Sh.adrs,d7];exact Eq.trans (dj _ _) (Nat.add_left_comm _ _ _)
    .intro x hx;rw[dM]at hx;rw[eF];rcases aM.mp hx with hx | hx
     .exact .inl (aB _ hx)
     .have hx:x∈(Sh.node xa xl xn xr Bp).frz++Sh.frzs (AZ.drop i):=hx
      rcases aM.mp hx with hx | hx
      .exact .inr hx
      .exact .inl (aq _ hx)
    .intro x hx z;rcases aM.mp z with z | z
     .exact(xf x hx).1 z
     .exact(xf x hx).2 z
def xJ(CV:Addr):Sp:=λvs H Q E=>∃(d:Addr)(ws:List V)(n:Nat),vs=[.ref d,.int (n:Int)]/\H d=some (.lst ws)/\(if 64<ws.length+n then gp E CV [.int (-9)]else Q .non H)
theorem jA{H:Hp}{ws:List V}{la:List Sw.Step}{ls:Sw.Step}(h:dE H ws (la++[ls])):∃w0,ws[ws.length-1]? =some w0/\iD H w0 ls/\1<=ws.length:=by
 have hl:=h.len
 rw[ae,a9]at hl;obtain⟨w0,e⟩:∃w0,ws[ws.length-1]? =some w0:=⟨_,aO (by omega)⟩
 obtain⟨s,es,hs⟩:=h.get e
 rw[show ws.length-1=la.length by lia,cZ]at es
 injection es with es;subst es;exact⟨w0,e,hs,by lia⟩
theorem yP(xs:List V)(n:Nat):pk xs none (some (n:Int))=xs.take n:=by
 unfold pk;rw[HT.sIx_none,HT.sIx_nat,ff,Nat.sub_zero];by_cases h:n<=xs.length
 .rw[cI h]
 .rw[Nat.min_eq_right (cq (dQ h)),fN,cC (cq (dQ h))]
theorem NdT.holdAt{K:Fg_}{mg:Str->Option Value}{CT:Addr}(TD:TxD K mg CT){H:Hp}{a l n r:Addr}{ms:List Sh}{v:Sw.Value}{nm:List UInt8}(h:NdT CT H (.node a l n r ms) v nm):gQ K H a v.kind (ms.map Sh.a):=by
 cases h with
 | mk h1 h2 h3 h4 h5 =>
  rename_i dx
  exact⟨CT,dx,_,l,h1,TD.cT,TD.nKi,TD.nMe,rfl,rfl,by rw[eT];exact h4⟩
theorem rH{v:Sw.Value}{la:List Sw.Step}{ls:Sw.Step}(h:(Pm.trail (v,0) (la++[ls])).length<(la++[ls]).length):(Pm.trail (v,0) la).length<=la.length:=by
 by_cases c:(Pm.trail (v,0) la).length<=la.length
 .exact c
 .have hle:=Pm.leads_le la v
  have BG:(Pm.trail (v,0) la).length=(v.leads la).length+1:=Pm.trail_len la (v,0)
  have hf:(Pm.trail (v,0) la).length=la.length+1:=by lia
  cases e:(Pm.trail (v,0) la).getLast? with
  | none=>exact aW (bz.mp e) (Pm.trail_ne _ _)
  | some y =>
   have:=congrArg List.length (Pm.trail_snoc la (v,0) y ls [] hf e)
   rw[ae,a9]at h;rw[ae]at this;lia
theorem yE{v:Sw.Value}{la:List Sw.Step}{ls:Sw.Step}(h:(la++[ls]).length<=(Pm.trail (v,0) (la++[ls])).length):(Pm.trail (v,0) la).length=la.length+1:=by
 rw[ae,a9]at h;by_cases c:(Pm.trail (v,0) la).length<=la.length
 .have hs:∀(a b:List Sw.Step)(x:Sw.Value×Nat),(Pm.trail x a).length<=a.length->Pm.trail x (a++b)=Pm.trail x a:=by
   intro a;induction a with
   | nil =>
    intro b x hx;unfold Pm.trail at hx;exact aW hx (by show ¬1<=0;exact dA _)
   | cons t a ih =>
    intro b x hx;show Pm.trail x (t::(a++b))=_
    unfold Pm.trail at hx |-;cases e:Pm.go x t with
    | none=>rfl
    | some z =>
     rw[e]at hx;have hx:(Pm.trail z a).length+1<=a.length+1:=hx
     show x::Pm.trail z (a++b)=x::Pm.trail z a
     rw[ih b z (bA hx)]
  rw[hs la [ls] _ c]at h;exact cu (fA c) h
 .have hle:=Pm.leads_le la v
  have BG:(Pm.trail (v,0) la).length=(v.leads la).length+1:=Pm.trail_len la (v,0)
  lia
theorem scCD:bq ["steps","x_depth"] ["steps","x_depth"] (aS sCD):=fs_
theorem ok_CD{f:Addr}{fd Cv:FuncData}(F:Fun K "check_depth" "check_depth" sCD f fd)(dp:GI mg "DEEPEST" 64)(len:mg "len" =none)
  (L6:fm K U CV Gn)(Mw:mg "NoValue" =some (.ref CV))(GV:bQ P w K mg base CX0 2 Gn Cv ["self"] (fK CV 0 aNV))(bV:bZ K Cv ["self"] []) :
  bQ P w K mg base (CXF P w) 4 f fd ["steps","x_depth"] (xJ CV):=by
 refine okX F scCD (λvs H Q E h=>?_) (λAY A outer s H vs Q E hr h=>?_)
 .obtain⟨d,ws,n,rfl,_⟩:=h
  rfl
 .obtain⟨d,ws,n,rfl,hd,q⟩:=h
  refine⟨_,aJ (cE (bC jx (dI gk (ck cB (by rfl) len bo (aa (pv 0) aG)) (pv 1)) (pgi dp rfl) (bX _)) (aJ (jl L6 GV bV rfl hr cN rfl rfl Mw)) b7),?_⟩
  try dsimp only[cW];refine⟨_,rfl,ex2 d _ ⟨rfl,.inl (SqL.of hd),_,rfl,ex2 _ _ ⟨rfl,rfl,ex2 _ _ ⟨rfl,rfl,_,rfl,?_⟩⟩⟩⟩
  by_cases c:64<ws.length+n
  .rw[ax c]at q;rw[ah (show(64:Int)<((ws.length:Nat):Int)+((n:Nat):Int)from(ciL c))];exact c9 ⟨rfl,q⟩
  .rw[ay c]at q;rw[ai (show ¬(64:Int)<((ws.length:Nat):Int)+((n:Nat):Int)by lia)]
   exact cK q
def l6(k n:Nat):Sw.Step->Bool
 | .index z=>decide (k=5/\0<=z/\z<=(n:Int))
 | .name _=>false
def z7(K:Fg_):Sp:=λvs H Q ξ=>∃(m:Addr)(v:V)(k:Nat)(as:List Addr)(s:Sw.Step),vs=[.ref m,v]/\gQ K H m k as/\iD H v s/\Q (.bl (l6 k as.length s)) H
def Ag(CT CL CV:Addr):Sp:=λvs H Q E=>∃(B:Hp)(s:Sh)(v:Sw.Value)(d:Addr)(ws:List V)(l:List Sw.Step)(x:Sh)(w:Sw.Value),vs=[.ref s.a,.ref d,.ref x.a,.int (w.deep:Int)]/\jd CT B H s v/\B d=some (.lst ws)/\dE B ws l/\l.length<=65536/\XOk CT B H s x w/\Chg CT CL CV B v l (.add w) Q E
theorem xg{u:Sw.Value}{st:Sw.Step}{n:Nat}(x:Sw.Value)(hn:(Pm.rowOf u).length=n)(h:l6 u.kind n st=false):u.done st (.add x)=none:=by
 cases u with
 | list m =>
  have hn:m.length=n:=hn
  cases st with
  | index z =>
   have h:decide (5=5/\0<=z/\z<=(n:Int))=false:=h
   have h:=of_decide_eq_false h
   show(if 0<=z/\z<=(m.length:Int)then some _ else none)=none
   rw[ay (λy=>h ⟨rfl,by rw[<-hn];exact y⟩)]
  | name k=>rfl
 | _=>cases st<;>rfl
theorem scMA:bq ["holder","step"] ["holder","step"] (aS sMA):=fs_
theorem ok_MA{f E3:Addr}{fd Bl:FuncData}(F:Fun K "may_add" "may_add" sMA f fd)(k5:GI mg "LIST" 5)(len:mg "len" =none)
  (GI:Co P w K mg base CX0 1 E3 Bl ["step"] uO "is_number") :
  bQ P w K mg base CX0 2 f fd ["holder","step"] (z7 K):=by
 refine F.ok scMA (λvs H Q E h=>?_) (λAY A outer s H vs Q E hr h=>?_)
 .obtain⟨m,v,k,as,st,rfl,_⟩:=h
  rfl
 .obtain⟨m,v,k,as,st,rfl,⟨C,dx,fs,l,h1,hC,hk,DR,ek,DW,hl⟩,hv,q⟩:=h
  refine⟨_,aJ (bK (n6 (iK eN (a6 (pv 0) rfl) (pgi k5 rfl) (bX _)) (n6 (cj GI hr rfl cM (aa (pv 1) aG)) (qg (rD jE jE bb (pv 1) (ck cB (by rfl) len bo (aa (a6 (pv 0) rfl) aG))))))),?_⟩
  try dsimp only[cW];refine⟨_,rfl,ex5 m C dx fs _ ⟨rfl,h1,hC,hk,ek,rfl,_,rfl,?_⟩⟩
  rw[iC];by_cases c5:k=5
  .rw[ah (show((k:Nat):Int)=5 by lia)]
   refine c9 ⟨_,rfl,ex2 v st ⟨rfl,hv,?_⟩⟩
   cases st with
   | index z =>
    have hv:v =.int z:=hv
    subst hv;have q:Q (.bl (decide (k=5/\0<=z/\z<=(as.length:Int)))) H:=q
    refine⟨_,rfl,c9 ⟨_,rfl,ex2 _ _ ⟨rfl,rfl,_,rfl,?_⟩⟩⟩
    by_cases c0:0<=z
    .rw[ah c0];refine c9 ⟨_,rfl,ex5 m C dx fs _ ⟨rfl,h1,hC,DR,DW,l,_,rfl,.inl (SqL.of hl),ex2 _ _ ⟨rfl,rfl,?_⟩⟩⟩
     rw[au];rw[show decide (k=5/\0<=z/\z<=(as.length:Int))=decide (z<=(as.length:Int))from decide_eq_decide.mpr ⟨λy=>y.2.2,λy=>⟨c5,c0,y⟩⟩]at q
     exact q
    .rw[ai c0];rw[ai (λ(y:k=5/\0<=z/\z<=(as.length:Int))=>c0 y.2.1)]at q
     exact cK q
   | name n=>exact⟨_,rfl,cK q⟩
  .rw[ai (show ¬((k:Nat):Int)=5 by lia)]
   have e:l6 k as.length st=false:=by
    cases st with
    | index z=>exact ai (λy=>c5 y.1)
    | name n=>rfl
   rw[e]at q;exact cK q
theorem Ao:bq ["top","steps","x","x_depth","trail","holders"] ["top","steps","x","x_depth"] (aS sAA):=fs_
theorem ok_AA{f FJ KH HZ HV:Addr}{fd EY DI E2 Bl Dr:FuncData}(F:Fun K "add_at" "add_at" sAA f fd)(TD:TxD K mg CT)(len:mg "len" =none)(uc:fm K U CL Fl)(Jv:mg "LeadsNowhere" =some (.ref CL))
  (GL:bQ P w K mg base CX0 2 Fl Dr ["self","leading"] (fK CL 1 aLN))(bL:bZ K Dr ["self","leading"] [])
  (GF:Co P w K mg base CX0 3 FJ EY ["whole","steps"] (vO K) "follow")
  (GM:Co P w K mg base CX0 2 KH DI ["holder","step"] (z7 K) "may_add")
  (GC:Co P w K mg base (CXF P w) 4 HZ E2 ["steps","x_depth"] (xJ CV) "check_depth")
  (GI:Co P w K mg base (CXF P w) 5 HV Bl ["holders","i","x"] (qZ CT CV) "insert_member") :
  bQ P w K mg base (CXF P w) 6 f fd ["top","steps","x","x_depth"] (Ag CT CL CV):=by
 refine okX F Ao (λvs H Q E h=>?_) (λAY A outer s H vs Q E hr h=>?_)
 .obtain⟨B,s,v,d,ws,l,x,w',rfl,_⟩:=h
  rfl
 .obtain⟨B,sh,v,d,ws,l,x,xw,rfl,G,hd,A',hl,X,q⟩:=h
  have Bm:cD 2 _:=hr.mono (by decide)
  have Bs:cD 3 _:=hr.mono (by decide)
  have DP:cD 4 _:=hr.mono (by decide)
  refine⟨_,az (bE (i:=4) Ao.nd rfl (.inl rfl) (cj GF Bs rfl cM (aa (pv 0) (aa (pv 1) aG))))
   (az (bE (i:=5) Ao.nd rfl (.inl rfl) (iy jh (pv 4) qf (gj (ck cB (by rfl) len bo (aa (pv 1) aG)))))
   (az (cE (PW.pt (kJ (nY (eI (pv 1) (λξ=>rfl))) (kJ (bC jw (ck cB (by rfl) len bo (aa (pv 5) aG)) (ck cB (by rfl) len bo (aa (pv 1) aG)) (bX _))
     (jB (nY (nX (cj GM Bm rfl cM (aa (dJ cx (pv 5) (eK dF bb) (λξ ξ=>rfl)) (aa (dJ cx (pv 1) (eK dF bb) (λξ ξ=>rfl)) aG)))))))))
    (aJ (iw uc GL bL rfl Bs cN rfl rfl Jv (aa (dI iA (ck cB (by rfl) len bo (aa (pv 4) aG)) bb) aG) (by decide))) b7)
   (az (cY (cj GC DP rfl dG (aa (pv 1) (aa (pv 3) aG))))
   (aJ (bK (cj GI hr rfl dG (aa (pv 5) (aa (dJ cx (pv 1) (eK dF bb) (λξ ξ=>rfl)) (aa (pv 2) aG))))))))),?_⟩
  try dsimp only[cW];have Gg:=G.sb _ _ hd
  refine⟨_,rfl,_,rfl,ex6 _ sh.a d v ws l ⟨rfl,lb TD,ex2 sh [] ⟨rfl,G.ok,G.pl⟩,Gg,A'.same G.sb,hl,λg as H1 k1 II hg D4 Df Dd=>?_⟩⟩
  have BU:=D4.len
  have BG:(Pm.trail (v,0) l).length=(v.leads l).length+1:=Pm.trail_len l (v,0)
  have hle:=Pm.leads_le l v
  have BS:=A'.len
  have DF:=k1 _ _ Gg
  refine⟨_,rfl,_,rfl,ex2 d _ ⟨rfl,.inl (SqL.of DF),_,rfl,ex2 g _ ⟨rfl,SqL.of hg,λgh FC=>?_⟩⟩⟩
  rw[yP,<-gU];have k2:bY H1 (upd H1 gh (.lst ((as.take ws.length).map V.ref))):=λb o e=>(aj (ag e FC)).trans e
  generalize CJ:upd H1 gh (.lst ((as.take ws.length).map V.ref))=H2 at k2;have Dg:H2 gh=some (.lst ((as.take ws.length).map V.ref)):=by rw[<-CJ,aC]
  have BN:=k1.trans k2
  have hd2:=k2 _ _ DF
  have Bv:(((as.map V.ref).length:Nat):Int)-1=(((v.leads l).length:Nat):Int):=by
   rw[au,BU,BG];lia
  have bad:v.doneAt l (.add xw)=none->gp E CL [.int (-4),.int (((v.leads l).length:Nat):Int)]:=λc=>by
   unfold Chg at q;rw[c]at q;exact q
  refine⟨_,rfl,_,.inl ⟨_,SqL.of hd2,rfl⟩,?_⟩
  rcases cG l with el | ⟨la,ls,el⟩
  .have ew:ws=[]:=by
    rw[el]at BS;exact de.mp BS
   subst ew;refine c9 ⟨_,rfl,ex2 g _ ⟨rfl,.inl (SqL.of (k2 _ _ hg)),ex2 _ _ ⟨rfl,rfl,rfl,?_⟩⟩⟩
   show gp E CL [.int (-4),.int ((((as.map V.ref).length:Nat):Int)-1)]
   rw[Bv];exact bad (by rw[el];rfl)
  .rw[cH]at el;subst el;obtain⟨w0,Ie,CK,E8⟩:=jA A'
   have CH:(!ws.isEmpty)=true:=by
    cases ws with
    | nil=>cases E8
    | cons _ _=>rfl
   rw[CH];refine cK ⟨_,rfl,ex2 gh _ ⟨rfl,.inl (SqL.of Dg),_,rfl,ex2 d _ ⟨rfl,.inl (SqL.of hd2),ex2 _ _ ⟨rfl,rfl,_,rfl,?_⟩⟩⟩⟩
   rw[au,aP];have D3:ws.length=la.length+1:=by rw[BS,ae,a9]
   by_cases c:as.length<ws.length
   .rw[ah (show(((min ws.length as.length:Nat):Nat):Int)<((ws.length:Nat):Int)by lia)]
    refine c9 ⟨_,rfl,ex2 g _ ⟨rfl,.inl (SqL.of (k2 _ _ hg)),ex2 _ _ ⟨rfl,rfl,rfl,?_⟩⟩⟩
    show gp E CL [.int (-4),.int ((((as.map V.ref).length:Nat):Int)-1)]
    rw[Bv];exact bad (Pm.doneAt_no la v 0 ls _ (rH (by rw[ae,a9,<-BU,<-D3];exact c)))
   .rw[ai (show ¬(((min ws.length as.length:Nat):Nat):Int)<((ws.length:Nat):Int)by lia)]
    have t1:(Pm.trail (v,0) la).length=la.length+1:=yE (ls:=ls) (by rw[ae,a9,<-BU,<-D3];exact bg c)
    cases Be:(Pm.trail (v,0) la).getLast? with
    | none=>exact aW (bz.mp Be) (Pm.trail_ne _ _)
    | some y =>
     obtain⟨u,p⟩:=y
     obtain⟨t,BI,hs,rest,Ba,put,W⟩:=p6 (K:=K) t1 Be G.ok G.nd
     have DN:=Pm.trail_last_pl G.pl Be
     have Bo:=W.way (as.take (la.length+1)) (Df.lk.front t1) (by rw[br (a8 _ _)];exact Dd) (by rw[aP];lia)
     rw[<-D3]at Bo;rw[Bo]at Dg;obtain⟨ta,tl,tn,tr,AZ⟩:=t
     have hT:=W.ok.holdAt TD
     have B1:AZ.length=(Pm.rowOf u).length:=by
      cases W.ok with
      | mk _ _ _ _ h5=>exact h5.len
     have V4:gh≠tl:=λz=>by
      have:∃o,H tl=some o:=by
       cases W.ok with
       | mk _ _ _ h4 _=>exact⟨_,h4⟩
      obtain⟨o,e⟩:=this
      rw[z,k1 _ _ e]at FC;cases FC
     have K6:atI ws (-1)=some w0:=lu (k:=1) (aF _) Ie E8
     refine cK ⟨_,rfl,_,rfl,gh,_,_,V.ref ta,rfl,rfl,SqL.of Dg,by rw[aQ];exact fD _ _,_,rfl,_,rfl,ex4 d _ _ w0 ⟨rfl,rfl,SqL.of hd2,K6,ta,w0,u.kind,_,ls,rfl,hT.same BN,(CK.same G.sb).same BN,_,rfl,?_⟩⟩
     rw[au];by_cases cm:l6 u.kind AZ.length ls=true
     .rw[cm];cases ls with
      | name k=>cases cm
      | index z =>
       obtain⟨c5,c0,cz⟩:=of_decide_eq_true cm
       have CK:w0 =.int z:=CK
       subst CK;cases u with
       | list m =>
        have hm:AZ.length=m.length:=B1
        obtain⟨i,rfl⟩:∃i:Nat,z=(i:Int):=⟨z.toNat,by lia⟩
        have hi:i<=m.length:=(leR hm (icE cz))
        obtain⟨p1,p2,_⟩:=Pm.list_put DN X.pl i hi
        obtain⟨Il,E4,CY⟩:=Pm.repl_deep la v 0 _ p (.list (m.insert i xw)) t1 Be
        have JB:=G.dp
        have BO:(Sw.Value.list m).done (.index (i:Int)) (.add xw)=some (.list (m.insert i xw)):=by
         show(if 0<=(i:Int)/\(i:Int)<=(m.length:Int)then some (Sw.Value.list (m.insert (i:Int).toNat xw))else none)=_
         rw[ax ⟨c0,(ciE hi)⟩,eV]
        have FE:v.doneAt (la++[.index (i:Int)]) (.add xw)=some (Pm.repl v la (.list (m.insert i xw))):=by
         rw[Pm.doneAt_snoc la v 0 _ p _ _ t1 Be,BO];rfl
        have JS:=Pm.repl_plain la v _ G.pl p1
        refine cK ⟨_,rfl,_,rfl,ex3 d ws xw.deep ⟨rfl,hd2,?_⟩⟩
        by_cases cd:64<ws.length+xw.deep
        .rw[ax cd];unfold Chg at q;rw[FE]at q;dsimp only at q;rw[ax (uh JS (by lia))]at q
         exact q
        .rw[ay cd];obtain⟨c1,c2,f1,f2,f3,f4⟩:∃c1 c2,m=Pm.rapp c1 c2/\c1.length=i/\True/\True:=by
          cases W.ok with
          | mk _ _ _ _ h5 =>
           obtain⟨c1,c2,e1,e2,_,_⟩:=h5.cut (i:=i) (icE cz)
           exact⟨c1,c2,e1,e2,trivial,trivial⟩
         have Fv:Pm.withRow (.list m) (Pm.rapp c1 (.cons [] xw c2)) =.list (m.insert i xw):=by
          rw[f1,<-f2,Pm.rapp_insert];rfl
         obtain⟨xa,xl,xn,xr,Bp⟩:=x
         refine⟨_,rfl,_,rfl,_,rfl,d,_,_,V.int (i:Int),rfl,rfl,SqL.of hd2,K6,_,rfl,?_⟩
         show qZ CT CV [.ref gh,.int (i:Int),.ref xa] H2 Q E
         refine tq (CL:=CL) (l:=la++[.index (i:Int)]) (d:=.add xw) (r1:=c1) (r2:=c2) (n:=[]) (w:=xw) G W t1 Be (.inl rfl) (λy o e ξ=>BN _ _ e) Dg V4 (by show(hs++[(Sh.node ta tl tn tr AZ).a])[0]? =_;rw[<-Bo,br E8];exact Dd) (X.ok.same BN) X.nd X.ap (λy hy=>⟨X.xf y hy,X.fz y hy⟩) X.fb (aX _) f1 f2 rfl (by rw[Fv];exact FE) (by rw[Fv];exact JS) (by rw[Fv];lia) q
       | _=>simp[Sw.Value.kind]at c5
     .have cm:l6 u.kind AZ.length ls=false:=by
       cases e:l6 u.kind AZ.length ls with
       | true=>exact aW e cm
       | false=>rfl
      rw[cm];refine c9 ⟨_,rfl,ex2 g _ ⟨rfl,.inl (SqL.of (k2 _ _ hg)),ex2 _ _ ⟨rfl,rfl,rfl,?_⟩⟩⟩
      show gp E CL [.int (-4),.int ((((as.map V.ref).length:Nat):Int)-1)]
      rw[Bv];refine bad ?_
      rw[Pm.doneAt_snoc la v 0 u p ls _ t1 Be,xg xw B1.symm cm];rfl
def kS(k n:Nat):Sw.Step->Bool
 | .index z=>decide (k=5/\z=(n:Int))
 | .name m=>decide (k=6/\1<=m.length/\m.length<=255)
def zZ(K:Fg_):Sp:=λvs H Q ξ=>∃(m:Addr)(v:V)(k:Nat)(as:List Addr)(s:Sw.Step),vs=[.ref m,v]/\gQ K H m k as/\iD H v s/\Q (.bl (kS k as.length s)) H
def zQ(K:Fg_)(CT CV:Addr):Sp:=λvs H Q E =>
 (∃(gl x:Addr)(i:Nat),vs=[.ref gl,.int (i:Int),.ref x]/\qZ CT CV [.ref gl,.int (i:Int),.ref x] H Q E) \/
 (∃(gl b x dx nx rx lx h:Addr)(kx k:Nat)(Bj:Int)(hs as:List Addr)(ns:List (List UInt8))(n:List UInt8),vs=[.ref gl,.ref b,.ref x]/\H b=some (.lst (n.map bv))/\H x=some (.ins CT dx (nf kx nx rx Bj lx)) /\
  (let H1:=upd H x (.ins CT dx (nf kx b rx Bj lx));H1 gl=some (.lst ((hs++[h]).map V.ref))/\gQ K H1 h k as/\qL K H1 as ns/\Sw.rising ns=true/\H1 b=some (.lst (n.map bv))/\qZ CT CV [.ref gl,.int (((ns.filter λy=>Sw.bytesBefore y n).length:Nat):Int),.ref x] H1 Q E))
def zN(K:Fg_)(CT CV:Addr):Sp:=λvs H Q E =>
 (∃(g d x:Addr),vs=[.ref g,.ref d,.ref x]/\H d=some (.lst [])/\Q (.ref x) H) \/
 (∃(g d x y h a0 dx nx rx lx dy ny ry ly dh nh rh lh:Addr)(kx ky kh i:Nat)(Bj Bt BF len0:Int)(hs:List Addr)(ws ms:List V)(w0:V)(R:Hp->Addr->Sw.Value×Nat->Prop)(u:Sw.Value×Nat)(ls:Sw.Step),vs=[.ref g,.ref d,.ref x] /\
  H g=some (.lst ((hs++[h,y]).map V.ref))/\H d=some (.lst ws)/\ws[ws.length-1]? =some w0/\1<=ws.length/\H x=some (.ins CT dx (nf kx nx rx Bj lx))/\H y=some (.ins CT dy (nf ky ny ry Bt ly))/\y≠x/\x∉hs++[h] /\
  (hs++[h]).Nodup/\lB CT H (hs++[h])/\(hs++[h])[0]? =some a0/\(∃dx k n r l,H a0=some (.ins CT dx (nf k n r len0 l)))/\H h=some (.ins CT dh (nf kh nh rh BF lh))/\H lh=some (.lst ms)/\i<ms.length/\d≠lh /\
  Fam K R/\(∀H2:Hp,(∀z o,H z=some o->z≠x->H2 z=some o)->R H2 h u)/\iD H w0 ls/\(∀b,w0 =.ref b->b≠x)/\u.1.memberOf ls=some i /\
  iQ CT CV (upd H x (.ins CT dx (nf kx ny rx Bj lx))) Q E a0 len0 (hs++[h]) [lh] (Bj-Bt) λH'=>H' lh=some (.lst (ms.set i (.ref x))))
theorem scMH:bq ["holder","step"] ["holder","step"] (aS sMH):=fs_
theorem ok_MH{f E3:Addr}{fd Bl:FuncData}(F:Fun K "may_have" "may_have" sMH f fd)(k5:GI mg "LIST" 5)(k6:GI mg "RECORD" 6)(ln:GI mg "LONGEST_NAME" 255)(len:mg "len" =none)
  (GI:Co P w K mg base CX0 1 E3 Bl ["step"] uO "is_number") :
  bQ P w K mg base CX0 2 f fd ["holder","step"] (zZ K):=by
 refine F.ok scMH (λvs H Q E h=>?_) (λAY A outer s H vs Q E hr h=>?_)
 .obtain⟨m,v,k,as,st,rfl,_⟩:=h
  rfl
 .obtain⟨m,v,k,as,st,rfl,⟨C,dx,fs,l,h1,hC,hk,DR,ek,DW,hl⟩,hv,q⟩:=h
  refine⟨_,az (cE (nX (cj GI hr rfl cM (aa (pv 1) aG)))
    (aJ (bK (n6 (iK eN (a6 (pv 0) rfl) (pgi k5 rfl) (bX _)) (qg (iK eN (pv 1) (ck cB (by rfl) len bo (aa (a6 (pv 0) rfl) aG)) (bX _)))))) b7)
   (aJ (bK (n6 (iK eN (a6 (pv 0) rfl) (pgi k6 rfl) (bX _)) (qg (rD jE jE bb (ck cB (by rfl) len bo (aa (pv 1) aG)) (pgi ln rfl)))))),?_⟩
  try dsimp only[cW];refine⟨_,rfl,ex2 v st ⟨rfl,hv,_,rfl,?_⟩⟩
  cases st with
  | index z =>
   have hv:v =.int z:=hv
   subst hv;have q:Q (.bl (decide (k=5/\z=(as.length:Int)))) H:=q
   refine c9 ⟨_,rfl,ex5 m C dx fs _ ⟨rfl,h1,hC,hk,ek,rfl,_,rfl,?_⟩⟩
   rw[iC];by_cases c5:k=5
   .rw[ah (show((k:Nat):Int)=5 by lia)]
    refine c9 ⟨_,rfl,_,rfl,ex5 m C dx fs _ ⟨rfl,h1,hC,DR,DW,l,_,rfl,.inl (SqL.of hl),rfl,?_⟩⟩
    rw[iC,au];rw[show decide (k=5/\z=(as.length:Int))=decide (z=(as.length:Int))from decide_eq_decide.mpr ⟨λy=>y.2,λy=>⟨c5,y⟩⟩]at q
    exact q
   .rw[ai (show ¬((k:Nat):Int)=5 by lia)]
    rw[ai (λ(y:k=5/\z=(as.length:Int))=>c5 y.1)]at q
    exact cK q
  | name n =>
   obtain⟨b,rfl,hb⟩:=hv
   have q:Q (.bl (decide (k=6/\1<=n.length/\n.length<=255))) H:=q
   refine cK ⟨_,rfl,ex5 m C dx fs _ ⟨rfl,h1,hC,hk,ek,rfl,_,rfl,?_⟩⟩
   rw[iC];by_cases c6:k=6
   .rw[ah (show((k:Nat):Int)=6 by lia)]
    refine c9 ⟨_,rfl,ex2 b _ ⟨rfl,.inl (SqL.of hb),ex2 _ _ ⟨rfl,rfl,_,rfl,?_⟩⟩⟩
    rw[au];by_cases c1:1<=n.length
    .rw[ah (show(1:Int)<=((n.length:Nat):Int)from(ciL c1))];refine c9 (ex2 _ _ ⟨rfl,rfl,?_⟩)
     rw[show decide (k=6/\1<=n.length/\n.length<=255)=decide (((n.length:Nat):Int)<=255)from decide_eq_decide.mpr ⟨λy=>(ciE y.2.2),λy=>⟨c6,c1,(icE y)⟩⟩]at q
     exact q
    .rw[ai (show ¬(1:Int)<=((n.length:Nat):Int)by lia)]
     rw[ai (λ(y:k=6/\1<=n.length/\n.length<=255)=>c1 y.2.1)]at q
     exact cK q
   .rw[ai (show ¬((k:Nat):Int)=6 by lia)]
    rw[ai (λ(y:k=6/\1<=n.length/\n.length<=255)=>c6 y.1)]at q
    exact cK q
theorem scPW:bq ["holders","step","x"] ["holders","step","x"] (aS sPW):=fs_
theorem ok_PW{f E3 HV Ia:Addr}{fd EZ Bl E2:FuncData}(F:Fun K "put_new" "put_new" sPW f fd)(TD:TxD K mg CT)
  (GN:Co P w K mg base CX0 1 E3 EZ ["step"] uO "is_number")
  (GC:Co P w K mg base CX0 1 Ia E2 ["holder","name"] (xK K) "count_before")
  (GI:Co P w K mg base (CXF P w) 5 HV Bl ["holders","i","x"] (qZ CT CV) "insert_member") :
  bQ P w K mg base (CXF P w) 6 f fd ["holders","step","x"] (zQ K CT CV):=by
 refine okX F scPW (λvs H Q E h=>?_) (λAY A outer s H vs Q E hr h=>?_)
 .rcases h with⟨gl,x,i,rfl,_⟩ | ⟨gl,b,x,dx,nx,rx,lx,h,kx,k,Bj,hs,as,ns,n,rfl,_⟩<;>rfl
 .have Bf:cD 1 _:=hr.mono (by decide)
  refine⟨_,az (cE (nX (cj GN Bf rfl cM (aa (pv 1) aG))) (aJ (bK (cj GI hr rfl dG (aa (pv 0) (aa (pv 1) (aa (pv 2) aG)))))) b7)
   (az (dv (pv 2) (pv 1) rfl)
   (aJ (bK (cj GI hr rfl dG (aa (pv 0) (aa (cj GC Bf rfl cM (aa (dJ cx (pv 0) (eK dF bb) (λξ ξ=>rfl)) (aa (pv 1) aG))) (aa (pv 2) aG))))))),?_⟩
  try dsimp only[cW];rcases h with⟨gl,x,i,rfl,q⟩ | ⟨gl,b,x,dx,nx,rx,lx,h,kx,k,Bj,hs,as,ns,n,rfl,hb,hx,h1,h2,h3,h4,h5,q⟩
  .exact⟨_,rfl,.int (i:Int),.index (i:Int),rfl,rfl,_,rfl,c9 ⟨_,rfl,_,rfl,_,rfl,q⟩⟩
  .refine⟨_,rfl,.ref b,.name n,rfl,⟨b,rfl,hb⟩,_,rfl,cK ?_⟩
   refine⟨_,rfl,_,rfl,x,CT,dx,_,rfl,hx,TD.cT,TD.nNa,(by show 5<1000;decide),?_⟩
   refine⟨_,rfl,_,rfl,_,rfl,gl,_,_,V.ref h,rfl,rfl,SqL.of h1,by rw[aQ];exact fD _ _,_,rfl,h,b,k,as,ns,n,rfl,h2,h3,h4,h5,?_⟩
   exact⟨_,rfl,q⟩
theorem Ak:bq ["trail","steps","x","found","holders"] ["trail","steps","x"] (aS sRL):=fs_
theorem ok_RL{f FK KI:Addr}{fd NX Dr:FuncData}(F:Fun K "replace_last" "replace_last" sRL f fd)(TD:TxD K mg CT)
  (GM:Co P w K mg base CX0 2 FK NX ["holder","step"] (vP K) "find_member")
  (GL:Co P w K mg base (CXF P w) 4 KI Dr ["holders","grown"] (vN CT CV) "lengthen") :
  bQ P w K mg base (CXF P w) 5 f fd ["trail","steps","x"] (zN K CT CV):=by
 refine okX F Ak (λvs H Q E h=>?_) (λAY A outer s H vs Q E hr h=>?_)
 .rcases h with⟨g,d,x,rfl,_⟩ | ⟨g,d,x,y,h,a0,dx,nx,rx,lx,dy,ny,ry,ly,dh,nh,rh,lh,kx,ky,kh,i,Bj,Bt,BF,len0,hs,ws,ms,w0,R,u,ls,rfl,_⟩<;>rfl
 .have Bm:cD 2 _:=hr.mono (by decide)
  refine⟨_,az (cE (nY (eI (pv 1) (λξ=>rfl))) (aJ (bK (pv 2))) b7)
   (az (bE (i:=3) Ak.nd rfl (.inl rfl) (dJ cx (pv 0) (eK dF bb) (λξ ξ=>rfl)))
   (az (bE (i:=4) Ak.nd rfl (.inl rfl) (iy jh (pv 0) qf (gj (eK dF bb))))
   (az (dv (pv 2) (a6 (pv 3) rfl) rfl)
   (az (Av (pv 2) (Az (a6 (dJ cx (pv 4) (eK dF bb) (λξ ξ=>rfl)) rfl) (cj GM Bm rfl cM (aa (dJ cx (pv 4) (eK dF bb) (λξ ξ=>rfl)) (aa (dJ cx (pv 1) (eK dF bb) (λξ ξ=>rfl)) aG))) vQ))
   (aJ (bK (cj GL hr rfl dG (aa (pv 4) (aa (dI iA (a6 (pv 2) rfl) (a6 (pv 3) rfl)) aG))))))))),?_⟩
  try dsimp only[cW];rcases h with⟨g,d,x,rfl,hd,q⟩ | ⟨g,d,x,y,h,a0,dx,nx,rx,lx,dy,ny,ry,ly,dh,nh,rh,lh,kx,ky,kh,i,Bj,Bt,BF,len0,hs,ws,ms,w0,R,u,ls,rfl,hg,hd,CK,E8,hx,hy,SZ,Mm,FA,D8,h0,⟨d0,k0,n0,r0,l0,Dq⟩,hh,Cr,hi,Lj,FM,hR,A',MW,EK,q⟩
  .exact⟨_,rfl,_,.inl ⟨_,SqL.of hd,rfl⟩,c9 ⟨_,rfl,q⟩⟩
  .have CH:(!ws.isEmpty)=true:=by
    cases ws with
    | nil=>cases E8
    | cons _ _=>rfl
   refine⟨_,rfl,_,.inl ⟨_,SqL.of hd,rfl⟩,?_⟩
   rw[CH];have K0:(hs++[h,y]).map V.ref=(hs++[h]).map V.ref++[V.ref y]:=by simp
   rw[K0]at hg;refine cK ⟨_,rfl,_,rfl,g,_,_,V.ref y,rfl,rfl,SqL.of hg,fD _ _,?_⟩
   refine⟨_,rfl,_,rfl,_,rfl,ex2 g _ ⟨rfl,SqL.of hg,λgh FC=>?_⟩⟩
   rw[uz,eU];have k1:bY H (upd H gh (.lst ((hs++[h]).map V.ref))):=λb o e=>(aj (ag e FC)).trans e
   generalize LK:upd H gh (.lst ((hs++[h]).map V.ref))=H1 at k1;have Nn:H1 gh=some (.lst ((hs++[h]).map V.ref)):=by rw[<-LK,aC]
   refine⟨_,rfl,y,CT,dy,_,_,rfl,k1 _ _ hy,TD.cT,TD.nNa,rfl,_,rfl,x,CT,dx,_,rfl,k1 _ _ hx,TD.cT,TD.nNa,(by show 5<1000;decide),?_⟩
   generalize CJ:upd H1 x _=H2;have Iz:H2 x=some (.ins CT dx (nf kx ny rx Bj lx)):=by rw[<-CJ,aC];rfl
   have k2:∀z o,H1 z=some o->z≠x->H2 z=some o:=λz o e n=>by rw[<-CJ,aj n];exact e
   have Ft:∀z o,H z=some o->z≠x->H2 z=some o:=λz o e n=>k2 z o (k1 z o e) n
   have V3:gh≠x:=λz=>by rw[z,hx]at FC;cases FC
   have Dg:=k2 _ _ Nn V3
   have Vj:h≠x:=λz=>Mm (by rw[<-z];simp)
   have MD:lh≠x:=dC Cr hx (by intro z;cases z)
   have Wq:d≠x:=dC hd hx (by intro z;cases z)
   have JG:iD H2 w0 ls:=by
    cases ls with
    | index z=>exact A'
    | name n =>
     obtain⟨b,e,hb⟩:=A'
     exact⟨b,e,Ft _ _ hb (MW b e)⟩
   have RJ:atI ((hs++[h]).map V.ref) (-1)=some (V.ref h):=by rw[aQ];exact fD _ _
   refine⟨_,rfl,_,rfl,_,rfl,gh,_,_,V.ref h,rfl,rfl,SqL.of Dg,RJ,fd_ (Ft _ _ hh Vj) TD.cT TD.nMe rfl ?_⟩
   refine⟨_,rfl,_,rfl,gh,_,_,V.ref h,rfl,rfl,SqL.of Dg,RJ,_,rfl,_,rfl,ex4 d _ _ w0 ⟨rfl,rfl,SqL.of (Ft _ _ hd Wq),lu (k:=1) (aF _) CK E8,?_⟩⟩
   refine⟨R,h,w0,u,ls,rfl,FM,hR H2 Ft,JG,?_⟩
   have Nb:mNo u.1 ls=(i:Int):=by unfold mNo;rw[EK]
   show zb _ (.int (mNo u.1 ls)) _ _ _
   rw[Nb];refine ex4 lh ms (i:Int) i ⟨rfl,rfl,Ft _ _ Cr MD,by unfold ixN;rw[ax (cV _),ax (ciL hi),eV],?_⟩
   generalize DU:upd H2 lh (.lst (ms.set i (.ref x)))=H3;have Dm:H3 lh=some (.lst (ms.set i (.ref x))):=by rw[<-DU,aC]
   have k3:∀z o,H2 z=some o->z≠lh->H3 z=some o:=λz o e n=>by rw[<-DU,aj n];exact e
   have BE:∀{z:Addr}{C d:Addr}{fs:List (Str×V)},H z=some (.ins C d fs)->z≠lh:=λe=>dC e Cr (by intro z;cases z)
   have Pr:x≠lh:=ba MD
   have NU:gh≠lh:=λz=>by rw[z,Cr]at FC;cases FC
   refine⟨_,rfl,_,rfl,fd_ (k3 _ _ Iz Pr) TD.cT TD.nLe rfl ⟨_,rfl,fd_ (k3 _ _ (Ft _ _ hy SZ) (BE hy)) TD.cT TD.nLe rfl (ex2 _ _ ⟨rfl,rfl,gh,a0,hs++[h],Bj-Bt,len0,rfl,k3 _ _ Dg NU,FA,λz hz=>?_,h0,⟨d0,k0,n0,r0,l0,k3 _ _ (Ft _ _ Dq (λz=>Mm (z▸di h0))) (BE Dq)⟩,?_⟩)⟩⟩
   .obtain⟨dz,kz,nz,rz,Fs,lz,e⟩:=D8 z hz
    exact⟨dz,kz,nz,rz,Fs,lz,k3 _ _ (Ft _ _ e (λy=>Mm (y▸hz))) (BE e)⟩
   .unfold iQ at *
    have kk:∀z o,upd H x (.ins CT dx (nf kx ny rx Bj lx)) z=some o->z≠lh->H3 z=some o:=λz o e n=>by
     by_cases zx:z=x
     .rw[zx,aC]at e;rw[zx,<-e];exact k3 _ _ Iz Pr
     .rw[aj zx]at e;exact k3 _ _ (Ft z o e zx) n
    by_cases c:16777216<len0+(Bj-Bt)
    .rw[ax c]at q |-;exact q
    .rw[ay c]at q |-;intro H' f1 f2 _
     refine q H' (λz o e n1 n2=>f1 z o (kk z o e (λy=>n2 (by rw[y];simp))) n1 (by simp)) (λz hz dz kz nz rz Fs lz e=>f2 z hz _ _ _ _ _ _ (kk _ _ e (λy=>?_))) ?_
     .rw[y,aj MD,Cr]at e;cases e
     .refine f1 lh _ Dm (λz=>?_) (by simp)
      obtain⟨dy,ky,ny,ry,Bt,ly,e⟩:=D8 lh z
      rw[Cr]at e;cases e
theorem my:∀(a b:List Sw.Step)(x:Sw.Value×Nat),(Pm.trail x a).length<=a.length->Pm.trail x (a++b)=Pm.trail x a
 | [],b,x,h=>by
  unfold Pm.trail at h;exact aW h (by simp)
 | t::a,b,x,h=>by
  show Pm.trail x (t::(a++b))=_
  unfold Pm.trail at h |-;cases e:Pm.go x t with
  | none=>rfl
  | some z =>
   rw[e]at h;have h:(Pm.trail z a).length+1<=a.length+1:=h
   show x::Pm.trail z (a++b)=x::Pm.trail z a
   rw[my a b z (bA h)]
theorem vc{v u:Sw.Value}{la:List Sw.Step}{ls:Sw.Step}{p:Nat}(hn:(Pm.trail (v,0) (la++[ls])).length=la.length+1)(hl:(Pm.trail (v,0) (la++[ls])).getLast? =some (u,p)) :
  (Pm.trail (v,0) la).length=la.length+1/\(Pm.trail (v,0) la).getLast? =some (u,p)/\u.memberOf ls=none:=by
 by_cases c:(Pm.trail (v,0) la).length<=la.length
 .rw[my la [ls] _ c]at hn;lia
 .have hle:=Pm.leads_le la v
  have BG:(Pm.trail (v,0) la).length=(v.leads la).length+1:=Pm.trail_len la (v,0)
  have hf:(Pm.trail (v,0) la).length=la.length+1:=by lia
  cases e:(Pm.trail (v,0) la).getLast? with
  | none=>exact aW (bz.mp e) (Pm.trail_ne _ _)
  | some y =>
   have hs:=Pm.trail_snoc la (v,0) y ls [] hf e
   cases g:Pm.go y ls with
   | none =>
    rw[g]at hs;have hs:Pm.trail (v,0) (la++[ls])=Pm.trail (v,0) la++[]:=hs
    rw[hs,bJ,e]at hl;injection hl with hl;rw[hl]at g;exact⟨hf,by rw[hl],Pm.go_none g⟩
   | some z =>
    rw[g]at hs;have hs:Pm.trail (v,0) (la++[ls])=Pm.trail (v,0) la++Pm.trail z []:=hs
    rw[hs,ae]at hn;have:(Pm.trail z []).length=1:=by unfold Pm.trail;rfl
    lia
def nq(l:List Sw.Step):Prop:=∀n,Sw.Step.name n∈l->∃t,t.all Sw.isScalar=true/\n=Sw.utf8 t
def zW(CT CL CV:Addr):Sp:=λvs H Q E=>∃(B:Hp)(s:Sh)(v:Sw.Value)(d:Addr)(ws:List V)(l:List Sw.Step)(x:Sh)(w:Sw.Value),vs=[.ref s.a,.ref d,.ref x.a,.int (w.deep:Int)]/\jd CT B H s v/\B d=some (.lst ws)/\dE B ws l/\l.length<=65536/\nq l/\XOk CT B H s x w/\w.enc.length<=16777216/\Chg CT CL CV B v l (.put w) Q E
theorem Au{u:Sw.Value}{st:Sw.Step}{n:Nat}(x:Sw.Value)(hn:(Pm.rowOf u).length=n)(hok:∀k,st =.name k->∃t,t.all Sw.isScalar=true/\k=Sw.utf8 t)(hm:u.memberOf st=none)(h:kS u.kind n st=false):u.done st (.put x)=none:=by
 cases u with
 | list m =>
  have hn:m.length=n:=hn
  cases st with
  | index z =>
   have h:=of_decide_eq_false (show decide (5=5/\z=(n:Int))=false from h)
   have hm:(if 0<=z/\z<(m.length:Int)then some z.toNat else none)=none:=hm
   show(if 0<=z/\z<(m.length:Int)then some (Sw.Value.list (m.set z.toNat x))else if z=(m.length:Int)then some (Sw.Value.list (m.insert m.length x))else none)=none
   rw[ay (λy=>by rw[ax y]at hm;cases hm),ay (λy=>h ⟨rfl,by rw[<-hn];exact y⟩)]
  | name k=>rfl
 | rec_ m =>
  cases st with
  | index z=>rfl
  | name k =>
   obtain⟨t,ht,rfl⟩:=hok k rfl
   have h:=of_decide_eq_false (show decide (6=6/\1<=(Sw.utf8 t).length/\(Sw.utf8 t).length<=255)=false from h)
   have hm:m.indexOf (Sw.utf8 t)=none:=hm
   show(match m.indexOf (Sw.utf8 t)with
    | some i=>some (Sw.Value.rec_ (m.set i x))
    | none=>if Sw.nameOk (Sw.utf8 t)=true then some (Sw.Value.rec_ (m.under (Sw.utf8 t) x))else none)=none
   rw[hm];show(if Sw.nameOk (Sw.utf8 t)=true then some (Sw.Value.rec_ (m.under (Sw.utf8 t) x))else none)=none
   rw[Pm.name_ok ht,ay];rw[aE,bw,bw];exact λy=>h ⟨rfl,y⟩
 | _=>cases st<;>rfl
theorem sk{u:Sw.Value}(h:Pm.isHold u){r1 r2:Sw.Row}{n:List UInt8}{w0:Sw.Value}(er:Pm.rowOf u=Pm.rapp r1 (.cons n w0 r2))(x:Sw.Value):u.with_ r1.length x=Pm.withRow u (Pm.rapp r1 (.cons n x r2)):=by
 cases u with
 | list m =>
  have er:m=_:=er
  show Sw.Value.list (m.set r1.length x)=Sw.Value.list _
  rw[er,Pm.rapp_set]
 | rec_ m =>
  have er:m=_:=er
  show Sw.Value.rec_ (m.set r1.length x)=Sw.Value.rec_ _
  rw[er,Pm.rapp_set]
 | _=>rcases h with h | h<;>cases h
theorem Al:bq ["top","steps","x","x_depth","trail","leading"] ["top","steps","x","x_depth"] (aS sPA):=fs_
theorem ok_PA{f FJ KG HZ Kx Kz:Addr}{fd EY DI E2 Gm Cw Dr:FuncData}(F:Fun K "put_at" "put_at" sPA f fd)(TD:TxD K mg CT)(len:mg "len" =none)(uc:fm K U CL Fl)(Jv:mg "LeadsNowhere" =some (.ref CL))
  (GL:bQ P w K mg base CX0 2 Fl Dr ["self","leading"] (fK CL 1 aLN))(bL:bZ K Dr ["self","leading"] [])
  (GF:Co P w K mg base CX0 3 FJ EY ["whole","steps"] (vO K) "follow")
  (GM:Co P w K mg base CX0 2 KG DI ["holder","step"] (zZ K) "may_have")
  (GC:Co P w K mg base (CXF P w) 4 HZ E2 ["steps","x_depth"] (xJ CV) "check_depth")
  (GR:Co P w K mg base (CXF P w) 5 Kx Gm ["trail","steps","x"] (zN K CT CV) "replace_last")
  (GP:Co P w K mg base (CXF P w) 6 Kz Cw ["holders","step","x"] (zQ K CT CV) "put_new") :
  bQ P w K mg base (CXF P w) 7 f fd ["top","steps","x","x_depth"] (zW CT CL CV):=by
 refine okX F Al (λvs H Q E h=>?_) (λAY A outer s H vs Q E hr h=>?_)
 .obtain⟨B,s,v,d,ws,l,x,w',rfl,_⟩:=h
  rfl
 .obtain⟨B,sh,v,d,ws,l,x,xw,rfl,G,hd,A',hl,Gb,X,MK,q⟩:=h
  have Bm:cD 2 _:=hr.mono (by decide)
  have Bs:cD 3 _:=hr.mono (by decide)
  have DP:cD 4 _:=hr.mono (by decide)
  have M1:cD 5 _:=hr.mono (by decide)
  refine⟨_,az (bE (i:=4) Al.nd rfl (.inl rfl) (cj GF Bs rfl cM (aa (pv 0) (aa (pv 1) aG))))
   (az (bE (i:=5) Al.nd rfl (.inl rfl) (dI iA (ck cB (by rfl) len bo (aa (pv 4) aG)) bb))
   (az (cE (bC eN (pv 5) (ck cB (by rfl) len bo (aa (pv 1) aG)) (bX _))
    (az (cY (cj GC DP rfl dG (aa (pv 1) (aa (pv 3) aG))))
    (aJ (bK (cj GR M1 rfl dG (aa (pv 4) (aa (pv 1) (aa (pv 2) aG))))))) b7)
   (az (cE (PW.pt (kJ (bC jw (pv 5) (dI iA (ck cB (by rfl) len bo (aa (pv 1) aG)) bb) (bX _)) (jB (nY (nX (cj GM Bm rfl cM (aa (dJ cx (pv 4) (eK dF bb) (λξ ξ=>rfl)) (aa (dJ cx (pv 1) (eK dF bb) (λξ ξ=>rfl)) aG))))))))
    (aJ (iw uc GL bL rfl Bs cN rfl rfl Jv (aa (pv 5) aG) (by decide))) b7)
   (az (cY (cj GC DP rfl dG (aa (pv 1) (aa (pv 3) aG))))
   (aJ (bK (cj GP hr rfl dG (aa (pv 4) (aa (dJ cx (pv 1) (eK dF bb) (λξ ξ=>rfl)) (aa (pv 2) aG)))))))))),?_⟩
  try dsimp only[cW];have Gg:=G.sb _ _ hd
  refine⟨_,rfl,_,rfl,ex6 _ sh.a d v ws l ⟨rfl,lb TD,ex2 sh [] ⟨rfl,G.ok,G.pl⟩,Gg,A'.same G.sb,hl,λg as H1 k1 II hg D4 Df Dd=>?_⟩⟩
  have BU:=D4.len
  have BG:(Pm.trail (v,0) l).length=(v.leads l).length+1:=Pm.trail_len l (v,0)
  have hle:=Pm.leads_le l v
  have BS:=A'.len
  have DF:=k1 _ _ Gg
  have Bv:(((as.map V.ref).length:Nat):Int)-1=(((v.leads l).length:Nat):Int):=by
   rw[au,BU,BG];lia
  have JB:=G.dp
  refine⟨_,rfl,ex2 g _ ⟨rfl,.inl (SqL.of hg),ex2 _ _ ⟨rfl,rfl,?_⟩⟩⟩
  refine⟨_,rfl,_,rfl,ex2 d _ ⟨rfl,.inl (SqL.of DF),rfl,_,rfl,?_⟩⟩
  show(if decide (V.int ((((as.map V.ref).length:Nat):Int)-1)=V.int ((ws.length:Nat):Int))=true then _ else _)
  rw[iC,Bv,BS];have LM:bY B H1:=λy o e=>k1 _ _ (G.sb y o e)
  obtain⟨xa,xl,xn,xr,Bp⟩:=x
  by_cases c:(Pm.trail (v,0) l).length=l.length+1
  .rw[ah (show(((v.leads l).length:Nat):Int)=((l.length:Nat):Int)by lia)]
   refine c9 ⟨_,rfl,_,rfl,ex3 d ws xw.deep ⟨rfl,DF,?_⟩⟩
   cases Be:(Pm.trail (v,0) l).getLast? with
   | none=>exact aW (bz.mp Be) (Pm.trail_ne _ _)
   | some y =>
    obtain⟨yv,yp⟩:=y
    obtain⟨w',Mj,SV,_⟩:=Pm.put_old xw G.pl G.dp X.pl c Be
    by_cases cd:64<ws.length+xw.deep
    .rw[ax cd];unfold Chg at q;rw[Mj]at q;dsimp only at q;rw[SV,ai (by lia),fJ,ax rfl]at q
     exact q
    .rw[ay cd];refine⟨_,rfl,_,rfl,_,rfl,?_⟩
     rcases cG l with el | ⟨la,ls,el⟩
     .subst el;have ew:ws=[]:=de.mp BS
      subst ew;refine .inl (ex3 g d xa ⟨rfl,DF,?_⟩)
      unfold Chg at q;have q:(if xw.ok=false then gp E CV [.int (-9)]else ∀(s':Sh)(H':Hp),jd CT B H' s' xw->Q (.ref s'.a) H'):=q
      rw[ug X.pl X.dp MK,ay (λz=>nomatch z)]at q
      exact q (.node xa xl xn xr Bp) H1 ⟨LM,X.ok.same k1,X.nd,X.fz,X.fb,X.pl,X.dp,MK⟩
     .rw[cH]at el;subst el;obtain⟨w0,Ie,CK,E8⟩:=jA A'
      refine e4_ (Pm.trail_front c Be) λu p i n=>c6_ λt1 t2 t3 t4 t5 t6=>?_
      obtain⟨t,BI,hs,rest,Ba,put,W⟩:=p6 (K:=K) t1 t2 G.ok G.nd
      have DN:=Pm.trail_last_pl G.pl t2
      have Bd:=Pm.memberOf_hold t3
      have De:as.length=la.length+2:=by rw[BU,c,ae,a9]
      have Bo:=W.way (as.take (la.length+1)) (Df.lk.front t1) (by rw[br (a8 _ _)];exact Dd) (by rw[aP];lia)
      have Vk:hs.length=la.length:=by
       have:=congrArg List.length Bo
       rw[aP,ae,a9]at this;omega
      obtain⟨ta,tl,tn,tr,AZ⟩:=t
      have Bo:as.take (la.length+1)=hs++[ta]:=Bo
      have Hh:as[la.length]? =some ta:=by
       have e1:(as.take (la.length+1))[la.length]? =as[la.length]?:=br (aF _)
       rw[<-e1,Bo,<-Vk,cZ]
      obtain⟨ya,Rp⟩:∃ya,as[la.length+1]? =some ya:=⟨_,aO (leL De (aF _))⟩
      have has:as=hs++[ta,ya]:=by
       have e1:=du (la.length+1) as
       rw[Bo,bW (leL De (aF _)),gA (fM De)]at e1;have e2:as[la.length+1]=ya:=by
        have:=aK.mp Rp
        exact this.2
       rw[e2]at e1;rw[<-e1];simp
      refine e6_ (Df la.length ya Rp) λhh k ma yy st j=>c6_ λx1 x2 x3 x4 x5 x6=>?_
      have Wh:hh=ta:=by rw[Hh]at x1;exact(aV x1).symm
      subst Wh;have Wb:yy=(u,p):=by
       rw[t6,cg (leL t1 (aF _))]at x2;rw[cO,t1,iG]at t2;rw[t2]at x2;exact(aV x2).symm
      subst Wb;have Wd:st=ls:=by
       rw[cZ]at x3;exact(aV x3).symm
      subst Wd;have Wg:j=i:=by
       have x4:u.memberOf st=some j:=x4
       rw[t3]at x4;exact(aV x4).symm
      subst Wg;have K8:=W.ok
      cases K8 with
      | mk b1 b2 b3 b4 b5 =>
       rename_i dt
       rw[rO b1 b4 x5]at x6;obtain⟨sy,Fm,Hi⟩:=pO x6
       refine e4_ (b5.split Fm) λn' w1 r1 r2=>c5_ λf1 f2 f3 f4 f5=>?_
       obtain⟨Gz,Lb,DL,La,syms⟩:=sy
       have Hi:Gz=ya:=Hi
       subst Hi;have Fc:j<AZ.length:=(aK.mp Fm).1
       have Bq:∀y,y∈sh.adr↔y∈rest++(hh::tl::Sh.adrs AZ):=λy=>W.adr.mem_iff
       have B3:∀y,y∈sh.frz↔y∈Ba++(tn::tr::Sh.frzs AZ):=λy=>W.frz.mem_iff
       have Fw:tl∈sh.adr:=(Bq tl).mpr (by simp)
       have DD:∀y∈hs++[hh],y∈sh.adr:=λy hy=>by
        rcases aM.mp hy with hy | hy
        .exact(Bq y).mpr (aB _ (W.inR y hy))
        .rw[aN.mp hy];exact(Bq hh).mpr (by simp)
       have eA:Sh.adrs AZ=Sh.adrs (AZ.take j)++((Sh.node Gz Lb DL La syms).adr++Sh.adrs (AZ.drop (j+1))):=by
        conv=>lhs;rw[pP Fm,dY]
        rfl
       have eF:Sh.frzs AZ=Sh.frzs (AZ.take j)++((Sh.node Gz Lb DL La syms).frz++Sh.frzs (AZ.drop (j+1))):=by
        conv=>lhs;rw[pP Fm,dM]
        rfl
       have MU:Gz∈sh.adr:=(Bq Gz).mpr (by
        refine aq _ (aA _ (aA _ ?_))
        rw[eA];refine aq _ (aB _ ?_)
        unfold Sh.adr;simp)
       have Fy:DL∈sh.frz:=(B3 DL).mpr (by
        refine aq _ (aA _ (aA _ ?_))
        rw[eF];refine aq _ (aB _ ?_)
        unfold Sh.frz;simp)
       have BZ:xa∈(Sh.node xa xl xn xr Bp).adr:=by unfold Sh.adr;simp
       have CW:∀y∈sh.adr,y≠xa:=λy hy z=>(X.ap xa BZ).1 (z▸hy)
       have BY:∀y∈sh.frz,y≠xa:=λy hy z=>(X.ap xa BZ).2 (z▸hy)
       have V':=f4
       cases f4 with
       | mk y1 y2 y3 y4 y5 =>
        rename_i yd
        have Ow:=X.ok
        cases Ow with
        | mk z1 z2 z3 z4 z5 =>
         rename_i xd
         obtain⟨d0,n0,r0,l0,Dq⟩:=G.ok.node
         have Wn:d≠tl:=λz=>by rw[z,G.fb tl Fw]at hd;cases hd
         refine .inr ⟨g,d,xa,Gz,hh,sh.a,xd,xn,xr,xl,yd,DL,La,Lb,dt,tn,tr,tl,xw.kind,w1.kind,u.kind,j,_,_,_,(v.enc.length:Int),hs,ws,_,w0,_,(u,p),st,rfl,by rw[hg,has],DF,Ie,E8,k1 _ _ z1,k1 _ _ y1,CW _ MU,λz=>CW _ (DD _ z) rfl,W.ndt G.nd,λy hy=>?_,?_,⟨d0,_,n0,r0,l0,k1 _ _ Dq⟩,k1 _ _ b1,k1 _ _ b4,by rw[au];exact Fc,Wn,lb TD,λH2 QH=>?_,(CK.same G.sb).same k1,λb eb z=>?_,t3,?_⟩
         .obtain⟨dz,kz,nz,rz,Fs,lz,e⟩:=W.nodesAt y hy
          exact⟨dz,kz,nz,rz,Fs,lz,k1 _ _ e⟩
         .rw[<-Bo,br (a8 _ _)];exact Dd
         .refine⟨.node hh tl tn tr AZ,BI,rfl,W.ok.keep (λy hy o e=>QH y o (k1 _ _ e) (CW y ((Bq y).mpr (aq _ hy)))) (λy hy o e=>QH y o (k1 _ _ e) (BY y ((B3 y).mpr (aq _ hy)))),DN⟩
         .subst eb;cases st with
          | index _=>cases CK
          | name m =>
           obtain⟨b',Ob,Ej⟩:=CK
           injection Ob with Ob
           subst Ob
           rw[z,X.fb xa BZ]at Ej
           cases Ej
         .have Fv:=sk Bd f1 xw
          rw[f2]at Fv;have Gc:u.member j=some (n',w1):=by
           have z2:=Pm.rapp_get r1 (.cons n' w1 r2) 0
           rw[gw,f2,<-f1]at z2;rw[Pm.member_eq];exact z2
          have hlen:((Pm.withRow u (Pm.rapp r1 (.cons n' xw r2))).enc.length:Int)=(u.enc.length:Int)+((xw.enc.length:Int)-(w1.enc.length:Int)):=by
           rw[<-Fv];obtain⟨pre,post,q1,_,q3⟩:=Pm.with_enc Gc
           rw[q3,q1];simp only[ae];lia
          have MX:(AZ.map λs=>V.ref s.a).set j (V.ref xa)=(AZ.take j++(Sh.node xa xl DL xr Bp)::AZ.drop (j+1)).map λs=>V.ref s.a:=by
           rw[List.set_eq_take_append_cons_drop,ax (by rw[au];exact Fc),aQ,bj,gU,iS]
           rfl
          rw[MX];have FE:v.doneAt (la++[st]) (.put xw)=some (Pm.repl v la (Pm.withRow u (Pm.rapp r1 (.cons n' xw r2)))):=by
           rw[Pm.doneAt_snoc la v 0 u p st _ t1 t2,Pm.done_put t3,Fv];rfl
          rw[Mj]at FE;have Wc:=aV FE
          have EA:(Pm.repl v la (Pm.withRow u (Pm.rapp r1 (.cons n' xw r2)))).plain=true:=by
           rw[<-Fv];exact Pm.repl_plain la v _ G.pl (Pm.with_plain DN X.pl)
          obtain⟨Il,E4,CY⟩:=Pm.repl_deep la v 0 u p (Pm.withRow u (Pm.rapp r1 (.cons n' xw r2))) t1 t2
          obtain⟨Sr,Sq,YR⟩:=Pm.with_deep Gc xw
          rw[Fv]at Sr Sq;have D3:ws.length=la.length+1:=by rw[BS,ae,a9]
          have EI:(rest++(hh::tl::Sh.adrs AZ)).Nodup:=W.adr.nodup_iff.mp G.nd
          have B2:=bF.mp EI
          have EF:∀x∈Sh.adrs AZ,x∉hs++[hh]/\x∉[tl]:=λx hx=>by
           refine⟨λz=>?_,λz=>?_⟩
           .rcases aM.mp z with z | z
            .exact B2.2.2 x (W.inR x z) x (by simp[hx]) rfl
            .rw[aN.mp z]at hx;exact(bc.mp B2.2.1).1 (aA _ hx)
           .rw[aN.mp z]at hx;exact(bc.mp (bc.mp B2.2.1).2).1 hx
          have kx:∀y o,H y=some o->y≠xa->upd H1 xa (.ins CT xd (nf xw.kind DL xr (xw.enc.length:Int) xl)) y=some o:=λy o e n=>(aj n).trans (k1 _ _ e)
          have Cd:NdT CT (upd H1 xa (.ins CT xd (nf xw.kind DL xr (xw.enc.length:Int) xl))) (.node xa xl DL xr Bp) xw n':=by
           have EE:=X.nd
           unfold Sh.adr at EE;rw[bc]at EE;have Jx:∀y∈xl::Sh.adrs Bp,y≠xa:=λy hy z=>EE.1 (z▸hy)
           have Ha:∀y∈xr::Sh.frzs Bp,y≠xa:=λy hy z=>X.fz y (by unfold Sh.frz;exact aA _ hy) (z▸BZ)
           refine .mk aC (kx _ _ y2 (BY _ Fy)) ⟨z3.1.imp id λy=>kx _ _ y (Ha _ (by simp)),z3.2.elim λo y=>⟨o,kx _ _ y (Ha _ (by simp))⟩⟩ (kx _ _ z4 (Jx _ (by simp))) (z5.keep (λy hy o e=>kx y o e (Jx y (by simp[hy]))) λy hy o e=>kx y o e (Ha y (by simp[hy])))
          refine qr (CL:=CL) (xa:=(Sh.node xa xl xn xr Bp).adr) (xf:=(Sh.node xa xl DL xr Bp).frz) (gone:=(Sh.node Gz Lb DL La syms).adr) (tms':=AZ.take j++(Sh.node xa xl DL xr Bp)::AZ.drop (j+1)) (u':=Pm.withRow u (Pm.rapp r1 (.cons n' xw r2))) (l:=la++[st]) (d:=.put xw) G W t1 t2 (λy o e hy=>kx y o e ?_) Bd (Pm.withRow_kind _ _) hlen (λH' kk=>?_) ?_ ?_ ?_ ?_ (λy hy z=>(X.ap y z).2 hy) X.fb (Mj.trans (congrArg some Wc)) EA (by omega) q
          .rcases hy with hy | hy
           .rcases aM.mp hy with hy | hy
            .exact CW y hy
            .exact BY y hy
           .intro z;rw[z,X.fb xa BZ]at hy;cases hy
          .rw[Pm.withRow_row Bd];have J2:∀x∈Sh.adrs AZ,∀o,H x=some o->H' x=some o:=λx hx o e=>kk x o (kx x o e (CW x ((Bq x).mpr (by simp[hx])))) (EF x hx).1 (EF x hx).2
           have J1:∀x∈Sh.frzs AZ,∀o,H x=some o->H' x=some o:=λx hx o e=>by
            have hf:=(B3 x).mpr (by simp[hx])
            exact kk x o (kx x o e (BY x hf)) (λz=>G.fz x hf (DD x z)) (λz=>G.fz x hf (by rw[aN.mp z];exact Fw))
           have ML:NdT CT H' (.node xa xl DL xr Bp) xw n':=Cd.keep (λx hx o e=>kk x o e (λz=>(X.ap x hx).1 (DD x z)) (λz=>(X.ap x hx).1 (by rw[aN.mp z];exact Fw))) (λx hx o e=>by
            have Iz:x∉sh.adr:=by
             unfold Sh.frz at hx;rcases aI.mp hx with rfl | hx
             .exact G.fz _ Fy
             .exact X.xf x (by unfold Sh.frz;exact aA _ hx)
            exact kk x o e (λz=>Iz (DD x z)) (λz=>Iz (by rw[aN.mp z];exact Fw)))
           exact NdTs.append (f3.keep (λx hx o e=>J2 x (by rw[eA];exact aB _ hx) o e) λx hx o e=>J1 x (by rw[eF];exact aB _ hx) o e) (.cons ML (f5.keep (λx hx o e=>J2 x (by rw[eA];exact aq _ (aq _ hx)) o e) λx hx o e=>J1 x (by rw[eF];exact aq _ (aq _ hx)) o e))
          .rw[bF];exact⟨G.nd,X.nd,λa ha b hb z=>(X.ap b hb).1 (z▸ha)⟩
          .rw[dY,eA];refine dH.mpr λx=>?_
           simp only[Sh.adrs,Sh.adr,d7,fZ];lia
          .intro x hx;rw[dM]at hx;rw[eF];rcases aM.mp hx with hx | hx
           .exact .inl (aB _ hx)
           .have hx:x∈(Sh.node xa xl DL xr Bp).frz++Sh.frzs (AZ.drop (j+1)):=hx
            rcases aM.mp hx with hx | hx
            .exact .inr hx
            .exact .inl (aq _ (aq _ hx))
          .intro x hx z;unfold Sh.frz at hx;rcases aI.mp hx with rfl | hx
           .rcases aM.mp z with z | z
            .exact G.fz _ Fy z
            .exact(X.ap _ z).2 Fy
           .have hx:x∈(Sh.node xa xl xn xr Bp).frz:=by unfold Sh.frz;exact aA _ hx
            rcases aM.mp z with z | z
            .exact X.xf x hx z
            .exact X.fz x hx z
  .rw[ai (show ¬(((v.leads l).length:Nat):Int)=((l.length:Nat):Int)by lia)]
   have bad:v.doneAt l (.put xw)=none->gp E CL [.int (-4),.int (((v.leads l).length:Nat):Int)]:=λc=>by
    unfold Chg at q;rw[c]at q;exact q
   rcases cG l with el | ⟨la,ls,el⟩
   .subst el;exact aW (by unfold Pm.trail;rfl) c
   .rw[cH]at el;subst el;obtain⟨w0,Ie,CK,E8⟩:=jA A'
    have D3:ws.length=la.length+1:=by rw[BS,ae,a9]
    have QC:(la++[ls]).length=la.length+1:=by rw[ae,a9]
    refine cK ⟨_,rfl,_,rfl,ex2 d _ ⟨rfl,.inl (SqL.of DF),ex2 _ _ ⟨rfl,rfl,ex2 _ _ ⟨rfl,rfl,_,rfl,?_⟩⟩⟩⟩
    show(if decide ((((as.map V.ref).length:Nat):Int)-1<((ws.length:Nat):Int)-1)=true then _ else _)
    rw[Bv,D3];by_cases c2:(v.leads (la++[ls])).length<la.length
    .rw[ah (show(((v.leads (la++[ls])).length:Nat):Int)<((la.length+1:Nat):Int)-1 by lia)]
     refine c9 ⟨_,rfl,rfl,?_⟩
     show gp E CL [.int (-4),.int ((((as.map V.ref).length:Nat):Int)-1)]
     rw[Bv];exact bad (Pm.doneAt_no la v 0 ls _ (rH (by rw[BG,QC];exact bO c2)))
    .rw[ai (show ¬(((v.leads (la++[ls])).length:Nat):Int)<((la.length+1:Nat):Int)-1 by lia)]
     have hn:(Pm.trail (v,0) (la++[ls])).length=la.length+1:=by rw[QC]at c hle;lia
     cases Be:(Pm.trail (v,0) (la++[ls])).getLast? with
     | none=>exact aW (bz.mp Be) (Pm.trail_ne _ _)
     | some y =>
      obtain⟨u,p⟩:=y
      obtain⟨t1,t2,t3⟩:=vc hn Be
      obtain⟨t,BI,hs,rest,Ba,put,W⟩:=p6 (K:=K) t1 t2 G.ok G.nd
      have DN:=Pm.trail_last_pl G.pl t2
      have De:as.length=la.length+1:=by rw[BU,hn]
      have Bo:=W.way (as.take (la.length+1)) (Df.lk.front t1) (by rw[br (a8 _ _)];exact Dd) (by rw[aP];lia)
      rw[cC (fM De)]at Bo;obtain⟨ta,tl,tn,tr,AZ⟩:=t
      have Bo:as=hs++[ta]:=Bo
      have hT:=W.ok.holdAt TD
      have B1:AZ.length=(Pm.rowOf u).length:=by
       cases W.ok with
       | mk _ _ _ _ h5=>exact h5.len
      have K6:atI ws (-1)=some w0:=lu (k:=1) (aF _) Ie E8
      have LA:H1 g=some (.lst ((hs++[ta]).map V.ref)):=by rw[hg,Bo]
      have Rf:g≠tl:=λz=>by
       cases W.ok with
       | mk _ _ _ h4 _=>rw[z,h4]at II;cases II
      have Re:(hs++[ta])[0]? =some sh.a:=by rw[<-Bo];exact Dd
      refine cK ⟨_,rfl,_,rfl,g,_,_,V.ref ta,rfl,rfl,SqL.of LA,by rw[aQ];exact fD _ _,_,rfl,_,rfl,ex4 d _ _ w0 ⟨rfl,rfl,SqL.of DF,K6,ta,w0,u.kind,_,ls,rfl,hT.same k1,(CK.same G.sb).same k1,_,rfl,?_⟩⟩
      rw[show(AZ.map Sh.a).length=AZ.length from au ..];by_cases cm:kS u.kind AZ.length ls=true
      .rw[cm];refine cK ⟨_,rfl,_,rfl,ex3 d ws xw.deep ⟨rfl,DF,?_⟩⟩
       have key:∃(n:List UInt8)(r1 r2:Sw.Row),Pm.rowOf u=Pm.rapp r1 r2/\Pm.isHold u/\Pm.nmB (Pm.namedOf u) n=nmR n/\n.length<=1000000/\u.done ls (.put xw)=some (Pm.withRow u (Pm.rapp r1 (.cons n xw r2)))/\(Pm.withRow u (Pm.rapp r1 (.cons n xw r2))).plain=true/\(Pm.withRow u (Pm.rapp r1 (.cons n xw r2))).deep=max u.deep (xw.deep+1) /\
         ((n=[]/\ls =.index (r1.length:Int))\/(ls =.name n/\u.kind=6/\r1.length=((Pm.rowOf u).names.filter λy=>Sw.bytesBefore y n).length)):=by
        cases ls with
        | index z =>
         obtain⟨c5,cz⟩:=of_decide_eq_true cm
         cases u with
         | list m =>
          have hm:AZ.length=m.length:=B1
          obtain⟨p1,p2,_⟩:=Pm.list_put DN X.pl m.length (aF _)
          have ei:m.insert m.length xw=Pm.rapp m (.cons [] xw .nil):=by
           have:=Pm.rapp_insert m .nil xw
           rw[Pm.rapp_nil]at this;exact this
          refine⟨[],m,.nil,(Pm.rapp_nil m).symm,.inl rfl,rfl,aX _,?_,?_,?_,.inl ⟨rfl,by rw[cz,hm]⟩⟩
          .show(if 0<=z/\z<(m.length:Int)then some (Sw.Value.list (m.set z.toNat xw))else if z=(m.length:Int)then some (Sw.Value.list (m.insert m.length xw))else none)=_
           rw[ay (by lia),ax (by lia),ei]
           rfl
          .show(Sw.Value.list (Pm.rapp m (.cons [] xw .nil))).plain=true
           rw[<-ei];exact p1
          .show(Sw.Value.list (Pm.rapp m (.cons [] xw .nil))).deep=_
           rw[<-ei];exact p2
         | _=>simp[Sw.Value.kind]at c5
        | name n =>
         obtain⟨c6,Oj,XJ⟩:=of_decide_eq_true cm
         obtain⟨tt,UP,rfl⟩:=Gb n (by simp)
         cases u with
         | rec_ m =>
          have Fd:m.indexOf (Sw.utf8 tt)=none:=t3
          have hok:Sw.nameOk (Sw.utf8 tt)=true:=by
           rw[Pm.name_ok UP,ah Oj,ah XJ];rfl
          obtain⟨p1,p2,_⟩:=Pm.rec_put DN X.pl Fd hok
          have CI:=Pm.cntB_le m (Sw.utf8 tt)
          obtain⟨r1,r2,e1,e2⟩:∃r1 r2,m=Pm.rapp r1 r2/\r1.length=Pm.cntB m (Sw.utf8 tt):=by
           cases W.ok with
           | mk _ _ _ _ h5 =>
            obtain⟨r1,r2,e1,e2,_,_⟩:=h5.cut (i:=Pm.cntB m (Sw.utf8 tt)) (by rw[show AZ.length=m.length from B1];exact CI)
            exact⟨r1,r2,e1,e2⟩
          have eu:m.under (Sw.utf8 tt) xw=Pm.rapp r1 (.cons (Sw.utf8 tt) xw r2):=by
           have h1:=Pm.rec_rising DN
           have h2:=Pm.indexOf_none.mp Fd
           rw[e1]at h1 h2 e2 |-;exact Pm.under_at r1 r2 _ xw h1 h2 e2.symm
          refine⟨Sw.utf8 tt,r1,r2,e1,.inr rfl,?_,by lia,?_,?_,?_,.inr ⟨rfl,rfl,e2⟩⟩
          .show Sw.vary (Sw.utf8 tt).length++Sw.utf8 tt=nmR (Sw.utf8 tt)
           unfold nmR;rw[ay (λz=>by rw[z]at Oj;cases Oj)]
          .show(match m.indexOf (Sw.utf8 tt)with
            | some i=>some (Sw.Value.rec_ (m.set i xw))
            | none=>if Sw.nameOk (Sw.utf8 tt)=true then some (Sw.Value.rec_ (m.under (Sw.utf8 tt) xw))else none)=_
           rw[Fd];show(if Sw.nameOk (Sw.utf8 tt)=true then some (Sw.Value.rec_ (m.under (Sw.utf8 tt) xw))else none)=_
           rw[ax hok,eu];rfl
          .show(Sw.Value.rec_ (Pm.rapp r1 (.cons (Sw.utf8 tt) xw r2))).plain=true
           rw[<-eu];exact p1
          .show(Sw.Value.rec_ (Pm.rapp r1 (.cons (Sw.utf8 tt) xw r2))).deep=_
           rw[<-eu];exact p2
         | _=>simp[Sw.Value.kind]at c6
       refine e3_ key λn r1 r2=>c8_ λer Bd DC E9 BO Nv Zg Cu=>?_
       have FE:v.doneAt (la++[ls]) (.put xw)=some (Pm.repl v la (Pm.withRow u (Pm.rapp r1 (.cons n xw r2)))):=by
        rw[Pm.doneAt_snoc la v 0 u p ls _ t1 t2,BO];rfl
       have EA:=Pm.repl_plain la v _ G.pl Nv
       obtain⟨Il,E4,CY⟩:=Pm.repl_deep la v 0 u p (Pm.withRow u (Pm.rapp r1 (.cons n xw r2))) t1 t2
       by_cases cd:64<ws.length+xw.deep
       .rw[ax cd];unfold Chg at q;rw[FE]at q;dsimp only at q;rw[ax (uh EA (by omega))]at q
        exact q
       .rw[ay cd];refine⟨_,rfl,_,rfl,_,rfl,ex4 d _ _ w0 ⟨rfl,rfl,SqL.of DF,K6,_,rfl,?_⟩⟩
        rcases Cu with⟨rfl,rfl⟩ | ⟨rfl,c6,M3⟩
        .have CK:w0 =.int (r1.length:Int):=CK
         subst CK;refine .inl (ex3 g xa r1.length ⟨rfl,?_⟩)
         exact tq (CL:=CL) (l:=la++[.index (r1.length:Int)]) (d:=.put xw) (r1:=r1) (r2:=r2) (n:=[]) (w:=xw) G W t1 t2 Bd (λy o e ξ=>k1 _ _ e) LA Rf Re (X.ok.same k1) X.nd X.ap (λy hy=>⟨X.xf y hy,X.fz y hy⟩) X.fb E9 er rfl DC FE EA (by lia) q
        .obtain⟨b,rfl,hb⟩:=CK
         have BZ:xa∈(Sh.node xa xl xn xr Bp).adr:=by unfold Sh.adr;simp
         have QQ:b≠xa:=λz=>by rw[z,X.fb xa BZ]at hb;cases hb
         have Ow:=X.ok
         cases Ow with
         | mk z1 z2 z3 z4 z5 =>
          rename_i xd
          have kx:∀y o,H1 y=some o->y≠xa->upd H1 xa (.ins CT xd (nf xw.kind b xr (xw.enc.length:Int) xl)) y=some o:=λy o e n=>(aj n).trans e
          have Bq:∀y,y∈sh.adr↔y∈rest++(ta::tl::Sh.adrs AZ):=λy=>W.adr.mem_iff
          have B3:∀y,y∈sh.frz↔y∈Ba++(tn::tr::Sh.frzs AZ):=λy=>W.frz.mem_iff
          have CW:∀y∈sh.adr,y≠xa:=λy hy z=>(X.ap xa BZ).1 (z▸hy)
          have BY:∀y∈sh.frz,y≠xa:=λy hy z=>(X.ap xa BZ).2 (z▸hy)
          have QW:NdT CT (upd H1 xa (.ins CT xd (nf xw.kind b xr (xw.enc.length:Int) xl))) (.node ta tl tn tr AZ) u BI:=W.ok.keep (λy hy o e=>kx y o (k1 _ _ e) (CW y ((Bq y).mpr (aq _ hy)))) (λy hy o e=>kx y o (k1 _ _ e) (BY y ((B3 y).mpr (aq _ hy))))
          have gx:g≠xa:=λz=>by rw[z,z1]at II;cases II
          refine .inr ⟨g,b,xa,xd,xn,xr,xl,ta,xw.kind,u.kind,(xw.enc.length:Int),hs,AZ.map Sh.a,(Pm.rowOf u).names,n,rfl,LM _ _ hb,k1 _ _ z1,kx _ _ LA gx,QW.holdAt TD,?_,?_,kx _ _ (LM _ _ hb) QQ,?_⟩
          .refine⟨by rw[au,Pm.names_len,B1],λi a' n2 ea en=>?_⟩
           cases QW with
           | mk _ _ _ _ h5 =>
            obtain⟨s',es,rfl⟩:=pO ea
            obtain⟨n3,w3,eg,U8⟩:=h5.get es
            rw[iZ,eg]at en;have en:some n3=some n2:=en
            injection en with en;subst en;cases U8 with
            | mk g1 g2 g3 g4 g5=>exact⟨CT,_,_,_,g1,TD.cT,TD.nNa,rfl,g2⟩
          .cases u with
           | rec_ m=>exact Pm.rec_rising DN
           | _=>simp[Sw.Value.kind]at c6
          .rw[<-M3];have EE:=X.nd
           unfold Sh.adr at EE;rw[bc]at EE;have Jx:∀y∈xl::Sh.adrs Bp,y≠xa:=λy hy z=>EE.1 (z▸hy)
           have Ha:∀y∈xr::Sh.frzs Bp,y≠xa:=λy hy z=>X.fz y (by unfold Sh.frz;exact aA _ hy) (z▸BZ)
           have Cd:NdT CT (upd H1 xa (.ins CT xd (nf xw.kind b xr (xw.enc.length:Int) xl))) (.node xa xl b xr Bp) xw n :=
            .mk aC (kx _ _ (LM _ _ hb) QQ) ⟨z3.1.imp id λy=>kx _ _ (k1 _ _ y) (Ha _ (by simp)),z3.2.elim λo y=>⟨o,kx _ _ (k1 _ _ y) (Ha _ (by simp))⟩⟩ (kx _ _ (k1 _ _ z4) (Jx _ (by simp))) (z5.keep (λy hy o e=>kx y o (k1 _ _ e) (Jx y (by simp[hy]))) λy hy o e=>kx y o (k1 _ _ e) (Ha y (by simp[hy])))
           have QT:∀y,B y=none->y≠b:=λy hy z=>by rw[z,hb]at hy;cases hy
           refine tq (CL:=CL) (l:=la++[.name n]) (d:=.put xw) (r1:=r1) (r2:=r2) (n:=n) (w:=xw) G W t1 t2 Bd (λy o e hy=>kx y o (k1 _ _ e) ?_) (kx _ _ LA gx) Rf Re Cd X.nd X.ap (λy hy=>?_) X.fb E9 er rfl DC FE EA (by lia) q
           .rcases hy with hy | hy
            .rcases aM.mp hy with hy | hy
             .exact CW y hy
             .exact BY y hy
            .intro z;rw[z,X.fb xa BZ]at hy;cases hy
           .unfold Sh.frz at hy;rcases aI.mp hy with rfl | hy
            .exact⟨λz=>QT _ (G.fb _ z) rfl,λz=>QT _ (X.fb _ z) rfl⟩
            .have hy:y∈(Sh.node xa xl xn xr Bp).frz:=by unfold Sh.frz;exact aA _ hy
             exact⟨X.xf y hy,X.fz y hy⟩
      .have cm:kS u.kind AZ.length ls=false:=by
        cases e:kS u.kind AZ.length ls with
        | true=>exact aW e cm
        | false=>rfl
       rw[cm];refine c9 ⟨_,rfl,rfl,?_⟩
       show gp E CL [.int (-4),.int ((((as.map V.ref).length:Nat):Int)-1)]
       rw[Bv];refine bad ?_
       rw[Pm.doneAt_snoc la v 0 u p ls _ t1 t2,Au xw B1.symm (λk hk=>Gb k (by rw[hk];simp)) t3 cm]
       rfl
theorem oj:∀{l:List Sw.Value}{r:List Sw.Step},l.mapM Pm.stepV=some r->r.length=l.length/\∀n,Sw.Step.name n∈r->∃t,Sw.Value.text t∈l/\n=Sw.utf8 t
 | [],r,h=>by
  have h:some []=some r:=h
  injection h with h;rw[<-h];exact⟨rfl,λn hn=>by cases hn⟩
 | x::l,r,h=>by
  rw[iI]at h;cases e1:Pm.stepV x with
  | none=>rw[e1]at h;cases h
  | some s =>
   rw[e1]at h;cases e2:l.mapM Pm.stepV with
   | none=>rw[e2]at h;cases h
   | some r' =>
    rw[e2]at h;have h:some (s::r')=some r:=h
    injection h with h;obtain⟨i1,i2⟩:=oj e2
    rw[<-h,ao,ao,i1];refine⟨rfl,λn hn=>?_⟩
    rcases aI.mp hn with hn | hn
    .rw[<-hn]at e1;cases x with
     | text t =>
      have e1:some (Sw.Step.name (Sw.utf8 t))=some (Sw.Step.name n):=e1
      injection e1 with e1;injection e1 with e1;exact⟨t,a7,e1.symm⟩
     | num z =>
      have e1:some (Sw.Step.index z)=some (Sw.Step.name n):=e1
      injection e1 with e1;cases e1
     | _=>cases e1
    .obtain⟨t,h1,h2⟩:=i2 n hn
     exact⟨t,aA _ h1,h2⟩
theorem nF:∀{m:Sw.Row}{x:Sw.Value},m.plain=true->x∈Pm.rowVals m->x.plain=true
 | .nil,x,_,h=>by cases h
 | .cons n v r,x,hp,h=>by
  have hp:(v.plain&&r.plain)=true:=hp
  rw[aE]at hp;rcases aI.mp h with rfl | h
  .exact hp.1
  .exact nF hp.2 h
theorem sV{u:Sw.Value}{l:List Sw.Step}(hp:u.plain=true)(h:Sw.pathOf u=some l):l.length<=u.enc.length/\∀n,Sw.Step.name n∈l->∃t,t.all Sw.isScalar=true/\n=Sw.utf8 t:=by
 have hk:u.kind=5:=by
  by_cases c:u.kind=5
  .exact c
  .rw[pL c]at h;cases h
 have h':=h
 rw[pM hk]at h;obtain⟨h1,h4⟩:=oj h
 have h2:=j6 (Pm.rowOf u)
 have h3:=Pm.cntV_le u
 rw[<-Pm.cnt_row]at h2;refine⟨by rw[h1,Pm.rowVals_len];exact cq (dR h2 h3),λn hn=>?_⟩
 obtain⟨t,t1,t2⟩:=h4 n hn
 refine⟨t,?_,t2⟩
 cases u with
 | list m =>
  have hp:(m.plain&&m.names.all λ(n:Sw.Bytes)=>n==[])=true:=hp
  rw[aE]at hp;exact nF hp.1 t1
 | _=>cases h'
structure yV(K:Fg_)(mg:Str->Option Value)(CS:Addr):Prop where
 cS:Cls K CS
 nA:dk K CS "action"
 nP:dk K CS "path"
 nT:dk K CS "part"
 mS:mg "Step" =some (.ref CS)
def sf(act:Nat)(d m:Addr):List (Str×V):=[("action",.int (act:Int)),("path",.ref d),("part",.ref m)]
def kq(act:Nat)(w:Sw.Value):Sw.Deed:=if act=2 then .take else if act=1 then .put w else .add w
def xu(CS:Addr):Sp:=λvs H Q ξ=>∃(z dx d m:Addr)(act:Nat),vs=[.ref z,.int (act:Int),.ref d,.ref m]/\H z=some (.ins CS dx [])/\∀H':Hp,H' z=some (.ins CS dx (sf act d m))->Kp H H' z->Q .non H'
def Aa(K:Fg_)(CP CT CS CL CV:Addr):Sp:=λvs H Q E=>∃(B:Hp)(sh:Sh)(v:Sw.Value)(a st d m dx:Addr)(bs:List UInt8)(ws:List V)(l:List Sw.Step)(act:Nat)(w:Sw.Value)(p np:Nat)(n:List UInt8),
 vs=[.ref sh.a,.ref a,.ref st]/\jd CT B H sh v/\SqL K B a (bs.map bv)/\bs.length<=65536/\B st=some (.ins CS dx (sf act d m))/\B d=some (.lst ws)/\dE B ws l/\l.length<=65536/\nq l/\Nd CP B bs m w p np n/\w.deep<=64/\Chg CT CL CV B v l (kq act w) Q E
theorem scS0:bq ["self","action","path","part"] ["self","action","path","part"] (aS Ap):=fs_
theorem ok_S0{f:Addr}{fd:FuncData}(F:Fun K "__init__" "Step.__init__" Ap f fd)(T:yV K mg CS):bQ P w K mg base CX0 1 f fd ["self","action","path","part"] (xu CS):=by
 refine F.ok scS0 (λvs H Q E h=>?_) (λAY A outer s H vs Q E hr h=>?_)
 .obtain⟨z,dx,d,m,act,rfl,_⟩:=h
  rfl
 .obtain⟨r,dx,d,m,act,rfl,hm,q⟩:=h
  refine⟨_,az (dv (pv 0) (pv 1) rfl) (az (dv (pv 0) (pv 2) rfl) (aJ (dv (pv 0) (pv 3) rfl))),?_⟩
  try dsimp only[cW];refine⟨_,rfl,_,rfl,r,CS,dx,[],rfl,hm,T.cS,T.nA,(by show 0<1000;decide),?_⟩
  refine⟨_,rfl,_,rfl,r,CS,dx,_,rfl,aC,T.cS,T.nP,(by show 1<1000;decide),?_⟩
  refine⟨_,rfl,_,rfl,r,CS,dx,_,rfl,aC,T.cS,T.nT,(by show 2<1000;decide),?_⟩
  exact q _ aC λb o e n=>by rw[aj n,aj n,aj n];exact e
theorem x_ok{B H H':Hp}{s x:Sh}{v xw:Sw.Value}(G:jd CT B H s v)(k:bY H H')(n5:NdT CT H' x xw [])(nd:x.adr.Nodup)(f5:∀y∈x.adr,H y=none)(z5:∀y∈x.frz,y∉x.adr)(b5:∀y∈x.frz,H y=none\/∃o,B y=some o)(hp:xw.plain=true)(hd:xw.deep<=64):jd CT B H' s v/\XOk CT B H' s x xw:=by
 refine⟨⟨G.sb.trans k,G.ok.same k,G.nd,G.fz,G.fb,G.pl,G.dp,G.ln⟩,⟨n5,nd,z5,λy hy=>G.sb.free (f5 y hy),λy hy=>⟨λz=>?_,λz=>?_⟩,λy hy z=>?_,hp,hd⟩⟩
 .obtain⟨o,e⟩:=G.ok.all y z
  rw[f5 y hy]at e;cases e
 .obtain⟨o,e⟩:=G.ok.allF y z
  rw[f5 y hy]at e;cases e
 .rcases b5 y hy with e | ⟨o,e⟩
  .obtain⟨o,e'⟩:=G.ok.all y z
   rw[e]at e'
   cases e'
  .rw[G.fb y z]at e;cases e
theorem scDS:bq ["top","row","step","x"] ["top","row","step"] (aS sDS):=fs_
theorem ok_DS{f HU Kn KD KU:Addr}{fd DI HP Cw HQ:FuncData}(F:Fun K "do_step" "do_step" sDS f fd)(TP:TxP K mg CP)(TS:yV K mg CS)(k1:GI mg "PUT" 1)(k2:GI mg "TAKE" 2)
  (GM:Co P w K mg base CX0 4 HU DI ["row","part"] (xE K CP CT) "make_tree")
  (GT:Co P w K mg base (CXF P w) 6 Kn HP ["top","steps"] (zD CT CL CV) "take_at")
  (GP:Co P w K mg base (CXF P w) 7 KD Cw ["top","steps","x","x_depth"] (zW CT CL CV) "put_at")
  (GA:Co P w K mg base (CXF P w) 6 KU HQ ["top","steps","x","x_depth"] (Ag CT CL CV) "add_at") :
  bQ P w K mg base (CXF P w) 8 f fd ["top","row","step"] (Aa K CP CT CS CL CV):=by
 refine okX F scDS (λvs H Q E h=>?_) (λAY A outer s H vs Q E hr h=>?_)
 .obtain⟨B,sh,v,a,st,d,m,dx,bs,ws,l,act,xw,p,np,n,rfl,_⟩:=h
  rfl
 .obtain⟨B,sh,v,a,st,d,m,dx,bs,ws,l,act,xw,p,np,n,rfl,G,hs,hz,A',hd,JF,hl,Gb,nd,DS,q⟩:=h
  have DP:cD 4 _:=hr.mono (by decide)
  have Lv:cD 6 _:=hr.mono (by decide)
  refine⟨_,az (cE (bC eN (a6 (pv 2) rfl) (pgi k2 rfl) (bX _)) (aJ (bK (cj GT Lv rfl dG (aa (pv 0) (aa (a6 (pv 2) rfl) aG))))) b7)
   (az (bE (i:=3) scDS.nd rfl (.inl rfl) (cj GM DP rfl cM (aa (pv 1) (aa (a6 (pv 2) rfl) aG))))
   (az (cE (bC eN (a6 (pv 2) rfl) (pgi k1 rfl) (bX _)) (aJ (bK (cj GP hr rfl dG (aa (pv 0) (aa (a6 (pv 2) rfl) (aa (pv 3) (aa (a6 (a6 (pv 2) rfl) rfl) aG))))))) b7)
   (aJ (bK (cj GA Lv rfl dG (aa (pv 0) (aa (a6 (pv 2) rfl) (aa (pv 3) (aa (a6 (a6 (pv 2) rfl) rfl) aG))))))))),?_⟩
  try dsimp only[cW];have Hk:=G.sb _ _ A'
  obtain⟨b,lm,as,dm,hb,h1,_⟩:=nd.pt
  refine⟨_,rfl,fd_ Hk TS.cS TS.nA rfl ⟨rfl,_,rfl,?_⟩⟩
  rw[iC];by_cases c2:act=2
  .rw[ah (show((act:Nat):Int)=2 by lia)]
   have e:kq act xw =.take:=ax c2
   rw[e]at q;exact c9 ⟨_,rfl,_,rfl,fd_ Hk TS.cS TS.nP rfl (ex6 B sh v d ws l ⟨rfl,G,hd,JF,hl,q⟩)⟩
  .rw[ai (show ¬((act:Nat):Int)=2 by lia)]
   refine cK ⟨_,rfl,_,rfl,fd_ Hk TS.cS TS.nT rfl (ex8 B a m bs xw p np n ⟨rfl,G.sb,hs,hz,nd,λx H1 g1 g2 g3 g4 g5 g6=>?_⟩)⟩
   obtain⟨G1,X⟩:=x_ok G g1 g2 g3 g4 g5 g6 nd.pl DS
   have Ex:=G1.sb _ _ A'
   have BD:=G1.sb _ _ h1
   have MK:=nd.at_.le
   refine⟨_,rfl,fd_ Ex TS.cS TS.nA rfl ⟨rfl,_,rfl,?_⟩⟩
   rw[iC];by_cases c1:act=1
   .rw[ah (show((act:Nat):Int)=1 by lia)]
    have e:kq act xw =.put xw:=(ay c2).trans (ax c1)
    rw[e]at q;exact c9 ⟨_,rfl,_,rfl,fd_ Ex TS.cS TS.nP rfl ⟨_,rfl,_,rfl,fd_ Ex TS.cS TS.nT rfl (fd_ BD TP.cP TP.nDe rfl (ex8 B sh v d ws l x xw ⟨rfl,G1,hd,JF,hl,Gb,X,by lia,q⟩))⟩⟩
   .rw[ai (show ¬((act:Nat):Int)=1 by lia)]
    have e:kq act xw =.add xw:=(ay c2).trans (ay c1)
    rw[e]at q;exact cK ⟨_,rfl,_,rfl,fd_ Ex TS.cS TS.nP rfl ⟨_,rfl,_,rfl,fd_ Ex TS.cS TS.nT rfl (fd_ BD TP.cP TP.nDe rfl (ex8 B sh v d ws l x xw ⟨rfl,G1,hd,JF,hl,X,q⟩))⟩⟩
theorem p5{σ:St}{H:Hp}{A B:Hp->Prop}(h:A H):zr σ H (λb H3=>if b=true then A H3 else B H3):=by
 show(if true=true then A H else B H)
 rw[ax rfl];exact h
theorem rL:∀n:List (List UInt8),PyData.canLayAll0 (n.map bD)=true
 | []=>rfl
 | c::n=>by
  show(PyData.canLayAll0 (c.map λc=>.int (c.toNat:Int))&&PyData.canLayAll0 (n.map bD))=true
  rw[rL n,qv c];rfl
theorem rV:∀n:List (List UInt8),PyData.depthAll (n.map bD)<=1
 | []=>by show 0<=1;decide
 | c::n=>by
  show max (PyData.depthAll (c.map λc=>.int (c.toNat:Int))+1) (PyData.depthAll (n.map bD))<=1
  have:=rV n
  rw[qD c];lia
theorem oQ(n:List (List UInt8)):SeqAt.shaped (.list (n.map bD))=true:=by
 unfold SeqAt.shaped;rw[aE,bw];refine⟨rL n,?_⟩
 show PyData.depthAll (n.map bD)+1<=64
 have:=rV n
 exact dR this (a8 _ _)
theorem wX:∀n k:List (List UInt8),PyData.eqvAll (n.map bD) (k.map bD)=(n==k)
 | [],[]=>rfl
 | [],_::_=>rfl
 | _::_,[]=>rfl
 | c::n,d::k=>by
  show(PyData.eqvAll (c.map λc=>.int (c.toNat:Int)) (d.map λc=>.int (c.toNat:Int))&&PyData.eqvAll (n.map bD) (k.map bD))=(c==d&&n==k)
  rw[wX n k,wY]
theorem qH{K:Fg_}{H:Hp}:∀(as:List Addr)(n:List (List UInt8)),as.length=n.length->(∀(i:Nat)(a:Addr)(x:List UInt8),as[i]? =some a->n[i]? =some x->SqL K H a (x.map bv))->DpAll K H (as.map V.ref) (n.map bD)
 | [],[],_,_=>.nil
 | a::as,x::n,h,f=>.cons (wZ (f 0 a x rfl rfl)) (qH as n (by simpa using h) λi a x e1 e2=>f (i+1) a x (by simpa using e1) (by simpa using e2))
 | [],_::_,h,_=>by cases h
 | _::_,[],h,_=>by cases h
theorem yj{X:Cx}{K:Fg_}{e:Expr}{te:TE}{f:Str}{pos:Pos}(hK:X.K=K)(he:PE X e te)(hb:attributeBase e f X.env (eval e X.env)=eval e X.env):PE X (.Attribute e f pos) (tFld K te f):=by
 subst hK;exact a6 he hb
def Nw(H:Hp)(Q:VK)(r:List UInt8):Prop:=∀(x:Addr)(H':Hp),H x=none->H' x=some (.lst (r.map bv))->bY H H'->Q (.ref x) H'
def sB(r:List UInt8):Str:=sOf (r.map (·.toNat))
def zE:Sp:=λvs H Q ξ=>∃r:List UInt8,vs=[.str (sB r)]/\r.length<16000000/\Nw H Q r
def xG(K:Fg_)(CP:Addr):Sp:=λvs H Q ξ=>∃(m t:Addr)(bs:List UInt8)(v:Sw.Value)(p np:Nat)(n:List UInt8)(ws:List (List UInt8)),vs=[.ref m,.ref t]/\Nd CP H bs m v p np n/\(Pm.rowOf v).length<=65536/\H t=some (.tup (ws.map λx=>.str (sB x)))/\(∀x∈ws,x.length<1000)/\ws.length<1000 /\
 ∀H':Hp,bY H H'->Q (.bl (Fo.hasN v ws)) H'
theorem names_len:∀(m:Sw.Row),m.names.length=m.length
 | .nil=>rfl
 | .cons n v r=>congrArg (· + 1) (names_len r)
theorem Ai:bq ["words","sign"] ["words"] (aS sSO):=fs_
theorem ok_SO{f:Addr}{fd:FuncData}(F:Fun K "signs_of" "signs_of" sSO f fd)(ord:mg "ord" = none):bQ P w K mg base CX0 1 f fd ["words"] zE:=by
 refine F.ok Ai (λvs H Q E h=>?_) (λAY A outer s H vs Q E hr h=>?_)
 .obtain ⟨r,rfl,_⟩:=h
  rfl
 .obtain ⟨r,rfl,hz,q⟩:=h
  refine ⟨_,aJ (bK (lX rfl Ai.nd (Ay (pv 0)) (jb (own:=[("sign",1)]) (by kernel_rfl))
   (λs H C cl fp=>fv (i:=1) Ai.nd rfl (.inl rfl)) (λs H C cl fp=>jR) (λs H C cl fp pn xe fl hp=>ck wR (by rfl) ord PyProof.Rows.boot_ord (aa (pv 1) aG)) ft0 rfl ⟨outer,rfl⟩ rfl)),?_⟩
  try dsimp only [cW]
  refine ⟨_,rfl,_,rfl,λD hD=>?_⟩
  refine AH (x:=sB r) (λi G=>bY H G/\G D=some (.lst ((r.take i).map bv))) ?_ ?_ ?_
  .exact ⟨λc o e=>(aj (ag e hD)).trans e,aC⟩
  .rintro i c G hc ⟨kG,EW⟩
   have hc:(r.map (·.toNat))[i]? = some c:=by
    have hc:((r.map (·.toNat)).toArray)[i]? = some c:=hc
    simpa using hc
   rw [bt] at hc
   cases er:r[i]? with
   | none=>rw [er] at hc;cases hc
   | some b =>
    rw [er] at hc
    have hc:b.toNat=c:=aV hc
    subst hc
    have hi:i<r.length:=(aK.mp er).1
    refine ⟨rfl,p5 ?_⟩
    refine ⟨_,rfl,_,rfl,rfl,_,EW,?_,?_⟩
    .rw [au,aP,sizeLine_eq]
     lia
    .refine ⟨λc o e=>(aj (ag e hD)).trans (kG c o e),?_⟩
     rw [aC,eQ,er,aQ]
     rfl
  .rintro G ⟨kG,EW⟩
   refine q D G hD ?_ kG
   have e:(sB r).cps.size=r.length:=by
    show ((r.map (·.toNat)).toArray).size=_
    simp
   rw [e,fN] at EW
   exact EW
theorem vT:bq ["part","names","member","name"] ["part","names"] (aS sHN):=fs_
theorem ok_HN{f Ko:Addr}{fd CM:FuncData}(F:Fun K "has_names" "has_names" sHN f fd)(TP:TxP K mg CP)(len:mg "len" =none)(k6:GI mg "RECORD" 6)
  (GS:Co P w K mg base CX0 1 Ko CM ["words"] zE "signs_of") :
  bQ P w K mg base CX0 2 f fd ["part","names"] (xG K CP):=by
 refine F.ok vT (λvs H Q E h=>?_) (λAY A outer s H vs Q E hr h=>?_)
 .obtain⟨m,t,bs,v,p,np,n,ws,rfl,_⟩:=h
  rfl
 .obtain⟨m,t,bs,v,p,np,n,ws,rfl,nd,Y',ht,BS,Y9,q⟩:=h
  refine⟨_,az (cE (PW.pt (kJ (bC uf (a6 (pv 0) rfl) (pgi k6 rfl) (bX _)) (jB (bC uf (ck cB (by rfl) len bo (aa (a6 (pv 0) rfl) aG)) (ck cB (by rfl) len bo (aa (pv 1) aG)) (bX _)))))
    (aJ (bK pe_bl)) b7)
   (aJ (bK (iK (wj hr.units) (lX rfl vT.nd (kM (a6 (pv 0) rfl)) (jb (own:=[("member",2)]) (by kernel_rfl))
     (λs H C cl fp=>fv (i:=2) vT.nd rfl (.inl rfl)) (λs H C cl fp=>jR) (λs H C cl fp pn xe fl hp=>yj (K:=K) rfl (pv 2) rfl) ft0 rfl ⟨outer,rfl⟩ rfl)
    (lX rfl vT.nd (Ax (pv 1)) (jb (own:=[("name",3)]) (by kernel_rfl))
     (λs H C cl fp=>fv (i:=3) vT.nd rfl (.inl rfl)) (λs H C cl fp=>jR) (λs H C cl fp pn xe fl hp=>cj GS hr rfl cM (aa (pv 3) aG)) ft0 rfl ⟨outer,rfl⟩ rfl) (bX _)))),?_⟩
  try dsimp only[cW];obtain⟨nl,l,as,dx,E9,hm,hl,BU,Bz⟩:=nd.pt
  refine⟨_,rfl,fd_ hm TP.cP TP.nKi rfl ⟨rfl,_,rfl,?_⟩⟩
  have QG:(Pm.pdOf v p np n.length).kind=v.kind:=by cases v<;>rfl
  by_cases hk:v.kind=6
  .rw[show decide (V.int ((Pm.pdOf v p np n.length).kind:Int)=V.int 6)=true by rw[QG,hk];exact ah rfl]
   refine cK ?_
   refine⟨_,rfl,fd_ hm TP.cP TP.nMe rfl (ex2 l _ ⟨rfl,.inl (SqL.of hl),_,rfl,ex2 t _ ⟨rfl,.inr (SqT.of ht),rfl,_,rfl,?_⟩⟩)⟩
   rw[au,au,BU];by_cases hlen:(Pm.rowOf v).length=ws.length
   .rw[hlen];rw[show(!decide (V.int ((ws.length:Nat):Int)=V.int ((ws.length:Nat):Int)))=false by rw[ah rfl];rfl]
    refine cK ?_
    refine⟨_,rfl,fd_ hm TP.cP TP.nMe rfl ⟨l,rfl,⟨_,SqL.of hl⟩,λD hD=>?_⟩⟩
    have Gb:∀(i:Nat)(a:Addr),as[i]? =some a->∃(E5:Addr)(l' Cc:Addr)(d':PD)(x:List UInt8),(Pm.rowOf v).names[i]? =some x/\H E5=some (.lst (x.map bv))/\H a=some (.ins CP Cc (pf d' E5 l')):=λi a e=>by
     obtain⟨n',w',D0,em,Jt⟩:=Bz i a e
     obtain⟨E5,l',Gu,Cc,Hw,Nc,_⟩:=Jt.pt
     refine⟨E5,l',Cc,_,n',?_,Hw,Nc⟩
     have em:(Pm.rowOf v).get? i=some (n',w'):=by
      cases v<;>first | exact em | cases hk
     rw[iZ,em];rfl
    refine qu (xs:=as.map V.ref) (λi G=>bY H G/\∃cs:List Addr,G D=some (.lst (cs.map V.ref))/\cs.length=i/\∀(j:Nat)(c:Addr)(x:List UInt8),cs[j]? =some c->(Pm.rowOf v).names[j]? =some x->H c=some (.lst (x.map bv))) ?_ ?_ ?_ ?_
    .exact⟨λc o e=>(aj (ag e hD)).trans e,[],aC,rfl,λj c x e=>by cases e⟩
    .rintro i G _ ⟨kG,_⟩
     exact SqL.of (kG _ _ hl)
    .rintro i x G hx ⟨kG,cs,NB,CI,BQ⟩
     rw[bt]at hx;cases ea:as[i]? with
     | none=>rw[ea]at hx;cases hx
     | some a =>
      rw[ea]at hx;have hx:V.ref a=x:=aV hx
      subst hx;obtain⟨E5,l',Cc,d',x,ex,Hw,Nc⟩:=Gb i a ea
      have hi:i<as.length:=(aK.mp ea).1
      refine⟨rfl,p5 ?_⟩
      refine⟨_,rfl,fd_ (kG _ _ Nc) TP.cP TP.nNl rfl ⟨_,NB,?_,λc o e=>(aj (ag e hD)).trans (kG c o e),cs++[E5],?_,by rw[ae,CI];rfl,?_⟩⟩
      .rw[au,CI,sizeLine_eq];lia
      .rw[aC,aQ];rfl
      .intro j c y ec ey;rw[fH]at ec;split at ec
       .exact BQ j c y ec ey
       .rename_i hj
        have Fc:j-cs.length<1:=(aK.mp ec).1
        have ej:j=i:=by lia
        subst ej;rw[CI,ip]at ec;have ec:E5=c:=aV ec
        subst ec;rw[ex]at ey;injection ey with ey;subst ey;exact Hw
    rintro G ⟨kG,cs,NB,CI,BQ⟩
    rw[au]at CI;refine⟨_,rfl,t,rfl,⟨_,SqT.of (kG _ _ ht)⟩,λD2 Ra=>?_⟩
    refine AG (xs:=ws.map λx=>.str (sB x)) (λi G'=>bY G G'/\∃cs:List Addr,G' D2=some (.lst (cs.map V.ref))/\cs.length=i/\∀(j:Nat)(c:Addr)(x:List UInt8),cs[j]? =some c->ws[j]? =some x->G' c=some (.lst (x.map bv))/\c≠D2) ?_ ?_ ?_ ?_
    .exact⟨λc o e=>(aj (ag e Ra)).trans e,[],aC,rfl,λj c x e=>by cases e⟩
    .rintro i G' _ ⟨Iw,_⟩
     exact SqT.of (Iw _ _ (kG _ _ ht))
    .rintro i x G' hx ⟨Iw,LV,FF,D9,HI⟩
     rw[bt]at hx;cases ea:ws[i]? with
     | none=>rw[ea]at hx;cases hx
     | some r =>
      rw[ea]at hx;have hx:V.str (sB r)=x:=aV hx
      subst hx;have hi:i<ws.length:=(aK.mp ea).1
      refine⟨rfl,p5 ?_⟩
      refine⟨_,rfl,r,rfl,by have:=BS r (di ea);lia,λx Zu Cd NM Hb=>?_⟩
      have PF:x≠D2:=λz=>by rw[z,FF]at Cd;cases Cd
      refine⟨_,Hb _ _ FF,?_,λc o e=>(aj (ag e Ra)).trans (Hb _ _ (Iw c o e)),LV++[x],?_,by rw[ae,D9];rfl,?_⟩
      .rw[au,D9,sizeLine_eq];lia
      .rw[aC,aQ];rfl
      .intro j c y ec ey;rw[fH]at ec;split at ec
       .obtain⟨h1,h2⟩:=HI j c y ec ey
        exact⟨(aj h2).trans (Hb _ _ h1),h2⟩
       .rename_i hj
        have Fc:j-LV.length<1:=(aK.mp ec).1
        have ej:j=i:=by lia
        subst ej;rw[D9,ip]at ec;have ec:x=c:=aV ec
        subst ec;rw[ea]at ey;injection ey with ey;subst ey;exact⟨(aj PF).trans NM,PF⟩
    rintro G' ⟨Iw,LV,FF,D9,HI⟩
    rw[au]at D9
    have kk:=kG.trans Iw
    refine⟨_,_,.lst (SqL.of (Iw _ _ NB)) (qH cs (Pm.rowOf v).names (by rw[names_len,CI,BU]) λi a x e1 e2=>SqL.of (kk _ _ (BQ i a x e1 e2))),
     .lst (SqL.of FF) (qH LV ws D9 λi a x e1 e2=>SqL.of (HI i a x e1 e2).1),oQ _,oQ _,?_⟩
    have:=q G' kk
    unfold Fo.hasN at this;rw[ah hk,gX]at this;show Q (.bl (PyData.eqvAll ((Pm.rowOf v).names.map bD) (ws.map bD))) G'
    rw[wX];exact this
   .rw[show(!decide (V.int (((Pm.rowOf v).length:Nat):Int)=V.int ((ws.length:Nat):Int)))=true by rw[iC,ai (by lia)];rfl]
    have hf:Fo.hasN v ws=false:=by
     unfold Fo.hasN;rw[bu.mpr (λz=>hlen (by rw[<-names_len,z])),gC]
    rw[hf]at q;exact c9 (q H λξ ξ e=>e)
  .rw[show decide (V.int ((Pm.pdOf v p np n.length).kind:Int)=V.int 6)=false by rw[QG,iC,ai (by lia)]]
   have hf:Fo.hasN v ws=false:=by
    unfold Fo.hasN;rw[ai hk,fJ]
   rw[hf]at q;exact c9 (c9 (q H λξ ξ e=>e))
def aUS:List V->List V:=λvs=>.int (-5)::vs
def aUT:List V->List V:=λvs=>.int (-4)::vs
def aUW:List V->List V:=λvs=>.int (-9)::vs
section
variable {P:Program}{w:World}{K:Fg_}{mg:Str->Option Value}{base:Heap}{U:Addr}
theorem AN{k:Nat}{f C:Addr}{fd:FuncData}{ps:List Str}{n:Nat}{ans:List V->List V}(F:FnN P w K mg base k f fd ps (fK C n ans))(DA:ps.length=n+1):bQ P w K mg base CX0 k f fd ps (fK C n ans) :=
 ⟨λvs H Q E ⟨e,rest,h1,h2,_⟩=>by rw[h1,ao,h2,DA],λA outer s H args us vs Q E hr e0 hb r h=>codeAny_mono (F.run A outer s H args us vs Q ⟨hr.dp,hr.un⟩ e0 hb r (by obtain⟨e,rest,h1,h2,_⟩:=h;rw[h1,ao,h2,DA]) h) λr s' hq=>by
  cases r with
  | error e=>exact hq
  | ok fl=>cases fl<;>exact hq⟩
theorem AD{f:Addr}{fd:FuncData}(F:Fun K "__init__" "Refusal.__init__" sUI f fd):FnN P w K mg base 1 f fd ["self","answer"] (pb K U):=by
 refine yM F scUI (λAY A outer s H vs Q hr hl h=>?_)
 obtain⟨e,C,fI,v,rfl,c,he,q⟩:=h
 exact⟨_,aJ (zd (U:=U) (pv 0) (pv 1) rfl),⟨_,rfl,_,rfl,e,C,fI,rfl,c,he,λdx h1 h2=>q dx h1 h2⟩⟩
theorem scUS:bq ["self","number"] ["self","number"] (aS sUS):=fs_
theorem scUT:bq ["self","number"] ["self","number"] (aS sUT):=fs_
theorem scUW:bq ["self","number"] ["self","number"] (aS sUW):=fs_
theorem ok_US{f Cb C fI:Addr}{fd Ci:FuncData}(F:Fun K "__init__" "NoStep.__init__" sUS f fd)(uc:fm K U C fI)(cU:lD K U "__init__" Cb)(mU:mg "Refusal" = some (.ref U))(GU:FnN P w K mg base 1 Cb Ci ["self","answer"] (pb K U))(bU:bZ K Ci ["self","answer"] []) :
  FnN P w K mg base 2 f fd ["self","number"] (fK C 1 aUS):=by
 refine yM F scUS (λAY A outer s H vs Q hr hl h=>?_)
 obtain ⟨e,rest,rfl,hn,he,q⟩:=h
 obtain ⟨v,rfl⟩:=ln1 hn
 refine ⟨_,aJ (cY (nZ rfl mU cU GU hr bU (aa (pv 0) (aa (ee (aa (eK dF bb) (aa (pv 1) aG))) aG)) rfl)),?_⟩
 try dsimp only [cW]
 refine ⟨_,rfl,_,rfl,_,rfl,(by show 2<=sizeLine;decide),λa ha=>⟨rfl,e,C,fI,.ref a,rfl,uc,?_,λdx hd ne=>?_⟩⟩
 .rw [aj (λz=>by rw [<-z,he] at ha;cases ha)]
  exact he
 .obtain ⟨e1,e2,e3⟩:=lL he ha hd ne
  exact q dx a _ ne e1 e2 e3
theorem ok_UT{f Cb C fI:Addr}{fd Ci:FuncData}(F:Fun K "__init__" "StepLeadsNowhere.__init__" sUT f fd)(uc:fm K U C fI)(cU:lD K U "__init__" Cb)(mU:mg "Refusal" = some (.ref U))(GU:FnN P w K mg base 1 Cb Ci ["self","answer"] (pb K U))(bU:bZ K Ci ["self","answer"] []) :
  FnN P w K mg base 2 f fd ["self","number"] (fK C 1 aUT):=by
 refine yM F scUT (λAY A outer s H vs Q hr hl h=>?_)
 obtain ⟨e,rest,rfl,hn,he,q⟩:=h
 obtain ⟨v,rfl⟩:=ln1 hn
 refine ⟨_,aJ (cY (nZ rfl mU cU GU hr bU (aa (pv 0) (aa (ee (aa (eK dF bb) (aa (pv 1) aG))) aG)) rfl)),?_⟩
 try dsimp only [cW]
 refine ⟨_,rfl,_,rfl,_,rfl,(by show 2<=sizeLine;decide),λa ha=>⟨rfl,e,C,fI,.ref a,rfl,uc,?_,λdx hd ne=>?_⟩⟩
 .rw [aj (λz=>by rw [<-z,he] at ha;cases ha)]
  exact he
 .obtain ⟨e1,e2,e3⟩:=lL he ha hd ne
  exact q dx a _ ne e1 e2 e3
theorem ok_UW{f Cb C fI:Addr}{fd Ci:FuncData}(F:Fun K "__init__" "StepMakesNoValue.__init__" sUW f fd)(uc:fm K U C fI)(cU:lD K U "__init__" Cb)(mU:mg "Refusal" = some (.ref U))(GU:FnN P w K mg base 1 Cb Ci ["self","answer"] (pb K U))(bU:bZ K Ci ["self","answer"] []) :
  FnN P w K mg base 2 f fd ["self","number"] (fK C 1 aUW):=by
 refine yM F scUW (λAY A outer s H vs Q hr hl h=>?_)
 obtain ⟨e,rest,rfl,hn,he,q⟩:=h
 obtain ⟨v,rfl⟩:=ln1 hn
 refine ⟨_,aJ (cY (nZ rfl mU cU GU hr bU (aa (pv 0) (aa (ee (aa (eK dF bb) (aa (pv 1) aG))) aG)) rfl)),?_⟩
 try dsimp only [cW]
 refine ⟨_,rfl,_,rfl,_,rfl,(by show 2<=sizeLine;decide),λa ha=>⟨rfl,e,C,fI,.ref a,rfl,uc,?_,λdx hd ne=>?_⟩⟩
 .rw [aj (λz=>by rw [<-z,he] at ha;cases ha)]
  exact he
 .obtain ⟨e1,e2,e3⟩:=lL he ha hd ne
  exact q dx a _ ne e1 e2 e3
end
def r8(CP CS:Addr)(B:Hp)(cs:List UInt8)(st:Addr)(x:List Sw.Step×Sw.Deed):Prop:=∃(dx d m:Addr)(act:Nat)(ws:List V)(u:Sw.Value)(p np:Nat)(n:List UInt8),B st=some (.ins CS dx (sf act d m))/\B d=some (.lst ws)/\dE B ws x.1/\x.1.length<=65536/\nq x.1/\Nd CP B cs m u p np n/\u.deep<=64/\kq act u=x.2
theorem r8.same{CP CS:Addr}{B B':Hp}{cs:List UInt8}{st:Addr}{x:List Sw.Step×Sw.Deed}(h:r8 CP CS B cs st x)(k:bY B B'):r8 CP CS B' cs st x:=by
 obtain⟨dx,d,m,act,ws,u,p,np,n,h1,h2,h3,h4,h5,h6,h7,h8⟩:=h
 exact⟨dx,d,m,act,ws,u,p,np,n,k _ _ h1,k _ _ h2,h3.same k,h4,h5,h6.same k,h7,h8⟩
def mQ(CP CS:Addr)(B0 G:Hp)(D:Addr)(cs:List UInt8)(st:Addr)(x:List Sw.Step×Sw.Deed):Prop:=∃(dx d m:Addr)(act:Nat)(ws:List V)(u:Sw.Value)(p np:Nat)(n:List UInt8),G st=some (.ins CS dx (sf act d m))/\G d=some (.lst ws)/\dE G ws x.1/\x.1.length<=65536/\nq x.1/\Nd CP B0 cs m u p np n/\u.deep<=64/\kq act u=x.2/\d≠D/\∀v∈ws,v≠.ref D
theorem mQ.ok{CP CS:Addr}{B0 G:Hp}{D:Addr}{cs:List UInt8}{st:Addr}{x:List Sw.Step×Sw.Deed}(h:mQ CP CS B0 G D cs st x)(k:bY B0 G):r8 CP CS G cs st x:=by
 obtain⟨dx,d,m,act,ws,u,p,np,n,h1,h2,h3,h4,h5,h6,h7,h8,_⟩:=h
 exact⟨dx,d,m,act,ws,u,p,np,n,h1,h2,h3,h4,h5,h6.same k,h7,h8⟩
theorem mQ.same{CP CS:Addr}{B0 G G':Hp}{D:Addr}{cs:List UInt8}{st:Addr}{x:List Sw.Step×Sw.Deed}(h:mQ CP CS B0 G D cs st x)(k:bY G G'):mQ CP CS B0 G' D cs st x:=by
 obtain⟨dx,d,m,act,ws,u,p,np,n,h1,h2,h3,h4⟩:=h
 exact⟨dx,d,m,act,ws,u,p,np,n,k _ _ h1,k _ _ h2,h3.same k,h4⟩
theorem mQ.up{CP CS:Addr}{B0 G:Hp}{D:Addr}{cs:List UInt8}{st:Addr}{x:List Sw.Step×Sw.Deed}{ys zs:List V}(h:mQ CP CS B0 G D cs st x)(hD:G D=some (.lst ys)):mQ CP CS B0 (upd G D (.lst zs)) D cs st x:=by
 obtain⟨dx,d,m,act,ws,u,p,np,n,h1,h2,h3,h4,h5,h6,h7,h8,h9,LN⟩:=h
 exact⟨dx,d,m,act,ws,u,p,np,n,(aj (λz=>by rw[z,hD]at h1;cases h1)).trans h1,(aj h9).trans h2,h3.up LN,h4,h5,h6,h7,h8,h9,LN⟩
def zP(K:Fg_)(CP CU:Addr):Sp:=λvs H Q E=>∃(a m:Addr)(bs:List UInt8)(u:Sw.Value)(p np i:Nat)(n:List UInt8),vs=[.ref a,.ref m,.int (i:Int)]/\SqL K H a (bs.map bv)/\bs.length<=65536/\Nd CP H bs m u p np n /\
 (match Sw.pathOf u with
  | some l=>∀(D:Addr)(ws:List V)(H':Hp),bY H H'->H D=none->H' D=some (.lst ws)->dE H' ws l->(∀b,V.ref b∈ws->H b=none)->Q (.ref D) H'
  | none=>gp E CU [.int (-5),.int (i:Int)])
section
variable {P:Program}{w:World}{K:Fg_}{mg:Str->Option Value}{base:Heap}{CP U CN CU Ds:Addr}{CM:FuncData}
theorem scRA:bq ["row","part","i"] ["row","part","i"] (aS sRA):=fs_
theorem ok_RA{f Ku:Addr}{fd Cw:FuncData}(F:Fun K "read_at" "read_at" sRA f fd)(Oe:PySem.W.exmOne K (.ref CN) (.ref CN)=some true)(mN:mg "NoPath" = some (.ref CN))(uc:fm K U CU Ds)(mS:mg "NoStep" = some (.ref CU))(GS:FnN P w K mg base 2 Ds CM ["self","number"] (fK CU 1 aUS))(bS:bZ K CM ["self","number"] [])
  (GP:Co P w K mg base (CXF P w) 5 Ku Cw ["row","whole"] (zL K CP CN) "read_path") :
  bQ P w K mg base (CXG False P w) 6 f fd ["row","part","i"] (zP K CP CU):=by
 refine okX F scRA (λvs H Q E h=>?_) (λAY A outer s H vs Q E hr h=>?_)
 .obtain ⟨a,m,bs,u,p,np,i,n,rfl,_⟩:=h
  rfl
 .obtain ⟨a,m,bs,u,p,np,i,n,rfl,hs,hz,nd,q⟩:=h
  have Bs:cD 3 _:=hr.mono (by decide)
  refine ⟨_,aJ (wb (E:=E) (C0:=CN) (T:=CN) (C:=CU) (n:=1) (ans:=aUS) ⟨Oe,rfl,mN,by decide,⟨U,Ds,CM,2,["self","number"],uc,GS,bS,rfl,Bs⟩,rfl,mS,λv=>aa (pv 2) aG,by decide,by decide,rfl,rfl⟩ rfl cN (λhd=>PassesOwnAt.leaving) rfl ⟨outer,rfl⟩
   (λpn xe E' fl=>aJ (bK (rE GP.g hr rfl GP.m GP.k GP.b fl rfl (aa (pv 0) (aa (pv 1) aG)))))),?_⟩
  try dsimp only [cW]
  refine ⟨_,rfl,_,rfl,ex7 a m bs u p np n ⟨rfl,hs,hz,nd,?_⟩⟩
  cases e:Sw.pathOf u with
  | none =>
   rw [e] at q
   intro H' dx an Bx EU
   exact ⟨rfl,_,rfl,rfl,q⟩
  | some l =>
   rw [e] at q
   exact q
end
theorem jS{v:Sw.Value}{a b:List UInt8}(h:Fo.hasN v [a,b]=true):∃x y,v =.rec_ (.cons a x (.cons b y .nil)):=by
 unfold Fo.hasN at h;rw[aE,bw]at h;obtain⟨h1,h2⟩:=h
 have h2:=eq_of_beq h2
 match v,h1,h2 with
 | .rec_ .nil,_,h2=>cases h2
 | .rec_ (.cons n x .nil),_,h2=>cases h2
 | .rec_ (.cons n x (.cons m y .nil)),_,h2 =>
  have h2:[n,m]=[a,b]:=h2
  injection h2 with e1 e2;injection e2 with e2 _;subst e1 e2;exact⟨x,y,rfl⟩
 | .rec_ (.cons n x (.cons m y (.cons k z r))),_,h2 =>
  have h2:n::m::k::r.names=[a,b]:=h2
  injection h2 with _ e2;injection e2 with _ e2;cases e2
theorem yI{a b c d:List UInt8}{x y:Sw.Value}(h:¬(a=c/\b=d)):Fo.hasN (.rec_ (.cons a x (.cons b y .nil))) [c,d]=false:=by
 rw[Fo.has_rec];show([a,b]==[c,d])=false
 rw[bu];intro z;injection z with e1 e2;injection e2 with e2 _;exact h ⟨e1,e2⟩
def v9:List (List UInt8):=[Fo.W "at",Fo.W "put"]
def pD:List (List UInt8):=[Fo.W "at",Fo.W "take"]
def tK:List (List UInt8):=[Fo.W "add",Fo.W "at"]
theorem qa(a b:Sw.Bytes)(x y:Sw.Value):Sw.stepOf (.rec_ (.cons a x (.cons b y .nil)))=if a=Fo.W "at"/\b=Fo.W "put" then(Sw.pathOf x).map λ(l:List Sw.Step)=>(l,.put y)
  else if a=Fo.W "at"/\b=Fo.W "take" then(if y.kind=1 then(Sw.pathOf x).map λ(l:List Sw.Step)=>(l,.take)else none)
  else if a=Fo.W "add"/\b=Fo.W "at" then(Sw.pathOf y).map λ(l:List Sw.Step)=>(l,.add x)else none:=by
 cases y<;>rfl
theorem vK{v:Sw.Value}(h:Fo.hasN v v9=true):Sw.stepOf v=(Sw.pathOf (Fo.mem v 0)).map λ(l:List Sw.Step)=>(l,.put (Fo.mem v 1)):=by
 obtain⟨x,y,rfl⟩:=jS h
 rw[qa,ax ⟨rfl,rfl⟩];rfl
theorem tZ{v:Sw.Value}(h:Fo.hasN v pD=true):Sw.stepOf v=if(Fo.mem v 1).kind=1 then(Sw.pathOf (Fo.mem v 0)).map λ(l:List Sw.Step)=>(l,.take)else none:=by
 obtain⟨x,y,rfl⟩:=jS h
 rw[qa,ay (by rintro⟨_,z⟩;exact aW z (by decide)),ax ⟨rfl,rfl⟩]
 rfl
theorem vL{v:Sw.Value}(h:Fo.hasN v tK=true):Sw.stepOf v=(Sw.pathOf (Fo.mem v 1)).map λ(l:List Sw.Step)=>(l,.add (Fo.mem v 0)):=by
 obtain⟨x,y,rfl⟩:=jS h
 rw[qa,ay (by rintro⟨z,_⟩;exact aW z (by decide)),ay (by rintro⟨z,_⟩;exact aW z (by decide)),ax ⟨rfl,rfl⟩]
 rfl
theorem t7{v:Sw.Value}(h1:Fo.hasN v v9=false)(h2:Fo.hasN v pD=false)(h3:Fo.hasN v tK=false):Sw.stepOf v=none:=by
 match v,h1,h2,h3 with
 | .rec_ (.cons a x (.cons b y .nil)),h1,h2,h3 =>
  have no:∀{c d:List UInt8},Fo.hasN (.rec_ (.cons a x (.cons b y .nil))) [c,d]=false->¬(a=c/\b=d):=λ{c d} h ⟨e1,e2⟩=>by
   rw[Fo.has_rec,e1,e2]at h;have:([c,d]==[c,d])=true:=beq_self_eq_true _
   exact Bool.noConfusion (h.symm.trans this)
  rw[qa,ay (no h1),ay (no h2),ay (no h3)]
 | .rec_ .nil,_,_,_=>rfl
 | .rec_ (.cons a x .nil),_,_,_=>rfl
 | .rec_ (.cons a x (.cons b y (.cons c z r))),_,_,_=>rfl
 | .no,_,_,_=>rfl
 | .yes,_,_,_=>rfl
 | .num _,_,_,_=>rfl
 | .bytes _,_,_,_=>rfl
 | .text _,_,_,_=>rfl
 | .list _,_,_,_=>rfl
 | .moment _,_,_,_=>rfl
 | .id _,_,_,_=>rfl
theorem take_add{v:Sw.Value}(h:Fo.hasN v pD=true):Fo.hasN v tK=false:=by
 obtain⟨x,y,rfl⟩:=jS h
 exact yI (by rintro⟨z,_⟩;exact aW z (by decide))
theorem kR{v:Sw.Value}{i:Nat}{n:Sw.Bytes}{u:Sw.Value}(h:v.member i=some (n,u)):u.deep<=v.deep:=by
 rw[Pm.member_eq]at h;have:=Pm.get_deep _ _ h
 cases v with
 | list m=>rw[Pm.list_deep];exact fA this
 | rec_ m=>rw[Pm.rec_deep];exact fA this
 | _=>cases h
theorem yc:V.str "at" =V.str (sB (Fo.W "at")):=congrArg V.str (by rw[fh];rfl)
theorem q_put:V.str "put" =V.str (sB (Fo.W "put")):=congrArg V.str (by rw[fh];rfl)
theorem As:V.str "take" =V.str (sB (Fo.W "take")):=congrArg V.str (by rw[fh];rfl)
theorem zc:V.str "add" =V.str (sB (Fo.W "add")):=congrArg V.str (by rw[fh];rfl)
theorem qA{K:Fg_}{CP:Addr}{B H G:Hp}{bs:List UInt8}{m:Addr}{v:Sw.Value}{p np:Nat}{n:List UInt8}(sB:bY B H)(sG:bY H G)(nd:Nd CP B bs m v p np n)(hz:bs.length<=65536){ws:List (List UInt8)}{xs:List V}{E:XK}(hx:xs=ws.map λx=>V.str (L2.J.sB x))(hl:∀x∈ws,x.length<1000)(hn:ws.length<1000)
  {R:Bool->Hp->Prop}(q:∀H',bY H H'->R (Fo.hasN v ws) H'):∀t,G t=none->xG K CP [.ref m,.ref t] (upd G t (.tup xs)) (λx H'=>∃c,AV K x H' c/\R c H') E:=by
 intro t ht;have s1:bY G (upd G t (.tup xs)):=λb o e=>(aj (ag e ht)).trans e
 have s2:=sG.trans s1
 have h2:=j6 (Pm.rowOf v)
 have h3:=Pm.cntV_le v
 have h4:=nd.at_.le
 rw[<-Pm.cnt_row]at h2;exact ex8 m t bs v p np n ws ⟨rfl,nd.same (sB.trans s2),by lia,by rw[hx];exact aC,hl,hn,λH' s'=>⟨_,rfl,q H' (s2.trans s')⟩⟩
theorem l4{v:Sw.Value}{i:Nat}{n:Sw.Bytes}{u:Sw.Value}(h:v.member i=some (n,u)):Fo.mem v i=u:=by
 unfold Fo.mem;rw[h]
theorem yJ{v:Sw.Value}{ws:List (List UInt8)}(h:Fo.hasN v ws=true):(Pm.rowOf v).length=ws.length:=by
 unfold Fo.hasN at h;rw[aE,bw]at h;rw[<-names_len,eq_of_beq h.2]
def zG(K:Fg_)(CP CS CU:Addr):Sp:=λvs H Q E=>∃(B0:Hp)(a m:Addr)(bs:List UInt8)(v:Sw.Value)(p np i:Nat)(n:List UInt8),vs=[.ref a,.ref m,.int (i:Int)]/\bY B0 H/\SqL K B0 a (bs.map bv)/\bs.length<=65536/\Nd CP B0 bs m v p np n/\v.deep<=64 /\
 (match Sw.stepOf v with
  | some x=>∀(st:Addr)(H':Hp),bY H H'->(∀(D:Addr)(o:HO),H D=some o->mQ CP CS B0 H' D bs st x)->Q (.ref st) H'
  | none=>gp E CU [.int (-5),.int (i:Int)])
section
variable {P:Program}{w:World}{K:Fg_}{mg:Str->Option Value}{base:Heap}{CP CS U CN CU Ds IS:Addr}{CM Rk:FuncData}
theorem scRY:bq ["row","part","i"] ["row","part","i"] (aS sRY):=fs_
theorem p9{CP CS:Addr}{B0 H G1 G:Hp}{bs:List UInt8}{act:Nat}{u pt:Sw.Value}{m:Addr}{p np:Nat}{n:List UInt8}{l:List Sw.Step}{R:VK}{E:XK}{dd:Sw.Deed}{D:Addr}{ws:List V}(s1:bY H G1)(s2:bY G1 G)(HN:G1 D=none)(hD:G D=some (.lst ws))(A':dE G ws l)(D7:∀b,V.ref b∈ws->G1 b=none)(Bn:pt.plain=true)(he:Sw.pathOf pt=some l)(Zb:pt.enc.length<=65536)
  (nd:Nd CP B0 bs m u p np n)(hd:u.deep<=64)(e:kq act u=dd)(q:∀(st:Addr)(H':Hp),bY H H'->(∀(D:Addr)(o:HO),H D=some o->mQ CP CS B0 H' D bs st (l,dd))->R (.ref st) H'):∀z dz,G z=none->G dz=none->dz≠z->xu CS [.ref z,.int (act:Int),.ref D,.ref m] (upd (upd G dz (.own z)) z (.ins CS dz [])) (λv H2=>v =.non/\R (.ref z) H2) E:=by
 intro z dz nz Li Ms;refine ex5 z dz D m act ⟨rfl,aC,λH5 UG k5=>⟨rfl,?_⟩⟩
 have s5:bY G H5:=bY.made nz Li k5
 obtain⟨hlen,DC⟩:=sV Bn he
 refine q z H5 ((s1.trans s2).trans s5) λD' o ho=>⟨dz,D,m,act,ws,u,p,np,n,UG,s5 _ _ hD,A'.same s5,by show l.length<=_;lia,DC,nd,hd,e,ba (ag (s1 _ _ ho) HN),λv hv z=>?_⟩
 rw[z]at hv;have:=D7 D' hv
 rw[s1 _ _ ho]at this;cases this
theorem ok_RY{f KM Ky:Addr}{fd V9 HQ:FuncData}(F:Fun K "read_patch_step" "read_patch_step" sRY f fd)(TP:TxP K mg CP)(TS:yV K mg CS)(k1:GI mg "PUT" 1)(k2:GI mg "TAKE" 2)(k3:GI mg "ADD" 3)(ky:GI mg "YES" 1)(M:Mk K CS IS)(G0:bQ P w K mg base CX0 1 IS Rk ["self","action","path","part"] (xu CS))(b0:bZ K Rk ["self","action","path","part"] [])
  (uc:fm K U CU Ds)(mS:mg "NoStep" =some (.ref CU))(GS:bQ P w K mg base CX0 2 Ds CM ["self","number"] (fK CU 1 aUS))(bS:bZ K CM ["self","number"] [])
  (GH:Co P w K mg base CX0 2 KM V9 ["part","names"] (xG K CP) "has_names")
  (GA:Co P w K mg base (CXG False P w) 6 Ky HQ ["row","part","i"] (zP K CP CU) "read_at") :
  bQ P w K mg base (CXG False P w) 7 f fd ["row","part","i"] (zG K CP CS CU):=by
 refine okX F scRY (λvs H Q E h=>?_) (λAY A outer s H vs Q E hr h=>?_)
 .obtain⟨B0,a,m,bs,v,p,np,i,n,rfl,_⟩:=h
  rfl
 .obtain⟨B0,a,m,bs,v,p,np,i,n,rfl,sB,hs,hz,nd,DS,q⟩:=h
  have Bm:cD 2 _:=hr.mono (by decide)
  have Bs:cD 3 _:=hr.mono (by decide)
  obtain⟨nl,l,as,dx,E9,hm,hl,BU,Bz⟩:=nd.pt
  have vr:∀(i:Nat)(a:Addr),as[i]? =some a->(as.map V.ref)[i]? =some (V.ref a):=λi a e=>by rw[bt,e];rfl
  have two:∀{ws:List (List UInt8)},ws.length=2->Fo.hasN v ws=true->∃(a0 a1:Addr)(n0 n1:List UInt8)(w0 w1:Sw.Value)(F0 Ef:Nat),as[0]? =some a0/\as[1]? =some a1/\v.member 0=some (n0,w0)/\v.member 1=some (n1,w1)/\Nd CP B0 bs a0 w0 (Pm.mplace v p 0) F0 n0/\Nd CP B0 bs a1 w1 (Pm.mplace v p 1) Ef n1:=λ{ws} hw hb=>by
   have B5:=yJ hb
   obtain⟨a0,e0⟩:∃a0,as[0]? =some a0:=⟨as[0]'(by lia),aO _⟩
   obtain⟨a1,e1⟩:∃a1,as[1]? =some a1:=⟨as[1]'(by lia),aO _⟩
   obtain⟨n0,w0,F0,Gq,Et⟩:=Bz 0 a0 e0
   obtain⟨n1,w1,Ef,FN,E6⟩:=Bz 1 a1 e1
   exact⟨a0,a1,n0,n1,w0,w1,F0,Ef,e0,e1,Gq,FN,Et,E6⟩
  have DK:∀{b:Addr}{u:Sw.Value}{pp S1:Nat}{nn:List UInt8},Nd CP B0 bs b u pp S1 nn->u.enc.length<=65536:=λJt=>by have:=Jt.at_.le;lia
  refine⟨_,az (cE (eI (cj GH Bm rfl cM (aa (pv 1) (aa (jD (aa lW (aa lW aG))) aG))) (λξ=>rfl))
    (aJ (bK (jm (E:=E) M G0 Bm rfl TS.mS b0 .nil cM (aa (pgi k1 rfl) (aa (cj GA hr rfl dG (aa (pv 0) (aa (dJ cx (a6 (pv 1) rfl) bb (λξ ξ=>rfl)) (aa (pv 2) aG)))) (aa (dJ cx (a6 (pv 1) rfl) bb (λξ ξ=>rfl)) aG)))))) b7)
   (az (cE (PW.pt (j7 (eI (cj GH Bm rfl cM (aa (pv 1) (aa (jD (aa lW (aa lW aG))) aG))) (λξ=>rfl)) (jk (bC eN (a6 (dJ cx (a6 (pv 1) rfl) bb (λξ ξ=>rfl)) rfl) (pgi ky rfl) (bX _)))))
    (aJ (bK (jm (E:=E) M G0 Bm rfl TS.mS b0 .nil cM (aa (pgi k2 rfl) (aa (cj GA hr rfl dG (aa (pv 0) (aa (dJ cx (a6 (pv 1) rfl) bb (λξ ξ=>rfl)) (aa (pv 2) aG)))) (aa (dJ cx (a6 (pv 1) rfl) bb (λξ ξ=>rfl)) aG)))))) b7)
   (az (cE (eI (cj GH Bm rfl cM (aa (pv 1) (aa (jD (aa lW (aa lW aG))) aG))) (λξ=>rfl))
    (aJ (bK (jm (E:=E) M G0 Bm rfl TS.mS b0 .nil cM (aa (pgi k3 rfl) (aa (cj GA hr rfl dG (aa (pv 0) (aa (dJ cx (a6 (pv 1) rfl) bb (λξ ξ=>rfl)) (aa (pv 2) aG)))) (aa (dJ cx (a6 (pv 1) rfl) bb (λξ ξ=>rfl)) aG)))))) b7)
   (aJ (iw uc GS bS rfl Bs cN rfl rfl mS (aa (pv 2) aG) (by decide))))),?_⟩
  try dsimp only[cW];have ct:∀(w0:Sw.Value)(j D0:Nat)(n':List UInt8),(Pm.pdOf w0 j D0 n'.length).kind=w0.kind:=λξ ξ ξ ξ=>rfl
  refine⟨_,rfl,(by show 2<=sizeLine;decide),qA (E:=E0) (ws:=v9) sB (λξ ξ e=>e) nd hz (by rw[yc,q_put];rfl) (by decide) (by decide) λG s0=>?_⟩
  have sG:=sB.trans s0
  cases hb:Fo.hasN v v9 with
  | true =>
   rw[vK hb]at q;refine e8_ (two rfl hb) λa0 a1 n0 n1 w0 w1 F0 Ef=>c6_ λe0 e1 Gq FN Et E6=>?_
   rw[l4 Gq,l4 FN]at q;refine c9 ⟨_,rfl,_,rfl,fd_ (sG _ _ hm) TP.cP TP.nMe rfl ⟨l,_,_,V.ref a0,rfl,rfl,SqL.of (sG _ _ hl),jY (j:=0) rfl (vr 0 a0 e0),_,rfl,ex8 a a0 bs w0 _ F0 i n0 ⟨rfl,sG.seq hs,hz,Et.same sG,?_⟩⟩⟩
   cases ep:Sw.pathOf w0 with
   | none =>
    rw[ep]at q;exact q
   | some l' =>
    rw[ep]at q;intro D ws G2 s2 HN hD A' D7;have FW:=sG.trans s2
    refine⟨_,rfl,fd_ (FW _ _ hm) TP.cP TP.nMe rfl ⟨l,_,_,V.ref a1,rfl,rfl,SqL.of (FW _ _ hl),jY (j:=1) rfl (vr 1 a1 e1),?_⟩⟩
    exact p9 s0 s2 HN hD A' D7 Et.pl ep (DK Et) E6 (bH (kR FN) DS) rfl q
  | false =>
  refine cK ⟨_,rfl,(by show 2<=sizeLine;decide),qA (E:=E0) (ws:=pD) sB s0 nd hz (by rw[yc,As];rfl) (by decide) (by decide) λG s0=>?_⟩
  have sG:=sB.trans s0
  cases Fh:Fo.hasN v pD with
  | true =>
   rw[tZ Fh]at q;refine e8_ (two rfl Fh) λa0 a1 n0 n1 w0 w1 F0 Ef=>c6_ λe0 e1 Gq FN Et E6=>?_
   rw[l4 Gq,l4 FN]at q;obtain⟨YZ,l1,Zs,BV,U7,BD,Fb,VC,QA⟩:=E6.pt
   refine c9 ⟨_,rfl,fd_ (sG _ _ hm) TP.cP TP.nMe rfl ⟨l,_,_,V.ref a1,rfl,rfl,SqL.of (sG _ _ hl),jY (j:=1) rfl (vr 1 a1 e1),fd_ (sG _ _ BD) TP.cP TP.nKi rfl ⟨rfl,_,rfl,?_⟩⟩⟩
   by_cases c1:w1.kind=1
   .rw[ax c1]at q;rw[show decide (V.int ((Pm.pdOf w1 (Pm.mplace v p 1) Ef n1.length).kind:Int)=V.int 1)=true by rw[ct,c1];exact ah rfl]
    refine c9 ⟨_,rfl,_,rfl,fd_ (sG _ _ hm) TP.cP TP.nMe rfl ⟨l,_,_,V.ref a0,rfl,rfl,SqL.of (sG _ _ hl),jY (j:=0) rfl (vr 0 a0 e0),_,rfl,ex8 a a0 bs w0 _ F0 i n0 ⟨rfl,sG.seq hs,hz,Et.same sG,?_⟩⟩⟩
    cases ep:Sw.pathOf w0 with
    | none =>
     rw[ep]at q;exact q
    | some l' =>
     rw[ep]at q;intro D ws G2 s2 HN hD A' D7;have FW:=sG.trans s2
     refine⟨_,rfl,fd_ (FW _ _ hm) TP.cP TP.nMe rfl ⟨l,_,_,V.ref a1,rfl,rfl,SqL.of (FW _ _ hl),jY (j:=1) rfl (vr 1 a1 e1),?_⟩⟩
     exact p9 s0 s2 HN hD A' D7 Et.pl ep (DK Et) E6 (bH (kR FN) DS) rfl q
   .rw[ay c1]at q;have q:gp E CU [.int (-5),.int (i:Int)]:=q
    rw[show decide (V.int ((Pm.pdOf w1 (Pm.mplace v p 1) Ef n1.length).kind:Int)=V.int 1)=false by rw[ct,iC,ai (by lia)]]
    refine cK ⟨_,rfl,(by show 2<=sizeLine;decide),qA (E:=E0) (ws:=tK) sB s0 nd hz (by rw[zc,yc];rfl) (by decide) (by decide) λG s0=>?_⟩
    have sG:=sB.trans s0
    rw[take_add Fh];exact cK ⟨_,rfl,rfl,q⟩
  | false =>
  refine cK (cK ⟨_,rfl,(by show 2<=sizeLine;decide),qA (E:=E0) (ws:=tK) sB s0 nd hz (by rw[zc,yc];rfl) (by decide) (by decide) λG s0=>?_⟩)
  have sG:=sB.trans s0
  cases NG:Fo.hasN v tK with
  | true =>
   rw[vL NG]at q;obtain⟨a0,a1,n0,n1,w0,w1,F0,Ef,e0,e1,Gq,FN,Et,E6⟩:=two rfl NG
   rw[l4 Gq,l4 FN]at q;refine c9 ⟨_,rfl,_,rfl,fd_ (sG _ _ hm) TP.cP TP.nMe rfl ⟨l,_,_,V.ref a1,rfl,rfl,SqL.of (sG _ _ hl),jY (j:=1) rfl (vr 1 a1 e1),_,rfl,ex8 a a1 bs w1 _ Ef i n1 ⟨rfl,sG.seq hs,hz,E6.same sG,?_⟩⟩⟩
   cases ep:Sw.pathOf w1 with
   | none =>
    rw[ep]at q;exact q
   | some l' =>
    rw[ep]at q;intro D ws G2 s2 HN hD A' D7;have FW:=sG.trans s2
    refine⟨_,rfl,fd_ (FW _ _ hm) TP.cP TP.nMe rfl ⟨l,_,_,V.ref a0,rfl,rfl,SqL.of (FW _ _ hl),jY (j:=0) rfl (vr 0 a0 e0),?_⟩⟩
    exact p9 s0 s2 HN hD A' D7 E6.pl ep (DK E6) Et (bH (kR Gq) DS) rfl q
  | false =>
  rw[t7 hb Fh NG]at q;have q:gp E CU [.int (-5),.int (i:Int)]:=q
  exact cK ⟨_,rfl,rfl,q⟩
end
theorem yh{X:Cx}{K:Fg_}{pos:Pos}{es:List Expr}{k:Nat}{t:TGs}{n:Nat}(hK:X.K=K)(hc:X.calm=true)(h:PGs X es t)(hn:(assignEach es X.env).length=n:=by rfl)(A':(assignEach es X.env).findIdx? (·.1)=none:=by rfl):PG X (.Tuple es k pos) (gTup K n t):=by
 subst hK;exact wc hc h hn A'
theorem yD{K:Fg_}{a:Addr}{xs:List V}{g:TG}{tt:TT}{te:TE}{vs:List Nat}{σ:St}{H1:Hp}{D:Addr}{Qd:Hp->Prop}(Pv:Nat->Hp->Prop)(h0:Pv 0 (upd H1 D (.lst [])))(hl:∀i H,i<=xs.length->Pv i H->SqL K H a xs)
  (hs:∀i x H T,xs[i]? =some x->Pv i H->H T=none->g (.ref T) (fu σ vs) (upd H T (.tup [.int (i:Nat),x])) λσ2 H2=>fu σ2 vs=fu σ vs/\tt σ2 H2 λb H3 =>
   if b=true then te σ2 H3 λy H4=>∃acc,H4 D=some (.lst acc)/\acc.length<sizeLine/\Pv (i+1) (upd H4 D (.lst (acc++[y])))else Pv (i+1) H3) (hd:∀H,Pv xs.length H->Qd H) :
  ∃W:Nat->Nat->Hp->Prop,(∃m,W 0 m (upd H1 D (.lst [])))/\∀i m H,W i m H ->
   ((Ite K a).stop i H/\Qd H)\/((Ite K a).go i H/\∃Nx:Hp->Prop,(∀H',Nx H'->∃m',m'<m/\W (i+1) m' H')/\∀x H',(Ite K a).yld i H x H'->g x (fu σ vs) H' λσ2 H2=>fu σ2 vs=fu σ vs/\tt σ2 H2 λb H3 =>
    if b=true then te σ2 H3 λy H4=>∃acc,H4 D=some (.lst acc)/\acc.length<sizeLine/\Nx (upd H4 D (.lst (acc++[y])))else Nx H3):=by
 refine⟨λi m H=>m=xs.length-i/\i<=xs.length/\Pv i H,⟨xs.length,by simp,aX _,h0⟩,?_⟩
 rintro i m H ⟨rfl,hi,p⟩
 have q:=hl i H hi p
 by_cases Bh:i<xs.length
 .refine .inr ⟨⟨xs,xs[i],q,by simp[Bh]⟩,Pv (i+1),λH' p'=>⟨xs.length-(i+1),(df _ _ Bh),rfl,Bh,p'⟩,λx H' y=>?_⟩
  obtain⟨T,x',rfl,hT,rfl,hx⟩:=y
  exact hs i x' H T (hx xs q) p hT
 .have e:i=xs.length:=(cu hi (bg Bh))
  subst e;exact .inl ⟨⟨xs,q,aF _⟩,hd H p⟩
theorem pG:∀(m:Sw.Row)(k i:Nat)(n:Sw.Bytes)(v:Sw.Value),m.get? i=some (n,v)->Sw.stepOf v=none->(∀j,j<i->∀n' v',m.get? j=some (n',v')->∃x,Sw.stepOf v'=some x)->Sw.patchSteps k m =.error (k+i)
 | .nil,k,i,n,v,h,_,_=>by cases h
 | .cons n0 v0 r,k,0,n,v,h,e,_=>by
  have h:some (n0,v0)=some (n,v):=h
  injection h with h;injection h with _ h;subst h;rw[Sw.patchSteps,e];rfl
 | .cons n0 v0 r,k,i+1,n,v,h,e,f=>by
  obtain⟨x,hx⟩:=f 0 (fL _) n0 v0 rfl
  have ih:=pG r (k+1) i n v h e λj hj n' v' hg=>f (j+1) (Nat.succ_lt_succ hj) n' v' hg
  rw[Sw.patchSteps,hx,ih];show Except.error _=_
  rw[show k+1+i=k+(i+1)from(dS _ _ _)]
theorem qY:∀(m:Sw.Row)(k:Nat)(l:List (List Sw.Step×Sw.Deed)),l.length=m.length->(∀(i:Nat)(n:Sw.Bytes)(v:Sw.Value),m.get? i=some (n,v)->Sw.stepOf v=l[i]?)->Sw.patchSteps k m =.ok l
 | .nil,k,[],_,_=>by rw[Sw.patchSteps]
 | .nil,k,_::_,h,_=>by cases h
 | .cons n v r,k,[],h,_=>by cases h
 | .cons n v r,k,x::l,h,f=>by
  have e:=f 0 n v rfl
  have e:Sw.stepOf v=some x:=e
  have ih:=qY r (k+1) l (Nat.succ.inj h) λi n' v' hg=>by
   have:=f (i+1) n' v' hg
   simpa using this
  rw[Sw.patchSteps,e,ih];rfl
theorem n8{v:Sw.Value}(h:v.kind=5):Sw.patchOf v=Sw.patchSteps 0 (Pm.rowOf v):=by
 cases v<;>first | rfl | cases h
theorem n9{v:Sw.Value}(h:¬v.kind=5):Sw.patchOf v =.error 0:=by
 cases v<;>first | rfl | exact aW rfl h
def oS(CP CS:Addr)(B:Hp)(cs:List UInt8)(BL:List Addr)(l:List (List Sw.Step×Sw.Deed)):Prop:=BL.length=l.length/\∀(i:Nat)(st:Addr)(x:List Sw.Step×Sw.Deed),BL[i]? =some st->l[i]? =some x->r8 CP CS B cs st x
theorem oS.same{CP CS:Addr}{B B':Hp}{cs:List UInt8}{BL:List Addr}{l:List (List Sw.Step×Sw.Deed)}(h:oS CP CS B cs BL l)(k:bY B B'):oS CP CS B' cs BL l:=⟨h.1,λi st x e1 e2=>(h.2 i st x e1 e2).same k⟩
def zH(K:Fg_)(CP CS CU:Addr):Sp:=λvs H Q E=>∃(a m:Addr)(bs:List UInt8)(v:Sw.Value)(p np:Nat)(n:List UInt8),vs=[.ref a,.ref m]/\SqL K H a (bs.map bv)/\bs.length<=65536/\Nd CP H bs m v p np n/\v.deep<=64 /\
 (match Sw.patchOf v with
  | .ok l=>∀(D:Addr)(BL:List Addr)(H':Hp),bY H H'->H' D=some (.lst (BL.map V.ref))->oS CP CS H' bs BL l->Q (.ref D) H'
  | .error k=>gp E CU [.int (-5),.int (k:Int)])
section
variable {P:Program}{w:World}{K:Fg_}{mg:Str->Option Value}{base:Heap}{CP CS U CU Ds:Addr}{CM:FuncData}
theorem xR:bq ["row","whole","i","part"] ["row","whole"] (aS sRX):=fs_
theorem ok_RX{f Kq:Addr}{fd V6:FuncData}(F:Fun K "read_patch" "read_patch" sRX f fd)(TP:TxP K mg CP)(k5:GI mg "LIST" 5)(N8:mg "enumerate" =none)(uc:fm K U CU Ds)(mS:mg "NoStep" =some (.ref CU))(GS:bQ P w K mg base CX0 2 Ds CM ["self","number"] (fK CU 1 aUS))(bS:bZ K CM ["self","number"] [])
  (GY:Co P w K mg base (CXG False P w) 7 Kq V6 ["row","part","i"] (zG K CP CS CU) "read_patch_step") :
  bQ P w K mg base (CXG False P w) 8 f fd ["row","whole"] (zH K CP CS CU):=by
 refine okX F xR (λvs H Q E h=>?_) (λAY A outer s H vs Q E hr h=>?_)
 .obtain⟨a,m,bs,v,p,np,n,rfl,_⟩:=h
  rfl
 .obtain⟨a,m,bs,v,p,np,n,rfl,hs,hz,nd,DS,q⟩:=h
  have Bs:cD 3 _:=hr.mono (by decide)
  obtain⟨nl,l,as,dx,E9,hm,hl,BU,Bz⟩:=nd.pt
  have JH:as.length<=65536:=by
   have h1:=j6 (Pm.rowOf v)
   have h3:=Pm.cntV_le v
   have h4:=nd.at_.le
   rw[<-Pm.cnt_row]at h1;lia
  refine⟨_,az (cE (bC uf (a6 (pv 1) rfl) (pgi k5 rfl) (bX _)) (aJ (iw uc GS bS rfl Bs cN rfl rfl mS (aa bb aG) (by decide))) b7)
   (aJ (bK (lX rfl xR.nd (ub rfl N8 (aa (a6 (pv 1) rfl) aG)) (jb (own:=[("i",2),("part",3)]) (by kernel_rfl))
    (λs H C cl fp=>yh (K:=K) (n:=2) rfl rfl (kN (fv (i:=2) xR.nd rfl (.inl rfl)) (kN (fv (i:=3) xR.nd rfl (.inl rfl)) ud))) (λs H C cl fp=>jR)
    (λs H C cl fp pn xe fl hp=>cj GY hr rfl (oa fl hp) (aa (pv 0) (aa (pv 3) (aa (pv 2) aG))))
    pW rfl ⟨outer,rfl⟩ rfl))),?_⟩
  try dsimp only[cW];refine⟨_,rfl,fd_ hm TP.cP TP.nKi rfl ⟨rfl,_,rfl,?_⟩⟩
  by_cases h5:v.kind=5
  case neg =>
   rw[show decide (V.int ((Pm.pdOf v p np n.length).kind:Int)=V.int 5)=false by rw[show(Pm.pdOf v p np n.length).kind=v.kind from rfl,iC,ai (by lia)]]
   rw[n9 h5]at q;exact c9 ⟨rfl,q⟩
  rw[show decide (V.int ((Pm.pdOf v p np n.length).kind:Int)=V.int 5)=true by rw[show(Pm.pdOf v p np n.length).kind=v.kind from rfl,h5];exact ah rfl]
  have Qq:=n8 h5
  refine cK ⟨_,rfl,fd_ hm TP.cP TP.nMe rfl (ex2 l _ ⟨rfl,SqL.of hl,λD hD=>?_⟩)⟩
  refine yD (xs:=as.map V.ref) (λi G=>∃(BL:List Addr)(li:List (List Sw.Step×Sw.Deed)),bY H G/\G D=some (.lst (BL.map V.ref))/\BL.length=i/\li.length=i/\(∀(j:Nat)(n':Sw.Bytes)(v':Sw.Value),j<i->(Pm.rowOf v).get? j=some (n',v')->Sw.stepOf v'=li[j]?)/\∀(j:Nat)(st:Addr)(x:List Sw.Step×Sw.Deed),BL[j]? =some st->li[j]? =some x->mQ CP CS H G D bs st x) ?_ ?_ ?_ ?_
  .exact⟨[],[],λb o e=>(aj (ag e hD)).trans e,aC,rfl,rfl,λj n' v' hj=>aW hj (dA _),λj st x e=>(by cases e)⟩
  .rintro i G _ ⟨BL,li,k,_⟩
   exact SqL.of (k _ _ hl)
  .rintro i x G T hx ⟨BL,li,k,LL,Fz,De,A',hok⟩ hT
   rw[bt]at hx;cases ea:as[i]? with
   | none=>rw[ea]at hx;cases hx
   | some b =>
    rw[ea]at hx;have hx:V.ref b=x:=aV hx
    subst hx;have hi:i<as.length:=(aK.mp ea).1
    obtain⟨n',w',D0,IY,Jt⟩:=Bz i b ea
    have sT:bY G (upd G T (.tup [.int (i:Nat),V.ref b])):=λb o e=>(aj (ag e hT)).trans e
    have k1:=k.trans sT
    have eg:(Pm.rowOf v).get? i=some (n',w'):=by rw[<-Pm.member_eq];exact IY
    refine ex2 T _ ⟨rfl,SqT.of aC,rfl,ex2 _ _ ⟨rfl,ex2 _ _ ⟨rfl,rfl,rfl,p5 ?_⟩⟩⟩
    refine⟨_,rfl,_,rfl,_,rfl,H,a,b,bs,w',_,D0,i,n',rfl,k1,hs,hz,Jt,bH (kR IY) DS,?_⟩
    cases es:Sw.stepOf w' with
    | none =>
     have:=pG (Pm.rowOf v) 0 i n' w' eg es λj hj n2 v2 hg=>by
      have Ly:j<li.length:=(aR hj (leL De (aF _)))
      exact⟨_,(A' j n2 v2 hj hg).trans (aO Ly)⟩
     rw[Qq,this,eP]at q;exact q
    | some x =>
     intro st G2 s2 MV;have Kh:=s2 _ _ (sT _ _ LL)
     refine⟨_,Kh,by rw[au,Fz,sizeLine_eq];lia,BL++[st],li++[x],λc o e=>(aj (ag e hD)).trans (s2 _ _ (k1 _ _ e)),by rw[aC,aQ];rfl,by rw[ae,Fz];rfl,by rw[ae,De];rfl,λj n2 v2 hj hg=>?_,λj y z e1 e2=>mQ.up ?_ Kh⟩
     .rw[fH];by_cases c:j<li.length
      .rw[ax c];exact A' j n2 v2 (leR De c) hg
      .have:j=i:=by lia
       subst this;rw[eg]at hg;injection hg with hg;injection hg with _ hg;subst hg;rw[ay c,show j-li.length=0 from(gE (leL De (aF _)))];exact es
     .rw[fH]at e1 e2;rw[Fz]at e1;rw[De]at e2;by_cases c:j<i
      .rw[ax c]at e1 e2;exact(hok j y z e1 e2).same (sT.trans s2)
      .rw[ay c]at e1 e2;have hj:j-i<1:=(aK.mp e1).1
       rw[show j-i=0 by lia]at e1 e2
       rw[<-aV e1,<-aV e2];exact MV D _ (sT _ _ LL)
  .rintro G ⟨BL,li,k,LL,Fz,De,A',hok⟩
   rw[au]at Fz De A';rw[Qq,qY (Pm.rowOf v) 0 li (Eq.trans De BU) λi n' v' hg=>A' i n' v' (by
    have:=BU
    have h2:i<(Pm.rowOf v).length:=by
     rw[<-names_len];have h3:=iZ (Pm.rowOf v) i
     rw[hg]at h3;exact(aK.mp h3).1
    exact aR h2 (leL this (aF _))) hg]at q
   exact q D BL G k LL ⟨(Eq.trans Fz De.symm),λi st x e1 e2=>(hok i st x e1 e2).ok k⟩
end
theorem wJ{K:Fg_}{a:Addr}{xs:List V}{g:TG}{tb:TS}{D:js}{σ:St}{H:Hp}(Pv:Nat->St->Hp->Prop)(h0:Pv 0 σ H)(hl:∀i σ H,i<=xs.length->Pv i σ H->SqL K H a xs)
  (hs:∀i x σ H T,xs[i]? =some x->Pv i σ H->H T=none->g (.ref T) σ (upd H T (.tup [.int (i:Nat),x])) λσ2 H2=>tb { D with nx:=Pv (i+1),ct:=Pv (i+1),bk:=D.nx } σ2 H2)(hd:∀σ H,Pv xs.length σ H->D.nx σ H) :
  ∃W:Nat->Nat->St->Hp->Prop,(∃m,W 0 m σ H)/\∀i m σ H,W i m σ H ->
   ((Ite K a).stop i H/\D.nx σ H)\/((Ite K a).go i H/\∃N:St->Hp->Prop,(∀σ' H',N σ' H'->∃m',m'<m/\W (i+1) m' σ' H')/\∀x H',(Ite K a).yld i H x H'->g x σ H' λσ2 H2=>tb { D with nx:=N,ct:=N,bk:=D.nx } σ2 H2):=by
 refine⟨λi m σ H=>m=xs.length-i/\i<=xs.length/\Pv i σ H,⟨xs.length,by simp,aX _,h0⟩,?_⟩
 rintro i m σ H ⟨rfl,hi,p⟩
 have q:=hl i σ H hi p
 by_cases Bh:i<xs.length
 .refine .inr ⟨⟨xs,xs[i],q,by simp[Bh]⟩,Pv (i+1),λσ' H' p'=>⟨xs.length-(i+1),(df _ _ Bh),rfl,Bh,p'⟩,λx H' y=>?_⟩
  obtain⟨T,x',rfl,hT,rfl,hx⟩:=y
  exact hs i x' σ H T (hx xs q) p hT
 .have e:i=xs.length:=(cu hi (bg Bh))
  subst e;exact .inl ⟨⟨xs,q,aF _⟩,hd σ H p⟩
theorem jd.same{CT:Addr}{B H H':Hp}{s:Sh}{v:Sw.Value}(G:jd CT B H s v)(k:bY H H'):jd CT B H' s v:=⟨G.sb.trans k,G.ok.same k,G.nd,G.fz,G.fb,G.pl,G.dp,G.ln⟩
theorem kQ(k:Nat)(v:Sw.Value)(s:List Sw.Step×Sw.Deed)(l:List (List Sw.Step×Sw.Deed)):Sw.patched k v (s::l)=match v.doneAt s.1 s.2 with
  | none=>.error (k,false)
  | some w=>if w.ok=false then .error (k,true)else Sw.patched (k+1) w l:=by rw[Sw.patched];rfl
theorem mG(k:Nat)(v:Sw.Value):Sw.patched k v [] =.ok v:=by rw[Sw.patched]
def Told(E:XK)(Q:VK)(CT C4 C9:Addr)(B:Hp)(r:Except (Nat×Bool) Sw.Value):Prop:=match r with
 | .error (k,false)=>gp E C4 [.int (-4),.int (k:Int)]
 | .error (k,true)=>gp E C9 [.int (-9),.int (k:Int)]
 | .ok v=>∀(s':Sh)(H':Hp),jd CT B H' s' v->Q (.ref s'.a) H'
def Ac(K:Fg_)(CP CT CS C4 C9:Addr):Sp:=λvs H Q E=>∃(B:Hp)(sh:Sh)(v:Sw.Value)(a D:Addr)(cs:List UInt8)(BL:List Addr)(l:List (List Sw.Step×Sw.Deed)),vs=[.ref sh.a,.ref a,.ref D]/\jd CT B H sh v/\SqL K B a (cs.map bv)/\cs.length<=65536/\B D=some (.lst (BL.map V.ref))/\oS CP CS B cs BL l/\Told E Q CT C4 C9 B (Sw.patched 0 v l)
section
variable {P:Program}{w:World}{K:Fg_}{mg:Str->Option Value}{base:Heap}{CP CT CS CL CV U C4 C9 Fk Fj:Addr}{HP EY:FuncData}
theorem vV:bq ["tree","row","steps","top","i","step"] ["tree","row","steps"] (aS sDO):=fs_
theorem ok_DO{f KN:Addr}{fd NY:FuncData}(F:Fun K "do_patch" "do_patch" sDO f fd)(N8:mg "enumerate" =none)(Of:PySem.W.exmOne K (.ref CL) (.ref CL)=some true)(Od:PySem.W.exmOne K (.ref CV) (.ref CL)=some false)(Oc:PySem.W.exmOne K (.ref CV) (.ref CV)=some true)(mL:mg "LeadsNowhere" =some (.ref CL))(mV:mg "NoValue" =some (.ref CV))
  (u4:fm K U C4 Fk)(m4:mg "StepLeadsNowhere" =some (.ref C4))(G4:FnN P w K mg base 2 Fk HP ["self","number"] (fK C4 1 aUT))(b4:bZ K HP ["self","number"] [])
  (u9:fm K U C9 Fj)(m9:mg "StepMakesNoValue" =some (.ref C9))(G9:FnN P w K mg base 2 Fj EY ["self","number"] (fK C9 1 aUW))(b9:bZ K EY ["self","number"] [])
  (GD:Co P w K mg base (CXF P w) 8 KN NY ["top","row","step"] (Aa K CP CT CS CL CV) "do_step") :
  bQ P w K mg base (CXG False P w) 9 f fd ["tree","row","steps"] (Ac K CP CT CS C4 C9):=by
 refine okX F vV (λvs H Q E h=>?_) (λAY A outer s H vs Q E hr h=>?_)
 .obtain⟨B,sh,v,a,D,cs,BL,l,rfl,_⟩:=h
  rfl
 .obtain⟨B,sh,v,a,D,cs,BL,l,rfl,G,hs,hz,hD,⟨Fz,hok⟩,q⟩:=h
  have Bs:cD 3 _:=hr.mono (by decide)
  refine⟨_,az (bE (i:=3) vV.nd rfl (.inl rfl) (pv 0))
   (az (lS PassesOwn.leaving rfl (ub rfl N8 (aa (pv 2) aG)) (wc rfl (kN (fv (i:=4) vV.nd rfl (.inl rfl)) (kN (fv (i:=5) vV.nd rfl (.inl rfl)) ud)))
    (aJ (wa (E:=E) (C0:=CL) (T:=CL) (C:=C4) (n:=1) (ans:=aUT) (C0':=CV) (T':=CV) (C':=C9) (n':=1) (ans':=aUW)
     ⟨Of,rfl,mL,by decide,⟨U,Fk,HP,2,["self","number"],u4,G4,b4,rfl,Bs⟩,rfl,m4,λv=>aa (pv 4) aG,by decide,by decide,rfl,rfl⟩
     ⟨Oc,rfl,mV,by decide,⟨U,Fj,EY,2,["self","number"],u9,G9,b9,rfl,Bs⟩,rfl,m9,λv=>aa (pv 4) aG,by decide,by decide,rfl,rfl⟩ Od rfl cN (λhd=>PassesOwnAt.leaving) rfl ⟨outer,rfl⟩
     (λpn xe E' fl=>aJ (bE (i:=3) vV.nd rfl (.inl rfl) (rE GD.g hr rfl GD.m GD.k GD.b fl rfl (aa (pv 3) (aa (pv 1) (aa (pv 5) aG)))))))))
   (aJ (bK (pv 3)))),?_⟩
  try dsimp only[cW];refine⟨_,rfl,_,rfl,ex2 D _ ⟨rfl,SqL.of (G.sb _ _ hD),?_⟩⟩
  refine wJ (xs:=BL.map V.ref) (λi σ G'=>∃(GG:Sh)(v':Sw.Value)(v4 v5:Option V),σ=[some (.ref sh.a),some (.ref a),some (.ref D),some (.ref GG.a),v4,v5]/\jd CT B G' GG v'/\Sw.patched i v' (l.drop i)=Sw.patched 0 v l) (ex4 sh v none none ⟨rfl,G,rfl⟩) ?_ ?_ ?_
  .rintro i σ G' _ ⟨GG,v',v4,v5,rfl,g,_⟩
   exact SqL.of (g.sb _ _ hD)
  .intro i x σ G' T hx A9 hT
   refine e4_ A9 λGG v' v4 v5=>c3_ λSk g hp=>?_
   subst Sk;rw[bt]at hx;cases ea:BL[i]? with
   | none=>rw[ea]at hx;cases hx
   | some st =>
    rw[ea]at hx;have hx:V.ref st=x:=aV hx
    subst hx;have hi:i<BL.length:=(aK.mp ea).1
    obtain⟨xx,Rq⟩:∃xx,l[i]? =some xx:=⟨l[i]'(leR Fz hi),aO _⟩
    have Vs:l.drop i=xx::l.drop (i+1):=by
     obtain⟨h1,h2⟩:=aK.mp Rq
     rw[bW h1,h2]
    rw[Vs]at hp;have g1:=g.same (H':=upd G' T (.tup [.int (i:Nat),V.ref st])) (λb o e=>(aj (ag e hT)).trans e)
    refine e9_ (hok i st xx ea Rq) λdx d m act ws u p np n=>c8_ λh1 h2 h3 h4 h5 h6 h7 h8=>?_
    refine ex2 T _ ⟨rfl,SqT.of aC,rfl,ex2 _ _ ⟨rfl,ex2 _ _ ⟨rfl,rfl,?_⟩⟩⟩
    refine⟨_,rfl,_,rfl,_,rfl,B,GG,v',a,st,d,m,dx,cs,ws,xx.1,act,u,p,np,n,rfl,g1,hs,hz,h1,h2,h3,h4,h5,h6,h7,?_⟩
    rw[h8];unfold Chg;rw[kQ]at hp;cases ed:v'.doneAt xx.1 xx.2 with
    | none =>
     rw[ed]at hp;have hp:Except.error (i,false)=Sw.patched 0 v l:=hp
     rw[<-hp]at q;intro H' dx an Bx EU
     exact .inl ⟨rfl,_,rfl,rfl,q⟩
    | some v2 =>
     rw[ed]at hp;have hp:(if v2.ok=false then Except.error (i,true)else Sw.patched (i+1) v2 (l.drop (i+1)))=Sw.patched 0 v l:=hp
     show if v2.ok=false then _ else _
     by_cases c:v2.ok=false
     .rw[ax c]at hp |-;rw[<-hp]at q;intro H' dx an Bx EU
      exact .inr ⟨rfl,_,rfl,rfl,q⟩
     .rw[ay c]at hp |-;intro s' H' g'
      exact ex4 s' v2 _ _ ⟨rfl,g',hp⟩
  .rintro σ G' ⟨GG,v',v4,v5,rfl,g,hp⟩
   rw[au,Fz,fO,mG]at hp;rw[<-hp]at q;exact⟨_,rfl,q GG G' g⟩
end
theorem nD(n:Nat):1<=(Sw.vary n).length:=by
 have e:(Sw.vary 0).length=1:=by decide +kernel
 exact e▸Pm.vary_mono 0 n (aX _)
theorem tR(a b:Sw.Bytes)(x y:Sw.Value):a.length+b.length+x.enc.length+y.enc.length+4<=(Sw.Value.rec_ (.cons a x (.cons b y .nil))).enc.length:=by
 rw[Pm.hold_len (u:=.rec_ (.cons a x (.cons b y .nil))) (.inr rfl)]
 have h1:=nD a.length
 have h2:=nD b.length
 have h3:=nD 2
 show _<=1+(Sw.vary 2).length+((Sw.Row.cons a x (.cons b y .nil)).enc true).length
 rw[Pm.enc_cons,Pm.enc_cons,Pm.enc_nil];simp only[ae,Pm.nmB_len,if_true,dB];lia
theorem vJ{v:Sw.Value}{x:List Sw.Step×Sw.Deed}(h:Sw.stepOf v=some x):Pm.deedL x.2<=34*v.enc.length:=by
 have hn:=Pm.enc_pos v
 cases c1:Fo.hasN v v9 with
 | true =>
  rw[vK c1]at h;obtain⟨p,y,rfl⟩:=jS c1
  have h5:=tR (Fo.W "at") (Fo.W "put") p y
  have h6:=Pm.enc_pos p
  have e1:(Fo.W "at").length=2:=rfl
  have e2:(Fo.W "put").length=3:=rfl
  cases e:Sw.pathOf (Fo.mem (.rec_ (.cons (Fo.W "at") p (.cons (Fo.W "put") y .nil))) 0)with
  | none=>rw[e]at h;cases h
  | some l =>
   rw[e]at h;rw[<-aV h];show y.enc.length+300<=_
   lia
 | false =>
  cases c2:Fo.hasN v pD with
  | true =>
   rw[tZ c2]at h;by_cases c:(Fo.mem v 1).kind=1
   .rw[ax c]at h;cases e:Sw.pathOf (Fo.mem v 0)with
    | none=>rw[e]at h;cases h
    | some l =>
     rw[e]at h;rw[<-aV h];show 10<=_
     lia
   .rw[ay c]at h;cases h
  | false =>
   cases c3:Fo.hasN v tK with
   | true =>
    rw[vL c3]at h;obtain⟨y,p,rfl⟩:=jS c3
    have h5:=tR (Fo.W "add") (Fo.W "at") y p
    have h6:=Pm.enc_pos p
    have e1:(Fo.W "at").length=2:=rfl
    have e2:(Fo.W "add").length=3:=rfl
    cases e:Sw.pathOf (Fo.mem (.rec_ (.cons (Fo.W "add") y (.cons (Fo.W "at") p .nil))) 1)with
    | none=>rw[e]at h;cases h
    | some l =>
     rw[e]at h;rw[<-aV h];show y.enc.length+300<=_
     lia
   | false =>
    rw[t7 c1 c2 c3]at h;cases h
def l9:List (List Sw.Step×Sw.Deed)->Nat
 | []=>0
 | x::l=>Pm.deedL x.2+l9 l
theorem pF:∀(m:Sw.Row)(k:Nat)(l:List (List Sw.Step×Sw.Deed)),Sw.patchSteps k m =.ok l->l9 l<=34*(m.enc false).length
 | .nil,k,l,h=>by
  rw[Sw.patchSteps]at h;injection h with h;subst h;exact aX _
 | .cons n v r,k,l,h=>by
  rw[Sw.patchSteps]at h;cases e:Sw.stepOf v with
  | none=>rw[e]at h;cases h
  | some x =>
   cases e2:Sw.patchSteps (k+1) r with
   | error j=>rw[e,e2]at h;cases h
   | ok l' =>
    rw[e,e2]at h;have h:Except.ok (x::l')=Except.ok l:=h
    injection h with h;subst h;have i1:=pF r (k+1) l' e2
    have i2:=vJ e
    rw[Pm.enc_cons];simp only[ae];show Pm.deedL x.2+l9 l'<=_
    lia
theorem uW{v:Sw.Value}{l:List (List Sw.Step×Sw.Deed)}(h:Sw.patchOf v =.ok l):l9 l<=34*v.enc.length:=by
 by_cases c:v.kind=5
 .rw[n8 c]at h;have i:=pF _ _ _ h
  rw[Pm.hold_len (.inl c)];have:Pm.namedOf v=false:=by cases v<;>first | rfl | cases c
  rw[this];lia
 .rw[n9 c]at h;cases h
theorem mH:∀(l:List (List Sw.Step×Sw.Deed))(k:Nat)(v w:Sw.Value),v.plain=true->v.enc.length<=16777216->Sw.patched k v l =.ok w->w.enc.length<=v.enc.length+l9 l
 | [],k,v,w,_,_,h=>by
  rw[mG]at h;injection h with h;subst h;exact aF _
 | x::l,k,v,w,hp,hl,h=>by
  rw[kQ]at h;cases ed:v.doneAt x.1 x.2 with
  | none=>rw[ed]at h;cases h
  | some v' =>
   rw[ed]at h;have h:(if v'.ok=false then Except.error (k,true)else Sw.patched (k+1) v' l) =.ok w:=h
   have i:=Pm.doneAt_long hp hl ed
   by_cases c:v'.ok=false
   .rw[ax c]at h;cases h
   .rw[ay c]at h;have c:v'.ok=true:=by revert c;cases v'.ok<;>simp
    unfold Sw.Value.ok at c;rw[aE,aE,bw,bw]at c;have:=mH l (k+1) v' w c.1 c.2.2 h
    show _<=_+(Pm.deedL x.2+l9 l)
    lia
def wd(v w:Sw.Value):List Int:=match Sw.patchOf w with
 | .error k=>[-5,(k:Int)]
 | .ok l=>match Sw.patched 0 v l with
  | .error (k,false)=>[-4,(k:Int)]
  | .error (k,true)=>[-9,(k:Int)]
  | .ok x=>0::fw x.enc
def ym(bs cs:List UInt8):List Int:=match Sw.decode bs,Sw.decode cs with
 | .ok v,.ok w=>wd v w
 | _,_=>[-6]
def spPT(K:Fg_):Sp:=λvs H Q ξ=>∃(a:Addr)(bs:List UInt8)(b:Addr)(cs:List UInt8),vs=[.ref a,.ref b]/\SqL K H a (bs.map bv)/\bs.length<=65536/\SqL K H b (cs.map bv)/\cs.length<=65536/\∀(H':Hp)(p:Addr),H' p=some (.lst ((ym bs cs).map V.int))->Q (.ref p) H'
section
variable {P:Program}{w:World}{K:Fg_}{mg:Str->Option Value}{base:Heap}{CF CR CP CT CS Bu U CU Ds C4 Fk C9 Fj:Addr}
theorem xU:bq ["v","p","whole","steps","refusal"] ["v","p"] (aS sPT):=fs_
theorem ok_PT{f Ks Kr KP HU Km:Addr}{fd EY V7 Rj DI HP:FuncData}(F:Fun K "patch" "patch" sPT f fd)(xc:mj K CF Bu)(mF:mg "Fault" =some (.ref CF))(mU:mg "Refusal" =some (.ref U))
  (Sx:fm K U CU Ds)(Sz:fm K U C4 Fk)(Sy:fm K U C9 Fj)(sU:pq K CF U CU)(s4:pq K CF U C4)(s9:pq K CF U C9)
  (GW:Co P w K mg base (CXF P w) 9 Ks EY ["row"] (zI K CF CP) "read_whole")
  (GP:Co P w K mg base (CXG False P w) 8 Kr V7 ["row","whole"] (zH K CP CS CU) "read_patch")
  (GM:Co P w K mg base CX0 4 HU DI ["row","part"] (xE K CP CT) "make_tree")
  (GT:Co P w K mg base (CXG False P w) 9 KP Rj ["tree","row","steps"] (Ac K CP CT CS C4 C9) "do_patch")
  (GR:Co P w K mg base CX0 3 Km HP ["top"] (zC CT) "tree_row") :
  bQ P w K mg base CX0 10 f fd ["v","p"] (spPT K):=by
 refine F.ok xU (λvs H Q E h=>?_) (λAY A outer s H vs Q E hr h=>?_)
 .obtain⟨a,bs,b,cs,rfl,_⟩:=h
  rfl
 .obtain⟨a,bs,b,cs,rfl,hs,hz,Dk,Jy,q⟩:=h
  have Bs:cD 3 _:=hr.mono (by decide)
  have DP:cD 4 _:=hr.mono (by decide)
  have U0:cD 8 _:=hr.mono (by decide)
  refine⟨_,aJ (yf (cl:=False) (U:=U) (i:=4) xc rfl mF rfl mU rfl ⟨outer,rfl⟩ xU.nd rfl rfl
    (λpn xe E' fl=>az (bE (i:=2) xU.nd rfl (.inl rfl) (cj GW hr rfl (iX (oF fl) rfl) (aa (pv 0) aG)))
     (az (bE (i:=3) xU.nd rfl (.inl rfl) (cj GP U0 rfl (iX fl rfl) (aa (pv 1) (aa (cj GW hr rfl (iX (oF fl) rfl) (aa (pv 1) aG)) aG))))
     (aJ (bK (dI AB (ee (aa bb aG)) (cj GR Bs rfl cM (aa (cj GT hr rfl (iX fl rfl) (aa (cj GM DP rfl cM (aa (pv 0) (aa (pv 2) aG))) (aa (pv 1) (aa (pv 3) aG)))) aG)))))))
    (λv=>aJ (bK (ee (aa (eK dF bb) aG))))
    (λv=>aJ (bK (pe_uf (U:=U) (K:=K) rfl (pv 4) rfl)))),?_⟩
  try dsimp only[cW];have w1:=Pm.whole_rel bs
  have w2:=Pm.whole_rel cs
  unfold ym at q;refine⟨_,rfl,ex2 a bs ⟨rfl,hs,hz,?_⟩⟩
  cases e1:Sw.decode bs with
  | error e =>
   rw[e1]at w1 q;have w1:Pm.wholeAt bs =.error e:=w1
   rw[w1];intro H' dx Bx
   exact .inl ⟨rfl,_,rfl,(by show 1<=sizeLine;decide),λp hp=>q _ p aC⟩
  | ok v =>
   rw[e1]at w1 q;obtain⟨w1,ev,Mi,Wm⟩:=w1
   rw[w1];intro aw H1 SB k1;refine⟨_,rfl,_,rfl,ex2 b cs ⟨rfl,k1.seq Dk,Jy,?_⟩⟩
   cases e2:Sw.decode cs with
   | error e =>
    rw[e2]at w2 q;have w2:Pm.wholeAt cs =.error e:=w2
    rw[w2];intro H' dx Bx
    exact .inl ⟨rfl,_,rfl,(by show 1<=sizeLine;decide),λp hp=>q _ p aC⟩
   | ok v2 =>
    rw[e2]at w2 q;obtain⟨w2,Rv,SS,Wl⟩:=w2
    rw[w2];have q:∀(H':Hp)(p:Addr),H' p=some (.lst ((wd v v2).map V.int))->Q (.ref p) H':=q
    unfold wd at q;intro X4 H2 SA k2;have BN:=k1.trans k2
    refine ex7 b X4 cs v2 0 0 [] ⟨rfl,BN.seq Dk,Jy,.whole SA Rv SS,Wl,?_⟩
    cases e3:Sw.patchOf v2 with
    | error k =>
     rw[e3]at q;intro H' dx an Bx EU
     refine .inr (ex2 CU dx ⟨rfl,sU,rfl,λe he=>?_⟩)
     have ne1:dx≠e:=ag Bx he
     have ne2:an≠e:=ag EU he
     refine⟨_,rfl,e,CU,Ds,dx,.ref an,rfl,Sx,aC,(aj ne1).trans Bx,q _ an ?_⟩
     exact(aj ne2).trans EU
    | ok l =>
     rw[e3]at q;intro D BL H3 k3 EW A';have UA:=BN.trans k3
     refine⟨(by show 1<=sizeLine;decide),λx0 Qi=>?_⟩
     have k4:bY H3 (upd H3 x0 (.lst [.int 0])):=λc o e=>(aj (ag e Qi)).trans e
     generalize hB:upd H3 x0 (.lst [V.int 0])=B at k4;have MP:B x0=some (.lst [V.int 0]):=by rw[<-hB,aC]
     have Qg:=UA.trans k4
     have S':Nd CP B bs aw v 0 0 []:=(Nd.whole SB ev Mi).same ((k2.trans k3).trans k4)
     have Ls:v.enc.length<=65536:=by rw[ev];exact hz
     refine⟨_,rfl,_,rfl,ex8 B a aw bs v 0 0 [] ⟨rfl,λξ ξ e=>e,Qg.seq hs,hz,S',λsh H5 k5 n5 Tb f5 z5 b5=>?_⟩⟩
     have G5:jd CT B H5 sh v:=⟨k5,n5,Tb,z5,f5,Mi,Wm,by lia⟩
     refine⟨_,rfl,_,rfl,ex8 B sh v b D cs BL l ⟨rfl,G5,Qg.seq Dk,Jy,k4 _ _ EW,A'.same k4,?_⟩⟩
     cases ed:Sw.patched 0 v l with
     | error kb =>
      obtain⟨k,f⟩:=kb
      cases f with
      | false =>
       dsimp only at q;rw[ed]at q;intro H' dx an Bx EU
       refine .inr (ex2 C4 dx ⟨rfl,s4,rfl,λe he=>?_⟩)
       have ne1:dx≠e:=ag Bx he
       have ne2:an≠e:=ag EU he
       refine⟨_,rfl,e,C4,Fk,dx,.ref an,rfl,Sz,aC,(aj ne1).trans Bx,q _ an ?_⟩
       exact(aj ne2).trans EU
      | true =>
       dsimp only at q;rw[ed]at q;intro H' dx an Bx EU
       refine .inr (ex2 C9 dx ⟨rfl,s9,rfl,λe he=>?_⟩)
       have ne1:dx≠e:=ag Bx he
       have ne2:an≠e:=ag EU he
       refine⟨_,rfl,e,C9,Fj,dx,.ref an,rfl,Sy,aC,(aj ne1).trans Bx,q _ an ?_⟩
       exact(aj ne2).trans EU
     | ok v' =>
      dsimp only at q;rw[ed]at q;intro s' H6 G6
      have Fb:=mH l 0 v v' Mi (by lia) ed
      have B5:=uW e3
      rw[Rv]at B5;refine ex2 s' v' ⟨rfl,G6.ok,G6.pl,G6.ln,λx H7 k7 h7=>?_⟩
      refine ex4 x0 x _ _ ⟨rfl,rfl,k7 _ _ (G6.sb _ _ MP),h7,by rw[au,sizeLine_eq];show 1+_<=_;lia,λp hp=>q _ p ?_⟩
      rw[aC];show some (HO.lst (V.int 0::v'.enc.map bv))=some (HO.lst (V.int 0::(fw v'.enc).map V.int))
      rw[lq]
end
theorem patch_is(bs cs:List UInt8)(h:bs.length<=65536)(h2:cs.length<=65536):PyYqswga.patch (fw bs) (fw cs)=ym bs cs:=by
 show ansL (Values.withTwo (ValuesNeutral.text (fw bs)) (ValuesNeutral.text (fw cs)) _)=_
 rw[pC,pC];unfold Values.withTwo ym;rw[ay (by show ¬(16777216<bs.length\/16777216<cs.length);lia)]
 cases e1:Sw.decode bs with
 | error e=>rfl
 | ok v =>
  cases e2:Sw.decode cs with
  | error e=>rfl
  | ok w =>
   show ansL (match Sw.patchOf w with
    | .error k=>_
    | .ok l=>_)=wd v w
   unfold wd;cases Sw.patchOf w with
   | error k=>rfl
   | ok l =>
    dsimp only;cases Sw.patched 0 v l with
    | error kb =>
     obtain⟨k,f⟩:=kb
     cases f<;>rfl
    | ok x=>rfl
theorem all_mk{P:Program}{w:World}{K:Fg_}{h:Heap}{mg:Str->Option Value}{fa CF CR CP CT CS CZ CN CL CV CE C6 C7:Addr}(X:K.In h)(G:h.Ns mainGlobals mg)(Vp:mg "patch" =some (.ref fa))
  {Bu IT IR Dt Ec Eb Rl Rm Rn KA HX KC KB Kv IU KJ KO KQ Ic Ks Cb Gp Fl Gn Ds Fk Fj HW KR KF Ku Kt E3 FJ FK Ia FH KS IV HR HS HY N2 KL Km HU Kw Kn HV HZ KH KU KG Kz Kx KD IS KN Ko KM Ky Kq Kr KP Ro:Addr}{Xl WT WH WU W2 WM WG Xa Xh WX Xs WZ WY WQ W1 Xb Xq Xy Xx WL WB Wz WA Ww Wy Wx Wv Xg Xz W5 WO WN Xe Xj Xk Xw Wu XA W6 W4 W7 Xu Xc Xd WC W8 WR WD Xf Xv W' XB W9 WW WS W3 WI Xp WE Xi WV WJ WK Xr Xn:FuncData}
  (mU:mg "Refusal" =some (.ref CZ))
  (Mz:mg "NoPath" =some (.ref CN))
  (Ln:mg "LeadsNowhere" =some (.ref CL))
  (My:mg "NoValue" =some (.ref CV))
  (MA:mg "NoStep" =some (.ref CE))
  (Up:mg "StepLeadsNowhere" =some (.ref C6))
  (Uo:mg "StepMakesNoValue" =some (.ref C7))
  (Uj:mg "Fault" =some (.ref CF))
  (Uh:mg "Reader" =some (.ref CR))
  (TK:mg "pass_scalar" =some (.ref KA))
  (Ug:mg "check_utf8" =some (.ref HX))
  (TM:mg "pass_number" =some (.ref KC))
  (TL:mg "pass_row" =some (.ref KB))
  (TB:mg "read_name" =some (.ref Kv))
  (T1:mg "lacks_members" =some (.ref KJ))
  (Ud:mg "deepen" =some (.ref KO))
  (Uq:mg "begin_part" =some (.ref Ic))
  (Ur:mg "begin_member" =some (.ref KQ))
  (Tw:mg "read_whole" =some (.ref Ks))
  (T6:mg "inner_bytes" =some (.ref HW))
  (Us:mg "amount_of" =some (.ref KR))
  (TR:mg "number_of" =some (.ref KF))
  (T4:mg "is_number" =some (.ref E3))
  (Tx:mg "read_step" =some (.ref Kt))
  (Tz:mg "read_path" =some (.ref Ku))
  (Ul:mg "count_before" =some (.ref Ia))
  (Ua:mg "find_member" =some (.ref FK))
  (T9:mg "follow" =some (.ref FJ))
  (To:mg "vary_row" =some (.ref FH))
  (Ut:mg "all_bytes" =some (.ref KS))
  (TQ:mg "name_row" =some (.ref HR))
  (TU:mg "member_length" =some (.ref HS))
  (Ui:mg "count_length" =some (.ref HY))
  (T2:mg "lengthen" =some (.ref N2))
  (T3:mg "counted_row" =some (.ref KL))
  (Tp:mg "tree_row" =some (.ref Km))
  (TV:mg "make_tree" =some (.ref HU))
  (TC:mg "remove_member" =some (.ref Kw))
  (Tq:mg "take_at" =some (.ref Kn))
  (T5:mg "insert_member" =some (.ref HV))
  (Uk:mg "check_depth" =some (.ref HZ))
  (TY:mg "may_add" =some (.ref KH))
  (Uu:mg "add_at" =some (.ref KU))
  (TX:mg "may_have" =some (.ref KG))
  (TJ:mg "put_new" =some (.ref Kz))
  (TF:mg "replace_last" =some (.ref Kx))
  (TN:mg "put_at" =some (.ref KD))
  (Uc:mg "do_step" =some (.ref KN))
  (Tr:mg "signs_of" =some (.ref Ko))
  (T8:mg "has_names" =some (.ref KM))
  (TH:mg "read_at" =some (.ref Ky))
  (Tu:mg "read_patch_step" =some (.ref Kq))
  (Tv:mg "read_patch" =some (.ref Kr))
  (Ue:mg "do_patch" =some (.ref KP))
  (T7:mg "highest_second" =some (.ref Rn))
  (Ts:mg "scalar_length" =some (.ref Rl))
  (TZ:mg "lowest_second" =some (.ref Rm))
  (Ub:mg "patch" =some (.ref Ro))
  (Y5:mg "Part" =some (.ref CP))
  (Y3:mg "Node" =some (.ref CT))
  (Y4:mg "Step" =some (.ref CS))
  (VL:mR K CR "see_byte" IR)
  (QX:mR K CR "read_byte" Dt)
  (VM:mR K CR "read_varying" Eb)
  (VO:mR K CR "pass_bytes" Ec)
  (SR:Mk K CP IU)
  (SQ:Mk K CR IT)
  (SN:Mk K CT IV)
  (SO:Mk K CS IS)
  (xc:mj K CF Bu)
  (T:TxR K mg CF CR Bu)
  (U:TxU mg)
  (NN:TxN mg)
  (TP:TxP K mg CP)
  (B:TxB mg CP)
  (cU:lD K CZ "__init__" Cb)
  (Gw:fm K CZ CN Gp)
  (SI:pq K CF CZ CN)
  (Fn:fm K CZ CL Fl)
  (SJ:pq K CF CZ CL)
  (Gv:fm K CZ CV Gn)
  (SH:pq K CF CZ CV)
  (El:fm K CZ CE Ds)
  (Ma:pq K CF CZ CE)
  (Gy:fm K CZ C6 Fk)
  (Mc:pq K CF CZ C6)
  (Gx:fm K CZ C7 Fj)
  (Mb:pq K CF CZ C7)
  (TD:TxD K mg CT)
  (TS:yV K mg CS)
  (Oe:PySem.W.exmOne K (.ref CN) (.ref CN)=some true)
  (Of:PySem.W.exmOne K (.ref CL) (.ref CL)=some true)
  (Od:PySem.W.exmOne K (.ref CV) (.ref CL)=some false)
  (Oc:PySem.W.exmOne K (.ref CV) (.ref CV)=some true)
  (FFI:Fun K "__init__" "Fault.__init__" sFI Bu Xl)
  (R':Fun K "__init__" "Reader.__init__" sRI IT WT)
  (R7:Fun K "see_byte" "Reader.see_byte" sSB IR WH)
  (Sa:Fun K "read_byte" "Reader.read_byte" sRB Dt WU)
  (Sd:Fun K "pass_bytes" "Reader.pass_bytes" sPB Ec W2)
  (R9:Fun K "read_varying" "Reader.read_varying" sRV Eb WM)
  (R6:Fun K "scalar_length" "scalar_length" sSL Rl WG)
  (Sf:Fun K "lowest_second" "lowest_second" sLS Rm Xa)
  (Sg:Fun K "highest_second" "highest_second" sHS Rn Xh)
  (OV:Fun K "pass_scalar" "pass_scalar" sPS KA WX)
  (Ph:Fun K "check_utf8" "check_utf8" sCU HX Xs)
  (OX:Fun K "pass_number" "pass_number" sPN KC WZ)
  (OW:Fun K "pass_row" "pass_row" sPR KB WY)
  (OQ:Fun K "read_name" "read_name" sRN Kv WQ)
  (Sb:Fun K "__init__" "Part.__init__" sPI IU W1)
  (O5:Fun K "lacks_members" "lacks_members" sLM KJ Xb)
  (Pf:Fun K "deepen" "deepen" sDP KO Xq)
  (Pn:Fun K "begin_member" "begin_member" sBM KQ Xy)
  (Pl:Fun K "begin_part" "begin_part" sBP Ic Xx)
  (ON:Fun K "read_whole" "read_whole" sRW Ks WL)
  (OH:Fun K "__init__" "Refusal.__init__" sUI Cb WB)
  (R4:Fun K "__init__" "NoPath.__init__" sUP Gp Wz)
  (R5:Fun K "__init__" "LeadsNowhere.__init__" sUL Fl WA)
  (R0:Fun K "__init__" "NoValue.__init__" sUV Gn Ww)
  (R3:Fun K "__init__" "NoStep.__init__" sUS Ds Wy)
  (R1:Fun K "__init__" "StepLeadsNowhere.__init__" sUT Fk Wx)
  (RZ:Fun K "__init__" "StepMakesNoValue.__init__" sUW Fj Wv)
  (Pa:Fun K "inner_bytes" "inner_bytes" sIB HW Xg)
  (Po:Fun K "amount_of" "amount_of" sAO KR Xz)
  (O0:Fun K "number_of" "number_of" sNO KF W5)
  (OP:Fun K "read_path" "read_path" sRP Ku WO)
  (OO:Fun K "read_step" "read_step" sRS Kt WN)
  (O8:Fun K "is_number" "is_number" sIN E3 Xe)
  (Pc:Fun K "follow" "follow" sFW FJ Xj)
  (Pd:Fun K "find_member" "find_member" sFM FK Xk)
  (Pk:Fun K "count_before" "count_before" sCB Ia Xw)
  (OG:Fun K "vary_row" "vary_row" sVR FH Wu)
  (Pp:Fun K "all_bytes" "all_bytes" sAB KS XA)
  (Se:Fun K "__init__" "Node.__init__" sNI IV W6)
  (OZ:Fun K "name_row" "name_row" sNW HR W4)
  (O1:Fun K "member_length" "member_length" sML HS W7)
  (Pi:Fun K "count_length" "count_length" sCO HY Xu)
  (O6:Fun K "lengthen" "lengthen" sLN N2 Xc)
  (O7:Fun K "counted_row" "counted_row" sKR KL Xd)
  (OI:Fun K "tree_row" "tree_row" sTW Km WC)
  (O2:Fun K "make_tree" "make_tree" sMK HU W8)
  (OR:Fun K "remove_member" "remove_member" sRM Kw WR)
  (OJ:Fun K "take_at" "take_at" sTA Kn WD)
  (O9:Fun K "insert_member" "insert_member" sIM HV Xf)
  (Pj:Fun K "check_depth" "check_depth" sCD HZ Xv)
  (O4:Fun K "may_add" "may_add" sMA KH W')
  (Pq:Fun K "add_at" "add_at" sAA KU XB)
  (O3:Fun K "may_have" "may_have" sMH KG W9)
  (OU:Fun K "put_new" "put_new" sPW Kz WW)
  (OS:Fun K "replace_last" "replace_last" sRL Kx WS)
  (OY:Fun K "put_at" "put_at" sPA KD W3)
  (R8:Fun K "__init__" "Step.__init__" Ap IS WI)
  (Pe:Fun K "do_step" "do_step" sDS KN Xp)
  (OK:Fun K "signs_of" "signs_of" sSO Ko WE)
  (Pb:Fun K "has_names" "has_names" sHN KM Xi)
  (OT:Fun K "read_at" "read_at" sRA Ky WV)
  (OL:Fun K "read_patch_step" "read_patch_step" sRY Kq WJ)
  (OM:Fun K "read_patch" "read_patch" sRX Kr WK)
  (Pg:Fun K "do_patch" "do_patch" sDO KP Xr)
  (Si:Fun K "patch" "patch" sPT Ro Xn)
  (Cg:GI mg "BYTES_BEHIND" (8))
  (B9:GI mg "NO_MEMBER" (-1))
  (Ca:GI mg "LONGEST_VALUE" (16777216))
  (EX:GI mg "DEEPEST" (64))
  (Cf:GI mg "LONGEST_NAME" (255))
  (Kk:GI mg "PUT" (1))
  (Gh:GI mg "TAKE" (2))
  (NW:GI mg "ADD" (3))
  (NV:GI mg "YES" (1))
  (Cj:mg "reversed" =none)
  (CQ:mg "isinstance" =none)
  (L4:mg "int" =none)
  (Jb:mg "list" =none)
  (L3:mg "ord" =none)
  (BX:mg "enumerate" =none)
  :∃fd:FuncData,(∀(s:Shared)(us:List Value),us.length=(["v","p"]:List Str).length->BindsTo s fd ⟨us,[]⟩ ((["v","p"]:List Str).zip us))/\∀base:Heap,K.In base->base.Ns mainGlobals mg->bQ P w K mg base CX0 10 fa fd ["v","p"] (spPT K):=by
 have e:=Vp.symm.trans Ub
 cases e;obtain⟨oc,od,kV,dc,pm,an,cd,ct,sl,rfl,_,_⟩:=id Si.ex
 refine⟨PySem.W.fnOf "patch" "patch" (ig sPT) (fY sPT) (aS sPT) .none kV dc pm an cd ct,λs us hu=>by obtain⟨_,_,rfl⟩:=ln2 hu;exact .of_eq rfl,λbase ξ ξ=>?_⟩
 have XR:bZ K _ ["self","number"] []:=b2_ RZ
 have XS:bZ K _ ["self","number"] []:=b2_ R1
 have Oq:bZ K _ ["self","number"] []:=b2_ R3
 have XT:bZ K _ ["first"] []:=b1_ R6
 have X2:bZ K _ ["first"] []:=b1_ Sf
 have X3:bZ K _ ["first"] []:=b1_ Sg
 have L1:bQ P w K mg base CX0 1 Bu _ ["self","kind","place"] (lM CF):=pN FFI T
 have FQ:bZ K _ ["self","kind","place"] []:=b3_ FFI
 have Yf:bQ P w K mg base (CXF P w) 3 IR _ ["self"] (zF K CF CR):=ok_SB R7 T FFI FQ
 have XU:bZ K _ ["self"] []:=b1_ R7
 have RO:bQ P w K mg base (CXF P w) 4 Dt _ ["self"] (xA K CF CR):=ok_RB Sa T Yf XU VL
 have RE:bZ K _ ["self"] []:=b1_ Sa
 have Yx:bQ P w K mg base (CXF P w) 3 Ec _ ["self","how_many"] (zV K CF CR):=ok_PB Sd T FFI FQ
 have X0:bZ K _ ["self","how_many"] []:=b2_ Sd
 have Yk:bQ P w K mg base (CXF P w) 5 Eb _ ["self"] (zJ K CF CR):=ok_RV R9 T FFI FQ RO RE QX
 have XX:bZ K _ ["self"] []:=b1_ R9
 have Yt:Co P w K mg base (CXF P w) 3 KA _ ["row","place","end"] (zR K CF) "pass_scalar":=⟨ok_PS OV T U FFI FQ R6 XT Ts Sf X2 TZ Sg X3 T7,b3_ OV,OV.kp,TK⟩
 have RU:Co P w K mg base (CXF P w) 4 HX _ ["row","start","end"] (xH K CF) "check_utf8":=⟨ok_CU Ph T U FFI FQ Yt,b3_ Ph,Ph.kp,Ug⟩
 have R:xi P w K mg base CF CR Eb Ec Dt _ _ _:=⟨Yk,XX,VM,Yx,X0,VO,RO,RE,QX⟩
 have Yv:Co P w K mg base (CXF P w) 6 KC _ ["reader","part"] (zT K CF CR CP) "pass_number":=⟨ok_PN OX T TP NN L1 FQ R,b2_ OX,OX.kp,TM⟩
 have Yu:Co P w K mg base (CXF P w) 6 KB _ ["reader","part"] (zS K CF CR CP) "pass_row":=⟨ok_PR OW T TP NN R RU,b2_ OW,OW.kp,TL⟩
 have Yn:Co P w K mg base (CXF P w) 6 Kv _ ["reader","holder"] (zM K CF CR CP) "read_name":=⟨ok_RN OQ T TP L1 FQ R RU,b2_ OQ,OQ.kp,TB⟩
 have Yw:bQ P w K mg base CX0 1 IU _ ["self","kind","place"] (zU CP):=ok_PI Sb TP
 have XZ:bZ K _ ["self","kind","place"] []:=b3_ Sb
 have YD:Co P w K mg base CX0 1 KJ _ ["part"] (z8 CP) "lacks_members":=⟨ok_LM O5 TP B T.len,b1_ O5,O5.kp,T1⟩
 have YH:Co P w K mg base CX0 1 KO _ ["holder","part"] (Ab CP) "deepen":=⟨ok_DP Pf TP B,b2_ Pf,Pf.kp,Ud⟩
 have RY:Co P w K mg base (CXF P w) 7 Ic _ ["reader","level"] (xM K CF CR CP) "begin_part":=⟨ok_BP Pl T TP B L1 FQ R SR Yw XZ Yv Yu,b2_ Pl,Pl.kp,Uq⟩
 have YJ:Co P w K mg base (CXF P w) 8 KQ _ ["reader","holder","level"] (Ad K CF CR CP) "begin_member":=⟨ok_BM Pn T TP B Yn RY,b3_ Pn,Pn.kp,Ur⟩
 have Yq:bQ P w K mg base CX0 1 IT _ ["self","row"] (zO CR):=ok_RI R' T
 have XY:bZ K _ ["self","row"] []:=b2_ R'
 have Yj:Co P w K mg base (CXF P w) 9 Ks _ ["row"] (zI K CF CP) "read_whole":=⟨ok_RW ON T TP Uh Cg L1 FQ SQ Yq XY RY YD YJ YH,b1_ ON,ON.kp,Tw⟩
 have RT:Co P w K mg base CX0 1 HW _ ["row","part"] (xF K CP) "inner_bytes":=⟨ok_IB Pa TP,b2_ Pa,Pa.kp,T6⟩
 have YK:Co P w K mg base CX0 1 KR _ ["row"] (Ae K) "amount_of":=⟨ok_AO Po Cj,b1_ Po,Po.kp,Us⟩
 have Yz:Co P w K mg base CX0 2 KF _ ["row","part"] (zX K CP) "number_of":=⟨ok_NO O0 TP RT YK,b2_ O0,O0.kp,TR⟩
 have OC:bQ P w K mg base CX0 1 Cb _ ["self","answer"] (pb K CZ):=ok_UI OH
 have IZ:bZ K _ ["self","answer"] []:=b2_ OH
 have RN:bQ P w K mg base CX0 2 Gp _ ["self"] (fK CN 0 aNP):=ok_UP R4 Gw cU mU OC IZ
 have RD:bZ K _ ["self"] []:=b1_ R4
 have OB:bQ P w K mg base CX0 2 Fl _ ["self","leading"] (fK CL 1 aLN):=ok_UL R5 Fn cU mU OC IZ
 have Os:bZ K _ ["self","leading"] []:=b2_ R5
 have L0:Co P w K mg base CX0 1 E3 _ ["step"] (uO) "is_number":=⟨ok_IN O8 CQ L4,b1_ O8,O8.kp,T4⟩
 have Yl:Co P w K mg base (CXF P w) 4 Kt _ ["row","part"] (zK K CP CN) "read_step":=⟨ok_RS OO TP B Gw Mz RN RD RT Yz,b2_ OO,OO.kp,Tx⟩
 have Ym:Co P w K mg base (CXF P w) 5 Ku _ ["row","whole"] (zL K CP CN) "read_path":=⟨ok_RP OP TP B Gw Mz RN RD Yl,b2_ OP,OP.kp,Tz⟩
 have RX:Co P w K mg base CX0 1 Ia _ ["holder","name"] (xK K) "count_before":=⟨ok_CB Pk T.len,b2_ Pk,Pk.kp,Ul⟩
 have OF:Co P w K mg base CX0 2 FK _ ["holder","step"] (vP K) "find_member":=⟨ok_FM Pd B.k5 B.k6 B9 T.len L0 RX,b2_ Pd,Pd.kp,Ua⟩
 have OE:Co P w K mg base CX0 3 FJ _ ["whole","steps"] (vO K) "follow":=⟨ok_FW Pc B9 OF,b2_ Pc,Pc.kp,T9⟩
 have RL:bQ P w K mg base CX0 2 Gn _ ["self"] (fK CV 0 aNV):=ok_UV R0 Gv cU mU OC IZ
 have RC:bZ K _ ["self"] []:=b1_ R0
 have OA:Co P w K mg base CX0 1 FH _ ["amount"] (vM) "vary_row":=⟨ok_VR OG,b1_ OG,OG.kp,To⟩
 have YL:Co P w K mg base CX0 1 KS _ ["row","part"] (Af K CP) "all_bytes":=⟨ok_AB Pp TP,b2_ Pp,Pp.kp,Ut⟩
 have YA:bQ P w K mg base CX0 2 IV _ ["self","row","part"] (zY K CP CT):=ok_NI Se TP B TD YL
 have X1:bZ K _ ["self","row","part"] []:=b3_ Se
 have RP:Co P w K mg base CX0 2 HR _ ["name"] (xC) "name_row":=⟨ok_NW OZ T.len OA,b1_ OZ,OZ.kp,TQ⟩
 have RQ:Co P w K mg base CX0 3 HS _ ["node"] (xD CT) "member_length":=⟨ok_ML O1 TD T.len RP,b1_ O1,O1.kp,TU⟩
 have RV:Co P w K mg base CX0 2 HY _ ["holder"] (xI CT) "count_length":=⟨ok_CO Pi TD T.len OA,b1_ Pi,Pi.kp,Ui⟩
 have OD:Co P w K mg base (CXF P w) 4 N2 _ ["holders","grown"] (vN CT CV) "lengthen":=⟨ok_LN O6 TD Ca Gv My RL RC,b2_ O6,O6.kp,T2⟩
 have YE:Co P w K mg base CX0 2 KL _ ["kind","how_many","inner"] (z9 K) "counted_row":=⟨ok_KR O7 OA,b3_ O7,O7.kp,T3⟩
 have Yc:Co P w K mg base CX0 3 Km _ ["top"] (zC CT) "tree_row":=⟨ok_TW OI TD B.k5 B.k6 T.len Jb Cj RP YE,b1_ OI,OI.kp,Tp⟩
 have RR:Co P w K mg base CX0 4 HU _ ["row","part"] (xE K CP CT) "make_tree":=⟨ok_MK O2 TP TD SN YA X1,b2_ O2,O2.kp,TV⟩
 have Yo:Co P w K mg base (CXF P w) 5 Kw _ ["holders","i"] (xy CT CV) "remove_member":=⟨ok_RM OR TD RV RQ OD,b2_ OR,OR.kp,TC⟩
 have Yd:Co P w K mg base (CXF P w) 6 Kn _ ["top","steps"] (zD CT CL CV) "take_at":=⟨ok_TA OJ TD T.len Fn Ln OB Os OE OF Yo,b2_ OJ,OJ.kp,Tq⟩
 have RS:Co P w K mg base (CXF P w) 5 HV _ ["holders","i","x"] (qZ CT CV) "insert_member":=⟨ok_IM O9 TD RV RQ OD,b3_ O9,O9.kp,T5⟩
 have RW:Co P w K mg base (CXF P w) 4 HZ _ ["steps","x_depth"] (xJ CV) "check_depth":=⟨ok_CD Pj EX T.len Gv My RL RC,b2_ Pj,Pj.kp,Uk⟩
 have YC:Co P w K mg base CX0 2 KH _ ["holder","step"] (z7 K) "may_add":=⟨ok_MA O4 B.k5 T.len L0,b2_ O4,O4.kp,TY⟩
 have YM:Co P w K mg base (CXF P w) 6 KU _ ["top","steps","x","x_depth"] (Ag CT CL CV) "add_at":=⟨ok_AA Pq TD T.len Fn Ln OB Os OE YC RW RS,b4_ Pq,Pq.kp,Uu⟩
 have YB:Co P w K mg base CX0 2 KG _ ["holder","step"] (zZ K) "may_have":=⟨ok_MH O3 B.k5 B.k6 Cf T.len L0,b2_ O3,O3.kp,TX⟩
 have Ys:Co P w K mg base (CXF P w) 6 Kz _ ["holders","step","x"] (zQ K CT CV) "put_new":=⟨ok_PW OU TD L0 RX RS,b3_ OU,OU.kp,TJ⟩
 have Yp:Co P w K mg base (CXF P w) 5 Kx _ ["trail","steps","x"] (zN K CT CV) "replace_last":=⟨ok_RL OS TD OF OD,b3_ OS,OS.kp,TF⟩
 have Yy:Co P w K mg base (CXF P w) 7 KD _ ["top","steps","x","x_depth"] (zW CT CL CV) "put_at":=⟨ok_PA OY TD T.len Fn Ln OB Os OE YB RW Yp Ys,b4_ OY,OY.kp,TN⟩
 have Yg:bQ P w K mg base CX0 1 IS _ ["self","action","path","part"] (xu CS):=ok_S0 R8 TS
 have XW:bZ K _ ["self","action","path","part"] []:=b4_ R8
 have YG:Co P w K mg base (CXF P w) 8 KN _ ["top","row","step"] (Aa K CP CT CS CL CV) "do_step":=⟨ok_DS Pe TP TS Kk Gh RR Yd Yy YM,b3_ Pe,Pe.kp,Uc⟩
 have Ox:FnN P w K mg base 1 Cb _ ["self","answer"] (pb K CZ):=AD OH
 have RK:FnN P w K mg base 2 Ds _ ["self","number"] (fK CE 1 aUS):=ok_US R3 El cU mU Ox IZ
 have X8:FnN P w K mg base 2 Fk _ ["self","number"] (fK C6 1 aUT):=ok_UT R1 Gy cU mU Ox IZ
 have X7:FnN P w K mg base 2 Fj _ ["self","number"] (fK C7 1 aUW):=ok_UW RZ Gx cU mU Ox IZ
 have RM:=AN RK rfl
 have Ye:Co P w K mg base CX0 1 Ko _ ["words"] (zE) "signs_of":=⟨ok_SO OK L3,b1_ OK,OK.kp,Tr⟩
 have YF:Co P w K mg base CX0 2 KM _ ["part","names"] (xG K CP) "has_names":=⟨ok_HN Pb TP T.len B.k6 Ye,b2_ Pb,Pb.kp,T8⟩
 have Yr:Co P w K mg base (CXG False P w) 6 Ky _ ["row","part","i"] (zP K CP CE) "read_at":=⟨ok_RA OT Oe Mz El MA RK Oq Ym,b3_ OT,OT.kp,TH⟩
 have Yh:Co P w K mg base (CXG False P w) 7 Kq _ ["row","part","i"] (zG K CP CS CE) "read_patch_step":=⟨ok_RY OL TP TS Kk Gh NW NV SO Yg XW El MA RM Oq YF Yr,b3_ OL,OL.kp,Tu⟩
 have Yi:Co P w K mg base (CXG False P w) 8 Kr _ ["row","whole"] (zH K CP CS CE) "read_patch":=⟨ok_RX OM TP B.k5 BX El MA RM Oq Yh,b2_ OM,OM.kp,Tv⟩
 have YI:Co P w K mg base (CXG False P w) 9 KP _ ["tree","row","steps"] (Ac K CP CT CS C6 C7) "do_patch":=⟨ok_DO Pg BX Of Od Oc Ln My Gy Up X8 XS Gx Uo X7 XR YG,b3_ Pg,Pg.kp,Ue⟩
 exact ok_PT Si xc Uj mU El Gy Gx Ma Mc Mb Yj Yi RR YI Yc
end L2.J
namespace PySem.W.Fast
local macro_rules | `(gen_injective_theorems% $_)=>do
 let n(s:String)(i:Nat):=(`PySem.Challenge.cw_onevalues_s11_patch_holds).str (s++toString i)
 let l:=(List.range 668).map (n "o_")++[1,8,668].map (n "heap_")++[9,40,41,100,137,195,246,269,291,313,335,357,379,423,474,530,602,658,667].map (n "tree_")++[11,41,43,101,138,196,247,270,292,314,336,358,380,424,475,531,603,659].map (n "sts_")++[n "view_" 1,n "env_" 3,`PySem.Challenge.pw_onevalues_s11_patch,`PySem.Challenge.rw_onevalues_s11_patch,`PySem.Challenge.nm_onevalues_s11_patch]
 return Lean.mkNullNode (←l.toArray.mapM fun c=>`(theorem $(Lean.mkIdent (.mkSimple s!"tw{c.hash}")):ident:True:=⟨⟩))
gen_injective_theorems% Nat
end PySem.W.Fast
open PySem PySem.W PyProof.Rows
set_option maxRecDepth 100000 in
set_option maxHeartbeats 0 in
theorem PySem.Challenge.cw_onevalues_s11_patch_holds : PySem.Challenge.rw_onevalues_s11_patch.Holds := by
  w_on; k_headS; (case hw => exact ⟨[.list [], .list []], by decide +kernel, by decide +kernel⟩)
  k_fillS
  refine L2.zk (r := PySem.Challenge.rw_onevalues_s11_patch) (k := 10) (CX := L2.CX0) (ps := ["v", "p"]) (sp := fun K => L2.J.spPT K) (by decide +kernel) rfl rfl ⟨rfl, by decide, by decide⟩ (fun w h Y => PySem.W.kIn_of Y) ?F ?S (fun _ _ _ _ z => z)
  case F =>
    intro w mg fa h Y KX G hmg
    refine' L2.J.all_mk KX G hmg ..
    any_goals first | exact PySem.W.mg_of KX G (by k_is) | exact PySem.W.ns_none_of KX G (by k_is) | exact ⟨_, PySem.W.mg_of KX G (by k_is)⟩ | skip
    any_goals first | exact L2.fun_mk (by k_is) (by k_is) (by k_is) | skip
    repeat' first | exact PySem.W.mg_of KX G (by k_is) | exact PySem.W.ns_none_of KX G (by k_is) | exact ⟨_, PySem.W.mg_of KX G (by k_is)⟩ | k_is | exact L2.fun_mk (by k_is) (by k_is) (by k_is) | (simp [L2.XC.wD]; done) | exact L2.J.exm_mk (by k_is) (by k_is) (by k_is) (by k_is) | rfl | (show (_ : Prop); constructor)
  case S =>
    intro K H xs a hO hwi hask hx
    cases hx with
    | cons h0 r0 =>
      cases r0 with
      | cons h1 r1 =>
        cases r1
        cases h0 with
        | lst hs0 ha0 =>
          cases h1 with
          | lst hs1 ha1 =>
            have e0 := L2.yG a.1 _ ha0
            subst e0
            have e1 := L2.yG a.2.1 _ ha1
            subst e1
            have q : ((Codec.inLen 0 65536 a.1 && a.1.all (Codec.inInt 0 255)) && ((Codec.inLen 0 65536 a.2.1 && a.2.1.all (Codec.inInt 0 255)) && true)) = true := hwi
            simp only [Bool.and_eq_true] at q
            have hb0 : ∀ x ∈ a.1, 0 ≤ x ∧ x ≤ 255 := fun x hx => Codec.inInt_iff.mp (List.all_eq_true.mp q.1.2 x hx)
            obtain ⟨bs0, eb0, el0⟩ := L2.J.tp a.1 hb0
            have hz0 : bs0.length ≤ 65536 := by rw [el0]; exact (Codec.inNat_iff.mp q.1.1).2
            have hb1 : ∀ x ∈ a.2.1, 0 ≤ x ∧ x ≤ 255 := fun x hx => Codec.inInt_iff.mp (List.all_eq_true.mp q.2.1.2 x hx)
            obtain ⟨bs1, eb1, el1⟩ := L2.J.tp a.2.1 hb1
            have hz1 : bs1.length ≤ 65536 := by rw [el1]; exact (Codec.inNat_iff.mp q.2.1.1).2
            have hd : PyYqswga.patch a.1 a.2.1 = L2.J.ym bs0 bs1 := by rw [eb0, eb1]; exact L2.J.patch_is bs0 bs1 hz0 hz1
            rw [eb0, ← L2.J.lq] at hs0
            rw [eb1, ← L2.J.lq] at hs1
            refine ⟨_, bs0, _, bs1, rfl, hs0, hz0, hs1, hz1, fun H' p hp => ?_⟩
            rw [← hd] at hp
            exact .lst (L2.SqL.of hp) (L2.yO _)
#print axioms PySem.Challenge.cw_onevalues_s11_patch_holds

