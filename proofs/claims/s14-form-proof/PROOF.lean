import PyProof.Rows.All
import Wide.All
import OpenK.AllK
import Wide.FinOn
import PyProof.EqAt
import PyProof.EqKinds
import PyProof.TupleCall
import Open.SpecLaws
import KE.OsHead
import KE.OsGo
import PyProof.ExcInit
import PyProof.InstStoreFacts
import PyProof.StationsW
import PyProof.ExcBaseAll.Exception
import PyProof.ExcAttrAll.Exception
import PyProof.RulesAs
import KE.KTryMore
import PyProof.JoinWalk
import PyProof.CollectIter
import KE.KRevIter
import PyProof.ConsumeWalk
import PySem.Challenge.RW_onevalues_s14_form
set_option linter.all false
set_option Elab.async false
set_option maxRecDepth 100000
set_option maxHeartbeats 4000000
local macro_rules | `(tactic| omega) => `(tactic| lia)
local macro_rules | `(def $i:declId $s:optDeclSig $v:declVal)=>`(noncomputable def $i:declId $s:optDeclSig $v:declVal)
local macro_rules | `(abbrev $i:declId $s:optDeclSig $v:declVal)=>`(noncomputable abbrev $i:declId $s:optDeclSig $v:declVal)
abbrev Fg_:=PySem.W.Frag
abbrev ae:=@List.length_map
abbrev ag:=@PySem.wpAny_bind
abbrev ah:=@if_neg
abbrev ao:=@if_pos
abbrev aq:=@decide_eq_true
abbrev ax:=@decide_eq_false
abbrev ay:=@List.getElem?_eq_some_iff
abbrev aA:=@Option.some.inj
abbrev aB:=@List.getElem?_eq_getElem
abbrev aC:=@List.length_drop
abbrev aD:=@List.getElem?_map
abbrev aE:=@List.length_cons
abbrev aF:=@List.mem_cons
abbrev aG:=@List.length_append
abbrev aI:=@Nat.le_refl
abbrev aJ:=@List.mem_singleton
abbrev aK:=@PySem.Heap.get?_push_of_some
abbrev aM:=@PySem.wpAny_pure
abbrev aN:=@Ne.symm
abbrev aO:=@List.map_append
abbrev aP:=@absurd
abbrev aQ:=@beq_eq_false_iff_ne
abbrev aR:=@List.mem_cons_of_mem
abbrev aS:=@Bool.false_ne_true
abbrev aT:=@List.mem_append
abbrev aV:=@PySem.Heap.lt_size
abbrev aW:=@PySem.Heap.get?_push_size
abbrev aX:=@PySem.Str.ofString_eq_toList
abbrev aY:=@List.length_take
abbrev aZ:=@List.size_toArray
abbrev a6:=@List.mem_cons_self
abbrev a7:=@PySem.F.plainAttrs_list
abbrev a8:=@Nat.zero_le
abbrev ba:=@List.map_cons
abbrev bb:=@Bool.and_eq_true
abbrev bc:=@Nat.lt_of_lt_of_le
abbrev bj:=@List.mem_of_getElem?
abbrev bp:=@Nat.add_assoc
abbrev bq:=@List.append_assoc
abbrev bt:=@Nat.ne_of_lt
abbrev bu:=@Array.getElem?_eq_some_iff
abbrev bx:=@PySem.mem_of_lookup
abbrev bz:=@List.drop_eq_getElem_cons
abbrev bE:=@List.nodup_cons
abbrev bG:=@List.not_mem_nil
abbrev bH:=@Nat.le_trans
abbrev bJ:=@List.take_of_length_le
abbrev bL:=@List.getElem?_eq_none_iff
abbrev bQ:=@decide_eq_true_eq
abbrev bW:=@List.getElem?_append_right
abbrev bX:=@List.mem_append_right
abbrev bZ:=@List.drop_drop
abbrev b4:=@Nat.lt_irrefl
abbrev b5:=@Bool.false_eq_true
abbrev b8:=@PySem.boot_len
abbrev cu:=@List.length_replicate
abbrev cw:=@List.take_add_one
abbrev cx:=@List.getElem?_replicate
abbrev cz:=@List.mem_append_left
abbrev cA:=@Nat.min_eq_left
abbrev cD:=@Array.length_toList
abbrev cE:=@List.reverse_cons
abbrev cF:=@Array.getElem?_toList
abbrev cH:=@Nat.not_lt_zero
abbrev cQ:=@List.take_zero
abbrev cS:=@Array.getElem?_eq_none_iff
abbrev cT:=@List.length_reverse
abbrev cV:=@List.length_set
abbrev cW:=@Array.getElem?_eq_getElem
abbrev cZ:=@List.take_length
abbrev c5:=@List.contains_cons
abbrev c9:=@List.cons_append
abbrev dq:=@List.getElem?_append
abbrev dv:=@Int.toNat_natCast
abbrev dw:=@List.append_nil
abbrev dA:=@Nat.zero_add
abbrev dB:=@Nat.sub_self
abbrev dG:=@List.lookup_cons
abbrev dH:=@List.all_eq_true
abbrev dI:=@List.take_append_drop
abbrev dJ:=@List.length_singleton
abbrev dM:=@List.getElem?_append_left
abbrev dN:=@List.sum_append
abbrev dO:=@List.length_nil
abbrev dS:=@List.nodup_append
abbrev dU:=@List.dropLast_concat
abbrev dY:=@List.take_add
abbrev dZ:=@List.sum_cons
abbrev d7:=@List.getElem?_take_of_lt
abbrev d9:=@List.mem_map_of_mem
abbrev eB:=@PySem.W.ns_none_of
abbrev eC:=@Nat.add_sub_cancel
abbrev eD:=@List.map_map
abbrev eE:=@List.drop_of_length_le
abbrev eF:=@List.find?_cons
abbrev eG:=@Bool.or_eq_true
abbrev eJ:=@List.contains_iff_mem
abbrev eP:=@List.getElem?_of_mem
abbrev eQ:=@List.drop_zero
abbrev eS:=@List.drop_left
abbrev eU:=@Nat.succ_pos
abbrev eV:=@List.drop_length
abbrev eW:=@List.getLast?_eq_getElem?
abbrev eY:=@List.take_succ_cons
abbrev eZ:=@List.takeWhile_cons
abbrev fg:=@Option.map_some
abbrev fh:=@List.nil_append
abbrev fw:=@List.pairwise_cons
abbrev fz:=@List.getElem?_drop
abbrev fA:=@List.count_pos_iff
abbrev fD:=@List.getLast?_cons_cons
abbrev fE:=@List.getElem?_cons_zero
abbrev fF:=@List.getElem?_cons_succ
abbrev fL:=@Option.map_eq_some_iff
abbrev fM:=@Nat.pow_succ
abbrev fN:=@Nat.ne_of_gt
abbrev fO:=@Nat.le_of_succ_le
abbrev fP:=@List.mem_range
abbrev fQ:=@List.map_set
abbrev fR:=@List.getElem?_set_self
abbrev fS:=@Array.getElem?_eq_none
abbrev fU:=@List.getElem?_eq_none
abbrev fV:=@List.eq_nil_or_concat
abbrev fW:=@List.concat_eq_append
abbrev f7:=@List.any_cons
abbrev f9:=@List.all_cons
abbrev gd:=@List.getElem?_set_ne
abbrev gf:=@List.count_cons_self
abbrev gi:=@Bool.eq_iff_iff
abbrev gj:=@Array.getElem?_setIfInBounds
abbrev gm:=@List.filterMap_cons
abbrev gu:=@Nat.lt_or_ge
abbrev gv:=@List.mem_map
abbrev gD:=@Nat.lt_of_le_of_lt
abbrev gE:=@List.take_succ
abbrev gF:=@List.nodup_nil
abbrev gG:=@List.mem_filterMap
abbrev gH:=@List.find?_eq_none
abbrev gS:=@Option.isSome_map
abbrev gT:=@Nat.lt_succ_of_lt
abbrev ig:=@Nat.lt_succ_self
abbrev ij:=@Nat.le_of_not_lt
abbrev ik:=@List.take_append
abbrev iz:=@Nat.le_of_eq
abbrev iA:=@Nat.add_comm
namespace L2
theorem e2_ {A0 A1 : Sort _} {p : A0 → A1 → Prop} {G : Prop} (h : ∃ a b, p a b) (k : ∀ a b, p a b → G) : G := by obtain ⟨a, b, z⟩ := h; exact k a b z
theorem e3_ {A0 A1 A2 : Sort _} {p : A0 → A1 → A2 → Prop} {G : Prop} (h : ∃ a b c, p a b c) (k : ∀ a b c, p a b c → G) : G := by obtain ⟨a, b, c, z⟩ := h; exact k a b c z
theorem e4_ {A0 A1 A2 A3 : Sort _} {p : A0 → A1 → A2 → A3 → Prop} {G : Prop} (h : ∃ a b c d, p a b c d) (k : ∀ a b c d, p a b c d → G) : G := by obtain ⟨a, b, c, d, z⟩ := h; exact k a b c d z
theorem e5_ {A0 A1 A2 A3 A4 : Sort _} {p : A0 → A1 → A2 → A3 → A4 → Prop} {G : Prop} (h : ∃ a b c d e, p a b c d e) (k : ∀ a b c d e, p a b c d e → G) : G := by obtain ⟨a, b, c, d, e, z⟩ := h; exact k a b c d e z
theorem e6_ {A0 A1 A2 A3 A4 A5 : Sort _} {p : A0 → A1 → A2 → A3 → A4 → A5 → Prop} {G : Prop} (h : ∃ a b c d e f, p a b c d e f) (k : ∀ a b c d e f, p a b c d e f → G) : G := by obtain ⟨a, b, c, d, e, f, z⟩ := h; exact k a b c d e f z
theorem c2_ {P0 P1 G : Prop} (k : P0 → P1 → G) (h : P0 ∧ P1) : G := by obtain ⟨a, b⟩ := h; exact k a b
theorem c3_ {P0 P1 P2 G : Prop} (k : P0 → P1 → P2 → G) (h : P0 ∧ P1 ∧ P2) : G := by obtain ⟨a, b, c⟩ := h; exact k a b c
theorem c4_ {P0 P1 P2 P3 G : Prop} (k : P0 → P1 → P2 → P3 → G) (h : P0 ∧ P1 ∧ P2 ∧ P3) : G := by obtain ⟨a, b, c, d⟩ := h; exact k a b c d
theorem c5_ {P0 P1 P2 P3 P4 G : Prop} (k : P0 → P1 → P2 → P3 → P4 → G) (h : P0 ∧ P1 ∧ P2 ∧ P3 ∧ P4) : G := by obtain ⟨a, b, c, d, e⟩ := h; exact k a b c d e
theorem c6_ {P0 P1 P2 P3 P4 P5 G : Prop} (k : P0 → P1 → P2 → P3 → P4 → P5 → G) (h : P0 ∧ P1 ∧ P2 ∧ P3 ∧ P4 ∧ P5) : G := by obtain ⟨a, b, c, d, e, f⟩ := h; exact k a b c d e f
theorem c9_ {P0 P1 P2 P3 P4 P5 P6 P7 P8 G : Prop} (k : P0 → P1 → P2 → P3 → P4 → P5 → P6 → P7 → P8 → G) (h : P0 ∧ P1 ∧ P2 ∧ P3 ∧ P4 ∧ P5 ∧ P6 ∧ P7 ∧ P8) : G := by obtain ⟨a, b, c, d, e, f, g, i, j⟩ := h; exact k a b c d e f g i j
theorem c11_ {P0 P1 P2 P3 P4 P5 P6 P7 P8 P9 P10 G : Prop} (k : P0 → P1 → P2 → P3 → P4 → P5 → P6 → P7 → P8 → P9 → P10 → G) (h : P0 ∧ P1 ∧ P2 ∧ P3 ∧ P4 ∧ P5 ∧ P6 ∧ P7 ∧ P8 ∧ P9 ∧ P10) : G := by obtain ⟨a, b, c, d, e, f, g, i, j, l, m⟩ := h; exact k a b c d e f g i j l m
open PySem PySem.Spec PyProof.Rows
abbrev Key:=Sum Int Str
def ki:Key→Value→Bool
 | .inl k,v=>Value.isInt k v
 | .inr x,v=>Value.isStrOf x v
def keyH (w:World):Key→Int
 | .inl k=>hashInt k
 | .inr x=>hashStr w x
theorem dD:∀ {k:Key} {v:Value},ki k v=true→(∃ i t,k=Sum.inl i∧v=Value.int i t)∨(∃ x t,k=Sum.inr x∧v=Value.str x t)
 | .inl i,v,h=>by
  obtain ⟨t,e⟩:=Value.isInt_shape (k:=i) (v:=v) h
  exact .inl ⟨i,t,rfl,e⟩
 | .inr x,v,h=>by
  obtain ⟨t,e⟩:=Value.isStrOf_shape (x:=x) (v:=v) h
  exact .inr ⟨x,t,rfl,e⟩
theorem sr (i:Int) (t:Tok):ki (.inl i) (.int i t)=true:=by simp [ki,Value.isInt]
theorem so (x:Str) (t:Tok):ki (.inr x) (.str x t)=true:=by simp [ki,Value.isStrOf]
theorem yG (a b:Int):decide ((Sum.inl a:Key)=Sum.inl b)=(a==b):=by
 by_cases e:a=b
 ·subst e;simp
 ·have h:¬(Sum.inl a:Key)=Sum.inl b:=fun q=>e (Sum.inl.inj q)
  rw [ax h];exact (aQ.mpr e).symm
theorem yD (a b:Str):decide ((Sum.inr a:Key)=Sum.inr b)=decide (a=b):=by
 by_cases e:a=b
 ·subst e;simp
 ·have h:¬(Sum.inr a:Key)=Sum.inr b:=fun q=>e (Sum.inr.inj q)
  rw [ax h,ax e]
theorem yF (a:Int) (b:Str):decide ((Sum.inl a:Key)=Sum.inr b)=false:=ax (fun q=>nomatch q)
theorem yE (a:Str) (b:Int):decide ((Sum.inr a:Key)=Sum.inl b)=false:=ax (fun q=>nomatch q)
def dt (prog:Program) (w:World):PySem.KeyKind prog w Key where
 is:=ki
 hash:=keyH w
 inj:=fun v a b ha hb=>by
  rcases dD ha with ⟨i,t,rfl,rfl⟩ | ⟨x,t,rfl,rfl⟩
  ·rcases dD hb with ⟨j,u,rfl,e⟩ | ⟨y,u,rfl,e⟩
   ·injection e with e1 _;rw [e1]
   ·exact nomatch e
  ·rcases dD hb with ⟨j,u,rfl,e⟩ | ⟨y,u,rfl,e⟩
   ·exact nomatch e
   ·injection e with e1 _;rw [e1]
 byValue:=fun k v h=>by
  rcases dD h with ⟨i,t,rfl,rfl⟩ | ⟨x,t,rfl,rfl⟩<;>rfl
 pyHash:=fun hv h=>by
  rcases dD hv with ⟨i,t,rfl,rfl⟩ | ⟨x,t,rfl,rfl⟩
  ·exact wpAny_pyHash_int h
  ·exact wpAny_pyHash_str h
 eqBool:=fun hu hv h=>by
  rcases dD hu with ⟨i,t,rfl,rfl⟩ | ⟨x,t,rfl,rfl⟩
  ·rcases dD hv with ⟨j,u,rfl,rfl⟩ | ⟨y,u,rfl,rfl⟩
   ·rw [yG] at h;exact wpAny_eqBool_int h
   ·rw [yF] at h;exact SeqAt.EqAt.int_str i t y u _ _ _ _ h
  ·rcases dD hv with ⟨j,u,rfl,rfl⟩ | ⟨y,u,rfl,rfl⟩
   ·rw [yE] at h;exact SeqAt.EqAt.str_int x t j u _ _ _ _ h
   ·rw [yD] at h;exact wpAny_eqBool_str h
 «strs»:=fun k x t v h=>by
  rcases dD h with ⟨i,u,rfl,e⟩ | ⟨y,u,rfl,e⟩
  ·exact nomatch e
  ·injection e with e1 _;subst e1;cases v<;>rfl
theorem o2 (prog:Program) (w:World) (i:Int) (t:Tok):(dt prog w).is (.inl i) (.int i t)=true:=sr i t
theorem iN (prog:Program) (w:World) (x:Str) (t:Tok):(dt prog w).is (.inr x) (.str x t)=true:=so x t
inductive V where
 | non | bl (b:Bool) | int (i:Int) | str (x:Str) | byt (b:Array UInt8) | flt (b:UInt64) | ref (a:Addr) | ty (n:String)
 deriving DecidableEq
def b7:V→Value→Prop
 | .non,u=>u=Value.none
 | .bl b,u=>u=Value.bool b
 | .int i,u=>∃ t,u=Value.int i t
 | .str x,u=>∃ t,u=Value.str x t
 | .byt b,u=>∃ t,u=Value.bytes b t
 | .flt b,u=>∃ t,u=Value.float b t
 | .ref a,u=>u=Value.ref a
 | .ty n,u=>u=Value.type n
abbrev cg:List V→List Value→Prop:=Paired b7
theorem cg.length {xs:List V} {us:List Value} (r:cg xs us):xs.length=us.length:=Paired.length r
theorem cg.get:∀ {xs:List V} {us:List Value} {i:Nat} {x:V},cg xs us→xs[i]? = some x→∃ u,us[i]? = some u∧b7 x u
 | _,_,_,_,.nil,e=>by simp at e
 | _,_,0,_,.cons r _,e=>by simp at e;subst e;exact ⟨_,rfl,r⟩
 | _,_,i+1,x,.cons _ t,e=>by
  obtain ⟨u,h1,h2⟩:=cg.get (i:=i) (x:=x) t (by simpa using e)
  exact ⟨u,by simpa using h1,h2⟩
theorem cg.set {x:V} {u:Value} (r:b7 x u):∀ {xs:List V} {us:List Value} (i:Nat),cg xs us→cg (xs.set i x) (us.set i u)
 | _,_,_,.nil=>.nil
 | _,_,0,.cons _ t=>.cons r t
 | _,_,i+1,.cons q t=>.cons q (cg.set r i t)
theorem cg.append:∀ {xs ys:List V} {us ws:List Value},cg xs us→cg ys ws→cg (xs++ys) (us++ws)
 | _,_,_,_,.nil,s=>s
 | _,_,_,_,.cons r t,s=>.cons r (cg.append t s)
theorem cg.take:∀ {xs:List V} {us:List Value} (n:Nat),cg xs us→cg (xs.take n) (us.take n)
 | _,_,0,_=>.nil
 | _,_,_+1,.nil=>.nil
 | _,_,n+1,.cons r t=>.cons r (cg.take n t)
theorem cg.drop:∀ {xs:List V} {us:List Value} (n:Nat),cg xs us→cg (xs.drop n) (us.drop n)
 | _,_,0,r=>r
 | _,_,_+1,.nil=>.nil
 | _,_,n+1,.cons _ t=>cg.drop n t
def gc:Option V→Option Value→Prop
 | some v,some u=>b7 v u
 | none,none=>True
 | _,_=>False
def KV {κ:Type}:List (κ×V)→List (κ×Value)→Prop:=Paired fun (p:κ×V) (q:κ×Value)=>p.1=q.1∧b7 p.2 q.2
def kV:Key→V
 | .inl i=>.int i
 | .inr x=>.str x
inductive HO where
 | lst (xs:List V)
 | tup (xs:List V)
 | dK (kvs:List (Key×V)) | dT (kvs:List (List Key×V))
 | set (S:Int→Bool) (n:Nat)
 | ins (C dx:Addr) (fs:List (Str×V))
 | own (x:Addr)
 | xd (fs:List (Str×V))
 | met (f x:Addr)
 | rng (lo hi:Int)
 | frz (o:Obj) (u:HO)
 | tbl (ps:Array Value)
 | ext (φ:Heap→Prop)
abbrev Hp:=Addr→Option HO
def upd (H:Hp) (a:Addr) (o:HO):Hp:=fun b=>if b=a then some o else H b
theorem au {H:Hp} {a:Addr} {o:HO}:upd H a o a=some o:=by unfold upd;rw [ao rfl]
theorem aa {H:Hp} {a b:Addr} {o:HO} (h:b≠a):upd H a o b=H b:=by unfold upd;rw [ah h]
theorem ip {H:Hp} {a:Addr} {o u:HO}:upd (upd H a o) a u=upd H a u:=by
 funext b;unfold upd;split<;>rfl
theorem fb {H:Hp} {a b:Addr} {o u:HO} (h:H a=some o) (h':H b=some u) (d:o≠u):a≠b:=by
 intro e;subst e;rw [h] at h';exact d (aA h')
theorem af {H:Hp} {a b:Addr} {o:HO} (h:H a=some o) (h':H b=none):a≠b:=by
 intro e;subst e;rw [h] at h';cases h'
section
variable (P:Program) (w:World)
def du (H:Hp) (h:Heap) (a:Addr):HO→Prop
 | .lst xs=>xs.length≤sizeLine∧∃ (its:List Value) (n:Nat),cg xs its∧h.get? a=some { cls:=.type "list",data:=.seq its.toArray n }
 | .tup xs=>xs.length≤sizeLine∧∃ its:List Value,cg xs its∧IsTup h a its.toArray
 | .dK kvs=>kvs.length≤sizeLine∧(a==sysModules)=false∧∃ vs,KV kvs vs∧h.DictOf (dt P w) a vs
 | .dT kvs=>kvs.length≤sizeLine∧(a==sysModules)=false∧∃ xs:List (List Key×Addr×Value),
   Paired (fun (p:List Key×V) (q:List Key×Addr×Value)=>p.1=q.1∧H q.2.1=some (.tup (p.1.map kV))∧b7 p.2 q.2.2) kvs xs ∧
   ∃ o es ep,h.get? a=some o∧o.ExactDict∧o.data = .dict es ep∧es.toList=xs.map (entryOfKey (tupleKind (dt P w)))∧(xs.map (·.1)).Nodup
 | .set S n=>h.SetOf (intKind P w) a S n
 | .ins C dx fs=>H dx=some (.own a)∧fs.length≤1000∧dx≠a∧h.get? a=some (PySem.W.instObj C dx) ∧
   ∃ mA,h.Ns1 dx mA∧(∀ f,gc (fs.lookup f) (mA f))∧PySem.Within mA (fs.map (·.1))
 | .own _=>∃ o,h.get? a=some o
 | .xd fs=>∃ mA,h.Ns1 a mA∧∀ f,gc (fs.lookup f) (mA f)
 | .rng lo hi=>∃ t u v,h.get? a=some { cls:=.type "range",data:=.fields #[.int lo t,.int hi u,.int 1 v] }
 | .frz o u=>h.get? a=some o∧du H h a u
 | .tbl ps=>h.get? a=some { cls:=.none,data:=.fields ps }
 | .met f x=>h.get? a=some (PySem.W.methodObj (.ref f) (.ref x))
 | .ext φ=>φ h∧(∃ o,h.get? a=some o)∧∀ h1 h2:Heap,φ h1→(∀ o,h1.get? a=some o→h2.get? a=some o)→φ h2
def HOk (H:Hp) (h:Heap):Prop:=∀ a o,H a=some o→du P w H h a o
end
section
variable {P:Program} {w:World} {H H':Hp} {h h':Heap} {a:Addr} {o:HO}
theorem du.lt (x:du P w H h a o):a<h.objs.size:=by
 cases o with
 | lst xs=>obtain ⟨_,_,_,_,e⟩:=x;exact aV e
 | tup xs=>obtain ⟨_,_,_,p⟩:=x;exact p.lt
 | dK kvs=>obtain ⟨_,_,_,_,o,_,_,e,_⟩:=x;exact aV e
 | dT kvs=>obtain ⟨_,_,_,_,o,_,_,e,_⟩:=x;exact aV e
 | set S n=>obtain ⟨o,_,_,_,e,_⟩:=x;exact aV e
 | ins C dx fs=>obtain ⟨_,_,_,e,_⟩:=x;exact aV e
 | own y=>obtain ⟨_,e⟩:=x;exact aV e
 | xd fs=>obtain ⟨_,⟨_,_,_,e,_⟩,_⟩:=x;exact aV e
 | rng lo hi=>obtain ⟨_,_,_,e⟩:=x;exact aV e
 | frz ob u=>obtain ⟨e,_⟩:=x;exact aV e
 | tbl ps=>exact aV (show h.get? a=some _ from x)
 | met f y=>exact aV (show h.get? a=some _ from x)
 | ext φ=>obtain ⟨_,⟨_,e⟩,_⟩:=x;exact aV e
theorem Paired.mapP {α β:Type} {F G:α→β→Prop}:∀ {l₁:List α} {l₂:List β},Paired F l₁ l₂→(∀ a b,F a b→G a b)→Paired G l₁ l₂
 | _,_,.nil,_=>.nil
 | _,_,.cons r t,f=>.cons (f _ _ r) (Paired.mapP t f)
theorem du.stay (x:du P w H h a o) (k:∀ b u,(b=a∨H b=some (.own a))→h.get? b=some u→h'.get? b=some u)
  (ho:∀ b,H b=some (.own a)→H' b=some (.own a)) (ht:∀ b xs,H b=some (.tup xs)→H' b=some (.tup xs)):du P w H' h' a o:=by
 induction o with
 | lst xs=>obtain ⟨z,its,n,r,e⟩:=x;exact ⟨z,its,n,r,k _ _ (.inl rfl) e⟩
 | tup xs=>obtain ⟨z,its,r,ob,e,c⟩:=x;exact ⟨z,its,r,ob,k _ _ (.inl rfl) e,c⟩
 | dK kvs=>obtain ⟨z,y,vs,r,ob,es,ep,e,c⟩:=x;exact ⟨z,y,vs,r,ob,es,ep,k _ _ (.inl rfl) e,c⟩
 | dT kvs =>
  obtain ⟨z,y,xs,r,ob,es,ep,e,c⟩:=x
  exact ⟨z,y,xs,Paired.mapP r fun p q z=>⟨z.1,ht _ _ z.2.1,z.2.2⟩,ob,es,ep,k _ _ (.inl rfl) e,c⟩
 | set S n=>obtain ⟨ob,es,ep,t,e,c⟩:=x;exact ⟨ob,es,ep,t,k _ _ (.inl rfl) e,c⟩
 | ins C dx fs =>
  obtain ⟨d,z,ne,e,mA,⟨od,es,ep,e2,c⟩,r⟩:=x
  exact ⟨ho _ d,z,ne,k _ _ (.inl rfl) e,mA,⟨od,es,ep,k _ _ (.inr d) e2,c⟩,r⟩
 | own y=>obtain ⟨ob,e⟩:=x;exact ⟨ob,k _ _ (.inl rfl) e⟩
 | xd fs=>obtain ⟨mA,⟨od,es,ep,e,c⟩,r⟩:=x;exact ⟨mA,⟨od,es,ep,k _ _ (.inl rfl) e,c⟩,r⟩
 | rng lo hi=>obtain ⟨t,u,v,e⟩:=x;exact ⟨t,u,v,k _ _ (.inl rfl) e⟩
 | frz ob u ih=>obtain ⟨e,q⟩:=x;exact ⟨k _ _ (.inl rfl) e,ih q⟩
 | tbl ps =>
  have e:h.get? a=some { cls:=.none,data:=.fields ps }:=x
  show h'.get? a=some { cls:=.none,data:=.fields ps }
  exact k a _ (.inl rfl) e
 | met f y =>
  have e:h.get? a=some (PySem.W.methodObj (.ref f) (.ref y)):=x
  show h'.get? a=some (PySem.W.methodObj (.ref f) (.ref y))
  exact k a _ (.inl rfl) e
 | ext φ=>obtain ⟨p,⟨o,e⟩,st⟩:=x;exact ⟨st _ _ p fun o q=>k _ _ (.inl rfl) q,⟨o,k _ _ (.inl rfl) e⟩,st⟩
theorem HOk.lt (x:HOk P w H h) (e:H a=some o):a<h.objs.size:=(x a o e).lt
theorem HOk.fresh (x:HOk P w H h) (e:h.objs.size≤a):H a=none:=by
 cases q:H a with
 | none=>rfl
 | some u=>exact aP (bc (x.lt q) e) (b4 _)
theorem HOk.kept (x:HOk P w H h) (k:∀ b u,h.get? b=some u→h'.get? b=some u):HOk P w H h':=fun a o e =>
 (x a o e).stay (fun b u _ q=>k b u q) (fun _ q=>q) fun _ _ q=>q
theorem HOk.laid (x:HOk P w H h) (k:∀ b u,h.get? b=some u→h'.get? b=some u) (hp:h.objs.size≤a) (new:du P w (upd H a o) h' a o):HOk P w (upd H a o) h':=fun b u e=>by
 have hn:=x.fresh hp
 by_cases hb:b=a
 ·subst hb;rw [au] at e;cases e;exact new
 ·rw [aa hb] at e;exact (x b u e).stay (fun c v _ q=>k c v q) (fun c q=>by rw [aa (af q hn)];exact q) fun c xs q=>by rw [aa (af q hn)];exact q
end
def Rd (H:Hp) (a:Addr) (u:HO):Prop:=H a=some u∨∃ o,H a=some (.frz o u)
theorem Rd.ok {P:Program} {w:World} {H:Hp} {h:Heap} {a:Addr} {u:HO} (r:Rd H a u) (x:HOk P w H h):du P w H h a u:=by
 rcases r with r | ⟨o,r⟩
 ·exact x a u r
 ·obtain ⟨_,q⟩:=x a _ r
  exact q
def Mut:Option HO→Prop
 | some (.lst _)=>True
 | some (.dK _)=>True
 | some (.dT _)=>True
 | some (.set _ _)=>True
 | some (.ins _ _ _)=>True
 | some (.ext _)=>True
 | _=>False
section
variable {P:Program} {w:World} {H:Hp} {h h':Heap} {x e:Addr} {o':HO}
theorem HOk.write (ok:HOk P w H h) (mu:Mut (H x)) (he:e=x∨H e=some (.own x)) (k:∀ b u,b≠e→h.get? b=some u→h'.get? b=some u) (heo:∃ u,h'.get? e=some u)
  (new:du P w (upd H x o') h' x o'):HOk P w (upd H x o') h':=fun b u q=>by
 have nown:∀ c y,H c=some (.own y)→c≠x:=fun c y r z=>by subst z;rw [r] at mu;exact mu
 have ntup:∀ c xs,H c=some (.tup xs)→c≠x:=fun c xs r z=>by subst z;rw [r] at mu;exact mu
 by_cases hb:b=x
 ·subst hb;rw [au] at q;cases q;exact new
 ·rw [aa hb] at q;by_cases hbe:b=e
  ·have q':H b=some (.own x):=by
    rcases he with z | z
    ·exact aP (hbe.trans z) hb
    ·rw [hbe];exact z
   rw [q] at q';cases q'
   obtain ⟨v,hv⟩:=heo
   exact ⟨v,by rw [hbe];exact hv⟩
  ·refine (ok b u q).stay (fun c v hc r=>k c v ?_ r) (fun c r=>by rw [aa (nown c b r)];exact r) fun c xs r=>by rw [aa (ntup c xs r)];exact r
   rcases hc with rfl | hc
   ·exact hbe
   ·rintro rfl
    rcases he with z | z
    ·exact nown c b hc z
    ·rw [hc] at z;cases z;exact hb rfl
end
structure Un (fs ex:List Addr) (H H':Hp) (h h':Heap):Prop where
 keep:∀ b o,h.get? b=some o→H b=none→b∉fs→b∉ex→h'.get? b=some o
 slot:∀ b o,h.get? b=some o→H b=none→b∈fs→b∉ex→∃ sl,h'.get? b=some { o with slots:=sl }
 free:∀ b o,h.get? b=some o→H b=none→b∉ex→H' b=none
 there:∀ b o,h.get? b=some o→b∉ex→∃ o',h'.get? b=some o'
 tups:∀ b xs,H b=some (.tup xs)→H' b=some (.tup xs)
 frzs:∀ b o u,H b=some (.frz o u)→H' b=some (.frz o u)
 tbls:∀ b ps,H b=some (.tbl ps)→∃ more,H' b=some (.tbl (ps++more))
section
variable {fs fs' ex ex':List Addr} {H H1 H2:Hp} {h h1 h2 h':Heap} {a x e:Addr} {o:HO}
theorem Un.any (u:Un fs ex H H1 h h1) {b:Addr} {ob:Obj} (q:h.get? b=some ob) (n:H b=none) (hx:b∉ex):∃ sl,h1.get? b=some { ob with slots:=sl }:=by
 by_cases hb:b∈fs
 ·exact u.slot b ob q n hb hx
 ·exact ⟨ob.slots,u.keep b ob q n hb hx⟩
theorem Un.kept (k:∀ b u,h.get? b=some u→h'.get? b=some u):Un fs ex H H h h' :=
 ⟨fun b ob q _ _ _=>k b ob q,fun b ob q _ _ _=>⟨ob.slots,k b ob q⟩,fun _ _ _ n _=>n,fun b ob q _=>⟨ob,k b ob q⟩,fun _ _ q=>q,fun _ _ _ q=>q,fun _ ps q=>⟨#[],by rw [q];simp⟩⟩
theorem Un.refl:Un fs ex H H h h:=Un.kept fun _ _ q=>q
theorem Un.laid (k:∀ b u,h.get? b=some u→h'.get? b=some u) (hp:h.objs.size≤a) (hn:H a=none):Un fs ex H (upd H a o) h h' where
 keep:=fun b u q _ _ _=>k b u q
 slot:=fun b u q _ _ _=>⟨u.slots,k b u q⟩
 free:=fun b u q n _=>by rw [aa (bt (bc (aV q) hp))];exact n
 there:=fun b u q _=>⟨u,k b u q⟩
 tups:=fun b xs q=>by rw [aa (af q hn)];exact q
 frzs:=fun b u xs q=>by rw [aa (af q hn)];exact q
 tbls:=fun b ps q=>⟨#[],by rw [aa (af q hn),q];simp⟩
theorem Un.write (mu:Mut (H x)) (he:e=x∨H e=some (.own x)) (k:∀ b u,b≠e→h.get? b=some u→h'.get? b=some u) (heo:∃ u,h'.get? e=some u):Un fs ex H (upd H x o) h h':=by
 have hx:∀ b,H b=none→b≠x:=fun b n z=>by subst z;rw [n] at mu;exact mu
 have hb:∀ b,H b=none→b≠e:=fun b n z=>by
  subst z;rcases he with r | r
  ·exact hx b n r
  ·rw [n] at r;cases r
 have hm:∀ b u,H b=some u→¬Mut (some u)→b≠x:=fun b u q nm z=>by subst z;rw [q] at mu;exact nm mu
 refine ⟨fun b u q n _ _=>k b u (hb b n) q,fun b u q n _ _=>⟨u.slots,k b u (hb b n) q⟩,fun b u q n _=>by rw [aa (hx b n)];exact n,fun b u q _=>?_,
  fun b xs q=>by rw [aa (hm b _ q fun z=>z)];exact q,fun b u xs q=>by rw [aa (hm b _ q fun z=>z)];exact q,fun b ps q=>⟨#[],by rw [aa (hm b _ q fun z=>z),q];simp⟩⟩
 by_cases hbe:b=e
 ·subst hbe;exact heo
 ·exact ⟨u,k b u hbe q⟩
end
def trk (h:Heap) (H:Hp):List Addr:=(List.range h.objs.size).filter fun a=>(H a).isSome
def nO (h:Heap) (H:Hp):Heap:=PySem.W.hideAll h (trk h H)
theorem sE (h:Heap) (H:Hp):(nO h H).objs.size=h.objs.size:=PySem.W.hideAll_size _ _
theorem uC {h:Heap} {H:Hp} {b:Addr} {o:Obj} (e:h.get? b=some o) (n:H b=none):(nO h H).get? b=some o :=
 PySem.W.hideAll_get _ e fun hm=>by
  have q:(H b).isSome=true:=(List.mem_filter.mp hm).2
  rw [n] at q;simp at q
theorem vM {h:Heap} {H:Hp} {b:Addr} {o:Obj} (e:(nO h H).get? b=some o):h.get? b=some o∧H b=none:=by
 have e':h.get? b=some o:=PySem.W.of_hideAll (trk h H) e
 refine ⟨e',?_⟩
 cases q:H b with
 | none=>rfl
 | some x =>
  have hm:b∈trk h H:=List.mem_filter.mpr ⟨fP.mpr (aV e'),by simp [q]⟩
  have z:(nO h H).get? b=none:=PySem.W.hideAll_none (trk h H) hm
  rw [z] at e;cases e
structure Mod (K:Fg_) (mg:Str→Option Value) (base:Heap):Prop where
 kin:K.In base
 glob:base.Ns mainGlobals mg
 blt:∃ mb,base.Ns builtinsNs mb∧∀ x:Str,x≠"__name__"→mb x=bootBuiltins x
 nolimit:base.NoLimit
structure Cx where
 prog:Program
 w:World
 K:Fg_
 mg:Str→Option Value
 base:Heap
 A:Around
 N:List Str
 s_0:Shared
 H_0:Hp
 env:Env
 outer:List Env
 stack:List Env
 ex:List Addr
 fn:Str→Bool
 calm:Bool
 pn:List (Addr×Obj)
 xe:Value→Shared→Prop
def frs (l:List Env):List Addr:=l.filterMap (·.frame)
abbrev Cx.fs (X:Cx):List Addr:=frs X.outer
def Vis (sc:Scope) (x:Str):Prop:=sc.names.lookup x=some .local∨sc.names.lookup x=some .cell∨sc.names.lookup x=some .free
def Loc (sc:Scope) (x:Str):Prop:=sc.names.lookup x=some .local∨sc.names.lookup x=some .cell
def Look (env:Env) (h:Heap) (m:Str→Option Value) (x:Str) (u:Value):Prop :=
 (env.kindOf x=some .local∧m x=some u)∨((env.kindOf x=some .cell∨env.kindOf x=some .free)∧∃ c,env.cells.lookup x=some c∧h.IsCell c (some u))
structure Cx.Ok (X:Cx):Prop where
 mod:Mod X.K X.mg X.base
 kind:X.env.scope.kind = .function
 glob:X.env.globals=mainGlobals
 blt:X.env.builtins=builtinsNs
 above:X.s_0.heap.objs.size≤X.env.locals
 inj:∀ x y c,X.env.cells.lookup x=some c→X.env.cells.lookup y=some c→x=y
 has:∀ x,(X.env.kindOf x=some .cell∨X.env.kindOf x=some .free)→∃ c,X.env.cells.lookup x=some c
 cab:∀ x c,X.fn x=true→X.env.cells.lookup x=some c→X.s_0.heap.objs.size≤c
 hd:X.calm=true→X.A.handled=none
 frames:X.A.frames=some X.stack
 stk:X.stack=X.outer∨(X.stack=X.env::X.outer∧X.env.frame=some X.env.locals)
 exf:∀ b∈X.ex,b≠X.env.locals∧∀ x c,X.env.cells.lookup x=some c→c≠b
 bs:∀ b o,X.base.get? b=some o→X.s_0.heap.get? b=some o∧X.H_0 b=none
 bsz:X.base.objs.size≤X.s_0.heap.objs.size
 noex:∀ b o,X.base.get? b=some o→b∉X.ex
 exfs:∀ b∈X.ex,b∉X.fs
 funs:X.s_0.heap.FunFrames X.base X.outer
 frf:∀ b∈X.fs,X.H_0 b=none
structure Inv (X:Cx) (pins:List (Addr×Obj)) (σ:List (Option V)) (H:Hp) (s:Shared):Prop where
 ok:X.Ok
 os:s.os=X.s_0.os
 bare:AllBare s.gens
 base:Un X.fs X.ex X.H_0 H X.s_0.heap s.heap
 loc:∃ m,s.heap.Ns X.env.locals m∧∀ (i:Nat) (x:Str) (v:V),X.N[i]? = some x→σ[i]? = some (some v)→Vis X.env.scope x→∃ u,b7 v u∧Look X.env s.heap m x u
 cell:∀ x c,X.env.cells.lookup x=some c→∃ v,s.heap.IsCell c v
 free:H X.env.locals=none
 freeC:∀ x c,X.env.cells.lookup x=some c→H c=none
 pin:∀ p∈X.pn++pins,s.heap.get? p.1=some p.2∧H p.1=none∧p.1≠X.env.locals∧p.1∉X.fs∧∀ v,p.2.data≠.cell v
 hok:HOk X.prog X.w H s.heap
 len:σ.length=X.N.length
section
variable {X:Cx} {pins:List (Addr×Obj)} {σ:List (Option V)} {H H':Hp} {s:Shared} {h':Heap}
theorem Cx.Ok.nofr (ok:X.Ok) {b:Addr} {o:Obj} (e:X.base.get? b=some o):b∉X.fs:=fun hb=>by
 have:=(ok.funs.mem hb).1
 rw [e] at this;cases this
theorem Inv.bs (I:Inv X pins σ H s):∀ b o,X.base.get? b=some o→s.heap.get? b=some o∧H b=none:=fun b o e =>
 ⟨I.base.keep b o (I.ok.bs b o e).1 (I.ok.bs b o e).2 (I.ok.nofr e) (I.ok.noex b o e),I.base.free b o (I.ok.bs b o e).1 (I.ok.bs b o e).2 (I.ok.noex b o e)⟩
theorem Inv.bk (I:Inv X pins σ H s):∀ b o,X.base.get? b=some o→s.heap.get? b=some o:=fun b o e=>(I.bs b o e).1
theorem Inv.mod (I:Inv X pins σ H s):Mod X.K X.mg X.base:=I.ok.mod
theorem Inv.kIn (I:Inv X pins σ H s):X.K.In s.heap:=I.ok.mod.kin.keeps I.bk
theorem Inv.lt (I:Inv X pins σ H s):X.env.locals<s.heap.objs.size:=let ⟨_,hn,_⟩:=I.loc;hn.lt
theorem Inv.sz (I:Inv X pins σ H s):X.s_0.heap.objs.size≤s.heap.objs.size:=bH I.ok.above (Nat.le_of_lt I.lt)
theorem Inv.nofs (I:Inv X pins σ H s) {a:Addr} (h:s.heap.objs.size≤a):a∉X.fs:=fun hb=>by
 obtain ⟨_,o,ho,_⟩:=I.ok.funs.mem hb
 exact aP (bc (aV ho) (bH I.sz h)) (b4 _)
theorem Inv.cne (I:Inv X pins σ H s):∀ x c,X.env.cells.lookup x=some c→c≠X.env.locals:=fun x c e z=>by
 obtain ⟨v,o,ho,hd⟩:=I.cell x c e
 obtain ⟨m,⟨o',es,ep,ho',hd',_⟩,_⟩:=I.loc
 rw [z,ho'] at ho;cases ho;rw [hd'] at hd;cases hd
theorem Inv.funs (I:Inv X pins σ H s):s.heap.FunFrames X.base X.outer:=by
 have all:∀ (l:List Env),(∀ b∈frs l,b∈X.fs)→X.s_0.heap.FunFrames X.base l→s.heap.FunFrames X.base l:=by
  intro l;induction l with
  | nil=>intro _ _;trivial
  | cons env r ih =>
   intro hs hl;obtain ⟨hk,⟨L,o,hf,hn,ho,hd⟩,hr⟩:=hl
   have hL:L∈X.fs:=hs L (by unfold frs;rw [gm,hf];exact a6)
   obtain ⟨sl,e⟩:=I.base.slot L o ho (I.ok.frf L hL) hL fun z=>I.ok.exfs L z hL
   exact ⟨hk,⟨L,_,hf,hn,e,hd⟩,ih (fun b hb=>hs b (by unfold frs;rw [gm,hf];exact aR _ hb)) hr⟩
 exact all X.outer (fun _ hb=>hb) I.ok.funs
theorem Inv.stack (I:Inv X pins σ H s):s.heap.FunFrames X.base X.stack:=by
 rcases I.ok.stk with e | ⟨e,hf⟩
 ·rw [e];exact I.funs
 ·rw [e];obtain ⟨m,hn,_⟩:=I.loc
  refine .cons (by rw [I.ok.kind];decide) hf hn ?_ I.funs
  exact Heap.get?_none_of_le (bH I.ok.bsz I.ok.above)
theorem Inv.stkSub (I:Inv X pins σ H s):∀ b∈frs X.stack,b∈X.env.locals::X.fs:=fun b hb=>by
 rcases I.ok.stk with e | ⟨e,hf⟩
 ·rw [e] at hb;exact aR _ hb
 ·rw [e] at hb;unfold frs at hb;rw [gm,hf] at hb;exact hb
theorem Inv.stkFree (I:Inv X pins σ H s):∀ b∈frs X.stack,H b=none:=fun b hb=>by
 rcases aF.mp (I.stkSub b hb) with e | hb
 ·rw [e];exact I.free
 ·obtain ⟨_,o,ho,_⟩:=I.ok.funs.mem hb
  exact I.base.free b o ho (I.ok.frf b hb) fun z=>I.ok.exfs b z hb
theorem Inv.step {g':Array GenState} {t':Nat} {d':Drawn} {ch:List Addr} (I:Inv X pins σ H s)
  (hch:∀ b∈ch,(b∈X.ex∨X.s_0.heap.objs.size≤b)∧b≠X.env.locals∧(∀ x c,X.env.cells.lookup x=some c→c≠b)∧∀ p∈X.pn++pins,p.1≠b)
  (keep:∀ b o,b≠X.env.locals→b∉X.fs→b∉ch→s.heap.get? b=some o→H b=none→h'.get? b=some o)
  (slot:∀ b o,b≠X.env.locals→b∈X.fs→b∉ch→s.heap.get? b=some o→H b=none→∃ sl,h'.get? b=some { o with slots:=sl }) (free:∀ b o,b∉ch→s.heap.get? b=some o→H b=none→H' b=none)
  (there:∀ b o,b∉ch→s.heap.get? b=some o→∃ o',h'.get? b=some o')
  (tups:∀ b xs,H b=some (.tup xs)→H' b=some (.tup xs)) (frzs:∀ b o u,H b=some (.frz o u)→H' b=some (.frz o u)) (tbls:∀ b ps,H b=some (.tbl ps)→∃ more,H' b=some (.tbl (ps++more)))
  (ns:∀ m,s.heap.Ns X.env.locals m→h'.Ns X.env.locals m) (hok:HOk X.prog X.w H' h') (hg:AllBare g') :
  Inv X pins σ H' { s with heap:=h',gens:=g',drawn:=d',toks:=t' }:=by
 have neL:∀ b o,X.s_0.heap.get? b=some o→b≠X.env.locals:=fun b o e=>bt (bc (aV e) I.ok.above)
 have neC:∀ b o,X.s_0.heap.get? b=some o→b∉X.ex→b∉ch:=fun b o e hx hb=>by
  rcases (hch b hb).1 with z | z
  ·exact hx z
  ·exact aP (bc (aV e) z) (b4 _)
 have cellK:∀ x c,X.env.cells.lookup x=some c→∀ v,s.heap.IsCell c v→h'.IsCell c v:=fun x c e v ⟨o,ho,hd⟩=>by
  have nch:c∉ch:=fun z=>(hch c z).2.2.1 x c e rfl
  by_cases hc:c∈X.fs
  ·obtain ⟨sl,q⟩:=slot c o (I.cne x c e) hc nch ho (I.freeC x c e)
   exact ⟨_,q,hd⟩
  ·exact ⟨o,keep c o (I.cne x c e) hc nch ho (I.freeC x c e),hd⟩
 refine ⟨I.ok,I.os,hg,⟨fun b o e n hb hx=>?_,fun b o e n hb hx=>?_,fun b o e n hx=>?_,fun b o e hx=>?_,fun b xs e=>tups b xs (I.base.tups b xs e),fun b o xs e=>frzs b o xs (I.base.frzs b o xs e),fun b ps e=>?_⟩,?_,fun x c e=>?_,?_,fun x c e=>?_,fun p hp=>?_,hok,I.len⟩
 ·exact keep b o (neL b o e) hb (neC b o e hx) (I.base.keep b o e n hb hx) (I.base.free b o e n hx)
 ·obtain ⟨sl,e1⟩:=I.base.slot b o e n hb hx
  obtain ⟨sl',e2⟩:=slot b _ (neL b o e) hb (neC b o e hx) e1 (I.base.free b o e n hx)
  exact ⟨sl',e2⟩
 ·obtain ⟨o',e1⟩:=I.base.there b o e hx
  exact free b o' (neC b o e hx) e1 (I.base.free b o e n hx)
 ·obtain ⟨o',e1⟩:=I.base.there b o e hx
  exact there b o' (neC b o e hx) e1
 ·obtain ⟨m1,e1⟩:=I.base.tbls b ps e
  obtain ⟨m2,e2⟩:=tbls b _ e1
  exact ⟨m1++m2,by rw [e2,Array.append_assoc]⟩
 ·obtain ⟨m,hn,hl⟩:=I.loc
  refine ⟨m,ns m hn,fun i x v e1 e2 e3=>?_⟩
  obtain ⟨u,r,l⟩:=hl i x v e1 e2 e3
  refine ⟨u,r,?_⟩
  rcases l with l | ⟨k,c,e,z⟩
  ·exact .inl l
  ·exact .inr ⟨k,c,e,cellK x c e _ z⟩
 ·obtain ⟨v,z⟩:=I.cell x c e
  exact ⟨v,cellK x c e v z⟩
 ·obtain ⟨m,⟨o,_,_,ho,_⟩,_⟩:=I.loc
  exact free _ o (fun z=>(hch _ z).2.1 rfl) ho I.free
 ·obtain ⟨v,o,ho,hd⟩:=I.cell x c e
  exact free c o (fun z=>(hch c z).2.2.1 x c e rfl) ho (I.freeC x c e)
 ·obtain ⟨e,n,ne,nf,d⟩:=I.pin p hp
  have nch:p.1∉ch:=fun z=>(hch p.1 z).2.2.2 p hp rfl
  exact ⟨keep p.1 p.2 ne nf nch e n,free p.1 p.2 nch e n,ne,nf,d⟩
theorem Inv.un {t':Nat} (I:Inv X pins σ H s) (u:Un X.fs [] H H' s.heap h') (hok:HOk X.prog X.w H' h'):Inv X pins σ H' { s with heap:=h',toks:=t' }:=by
 obtain ⟨m,⟨o,es,ep,ho,r⟩,_⟩:=id I.loc
 obtain ⟨sl,hL⟩:=u.any ho I.free (by simp)
 exact I.step (g':=s.gens) (d':=s.drawn) (ch:=[]) (fun _ z=>nomatch z) (fun b o _ hb _ e n=>u.keep b o e n hb (by simp)) (fun b o _ hb _ e n=>u.slot b o e n hb (by simp)) (fun b o _ e n=>u.free b o e n (by simp)) (fun b o _ e=>u.there b o e (by simp)) u.tups u.frzs u.tbls (fun m' hm=>by
  obtain ⟨o',es',ep',ho',r'⟩:=hm
  rw [ho] at ho';cases ho'
  exact ⟨_,es',ep',hL,r'⟩) hok I.bare
theorem Inv.call {g':Array GenState} {t':Nat} {d':Drawn} {ch:List Addr} (I:Inv X pins σ H s) (u:Un (frs X.stack) ch H H' s.heap h') (hok:HOk X.prog X.w H' h') (hg:AllBare g')
  (hch:∀ b∈ch,(b∈X.ex∨X.s_0.heap.objs.size≤b)∧b≠X.env.locals∧(∀ x c,X.env.cells.lookup x=some c→c≠b)∧∀ p∈X.pn++pins,p.1≠b) :
  Inv X pins σ H' { s with heap:=h',gens:=g',drawn:=d',toks:=t' }:=by
 obtain ⟨m,⟨o,es,ep,ho,r⟩,_⟩:=id I.loc
 obtain ⟨sl,hL⟩:=u.any ho I.free fun z=>(hch _ z).2.1 rfl
 exact I.step (ch:=ch) hch (fun b o hL hb hc e n=>u.keep b o e n (fun z=>(aF.mp (I.stkSub b z)).elim hL hb) hc) (fun b o _ _ hc e n=>u.any e n hc) (fun b o hc e n=>u.free b o e n hc) (fun b o hc e=>u.there b o e hc) u.tups u.frzs u.tbls (fun m' hm=>by
  obtain ⟨o',es',ep',ho',r'⟩:=hm
  rw [ho] at ho';cases ho'
  exact ⟨_,es',ep',hL,r'⟩) hok hg
theorem Inv.turned {t':Nat} {it:Addr} (I:Inv X pins σ H s) (k:∀ b o,b≠it→s.heap.get? b=some o→h'.get? b=some o) (hn:H it=none) (hL:it≠X.env.locals)
  (h1:it∈X.ex∨X.s_0.heap.objs.size≤it) (h2:∀ x c,X.env.cells.lookup x=some c→c≠it) (h3:∀ p∈X.pn++pins,p.1≠it):Inv X pins σ H { s with heap:=h',toks:=t' }:=by
 have nit:∀ b u,H b=some u→b≠it:=fun b u e z=>by rw [z,hn] at e;cases e
 refine I.step (g':=s.gens) (d':=s.drawn) (ch:=[it]) (fun b hb=>?_) (fun b o _ _ hc e _=>k b o (fun z=>hc (by simp [z])) e) (fun b o _ _ hc e _=>⟨o.slots,k b o (fun z=>hc (by simp [z])) e⟩) (fun _ _ _ _ n=>n)
  (fun b o hc e=>⟨o,k b o (fun z=>hc (by simp [z])) e⟩) (fun _ _ e=>e) (fun _ _ _ e=>e) (fun b ps e=>⟨#[],by rw [e];simp⟩) (fun m hm=>?_) (fun b u e=>?_) I.bare
 ·have e:b=it:=by simpa using hb
  subst e;exact ⟨h1,hL,h2,h3⟩
 ·obtain ⟨o,es,ep,ho,r⟩:=hm
  exact ⟨o,es,ep,k _ o (aN hL) ho,r⟩
 ·refine (I.hok b u e).stay (fun c v hc q=>k c v ?_ q) (fun _ q=>q) fun _ _ q=>q
  rcases hc with z | z
  ·rw [z];exact nit b u e
  ·exact nit c _ z
theorem Inv.tok (I:Inv X pins σ H s) (t:Nat):Inv X pins σ H { s with toks:=t }:=I.un (h':=s.heap) (t':=t) Un.refl I.hok
theorem Inv.kept {t':Nat} (I:Inv X pins σ H s) (k:∀ b u,s.heap.get? b=some u→h'.get? b=some u):Inv X pins σ H { s with heap:=h',toks:=t' }:=I.un (Un.kept k) (I.hok.kept k)
theorem Inv.laid {a:Addr} {o:HO} {t':Nat} (I:Inv X pins σ H s) (k:∀ b u,s.heap.get? b=some u→h'.get? b=some u) (hp:s.heap.objs.size≤a) (new:du X.prog X.w (upd H a o) h' a o) :
  Inv X pins σ (upd H a o) { s with heap:=h',toks:=t' }:=I.un (Un.laid k hp (I.hok.fresh hp)) (I.hok.laid k hp new)
theorem Inv.write {x e:Addr} {o:HO} {t':Nat} (I:Inv X pins σ H s) (mu:Mut (H x)) (he:e=x∨H e=some (.own x)) (k:∀ b u,b≠e→s.heap.get? b=some u→h'.get? b=some u) (heo:∃ u,h'.get? e=some u)
  (new:du X.prog X.w (upd H x o) h' x o):Inv X pins σ (upd H x o) { s with heap:=h',toks:=t' }:=I.un (Un.write mu he k heo) (I.hok.write mu he k heo new)
theorem Inv.weak {σ':List (Option V)} (I:Inv X pins σ H s) (hl:σ'.length=σ.length) (w:∀ (i:Nat) v,σ'[i]? = some (some v)→σ[i]? = some (some v)):Inv X pins σ' H s :=
 ⟨I.ok,I.os,I.bare,I.base,let ⟨m,hn,hl'⟩:=I.loc;⟨m,hn,fun i x v e1 e2 e3=>hl' i x v e1 (w i v e2) e3⟩,I.cell,I.free,I.freeC,I.pin,I.hok,hl.trans I.len⟩
theorem Inv.pins_of {pins':List (Addr×Obj)} (I:Inv X pins σ H s) (h:∀ p∈pins',s.heap.get? p.1=some p.2∧H p.1=none∧p.1≠X.env.locals∧p.1∉X.fs∧∀ v,p.2.data≠.cell v):Inv X pins' σ H s :=
 ⟨I.ok,I.os,I.bare,I.base,I.loc,I.cell,I.free,I.freeC,fun p hp=>(aT.mp hp).elim (fun z=>I.pin p (cz _ z)) (h p),I.hok,I.len⟩
theorem lq {N:List Str} (hN:N.Nodup) {i j:Nat} {x:Str} (a:N[i]? = some x) (b:N[j]? = some x):i=j:=by
 obtain ⟨h1,e1⟩:=ay.mp a
 obtain ⟨h2,e2⟩:=ay.mp b
 exact (List.getElem_inj hN).mp (e1.trans e2.symm)
theorem ma {M:Model} {A:Around} {E:Value→Shared→Prop} {i:Nat} {x:Str} {v:V} {u:Value} {Q:Unit→Shared→Prop} (I:Inv X pins σ H s) (hN:X.N.Nodup) (hi:X.N[i]? = some x) (hx:Loc X.env.scope x) (r:b7 v u)
  (h:∀ s',Inv X pins (σ.set i (some v)) H s'→(∃ a,Heap.SameBut a s.heap s'.heap∧(a=X.env.locals∨X.env.cells.lookup x=some a))→Q () s') (hf:X.fn x=true∨X.env.scope.names.lookup x=some .local:=by first | exact .inl rfl | exact .inr rfl | assumption):wpAny M A (storeName X.env x u) Q E s:=by
 obtain ⟨m,hn,hl⟩:=id I.loc
 have hcls:(X.env.scope.kind==.class||(X.env.scope.kind==.module&&X.env.locals != X.env.globals))=false:=by rw [I.ok.kind];rfl
 have hiσ:i<σ.length:=by rw [I.len];exact (ay.mp hi).1
 have cne:=I.cne
 have tracked:∀ {a:Addr} {h':Heap},(∃ o,s.heap.get? a=some o∧H a=none)→Heap.SameBut a s.heap h'→HOk X.prog X.w H h':=fun {a h'} ha hs b ob e=>by
  obtain ⟨_,_,hfree⟩:=ha
  refine (I.hok b ob e).stay (fun c w' hc q=>(hs.2 c ?_).trans q) (fun _ q=>q) fun _ _ q=>q
  rintro rfl
  rcases hc with rfl | hc
  ·rw [hfree] at e;cases e
  ·rw [hfree] at hc;cases hc
 rcases hx with hk | hk
 ·refine wpAny_storeName_local hk hn (fun h' hn' hs=>?_) hcls
  obtain ⟨oL,_,_,hoL,_⟩:=id hn
  refine h _ ⟨I.ok,I.os,I.bare,⟨fun b o e n hb hx=>?_,fun b o e n hb hx=>?_,I.base.free,fun b o e hx=>?_,I.base.tups,I.base.frzs,I.base.tbls⟩,⟨_,hn',fun j y v' e1 e2 e3=>?_⟩,fun y c e=>?_,I.free,I.freeC,fun p hp=>?_,tracked ⟨oL,hoL,I.free⟩ hs,by simpa using I.len⟩ ⟨_,hs,.inl rfl⟩
  ·exact (hs.2 b (bt (bc (aV e) I.ok.above))).trans (I.base.keep b o e n hb hx)
  ·obtain ⟨sl,e1⟩:=I.base.slot b o e n hb hx
   exact ⟨sl,(hs.2 b (bt (bc (aV e) I.ok.above))).trans e1⟩
  ·obtain ⟨o',e1⟩:=I.base.there b o e hx
   exact ⟨o',(hs.2 b (bt (bc (aV e) I.ok.above))).trans e1⟩
  ·by_cases hj:j=i
   ·subst hj;rw [hi] at e1;cases e1;rw [fR hiσ] at e2;cases e2;exact ⟨u,r,.inl ⟨hk,by simp⟩⟩
   ·rw [gd (aN hj)] at e2;obtain ⟨u',r',q⟩:=hl j y v' e1 e2 e3
    refine ⟨u',r',?_⟩
    rcases q with ⟨k,e⟩ | ⟨k,c,e,z⟩
    ·refine .inl ⟨k,?_⟩
     have:y≠x:=fun e=>hj (lq hN e1 (e▸hi))
     simp [this,e]
    ·exact .inr ⟨k,c,e,z.sameBut hs (cne y c e)⟩
  ·obtain ⟨w',z⟩:=I.cell y c e
   exact ⟨w',z.sameBut hs (cne y c e)⟩
  ·obtain ⟨e,n,ne,nf,d⟩:=I.pin p hp
   exact ⟨(hs.2 p.1 ne).trans e,n,ne,nf,d⟩
 ·have hfn:X.fn x=true:=by
   rcases hf with z | z
   ·exact z
   ·rw [z] at hk;cases hk
  obtain ⟨c,hc⟩:=I.ok.has x (.inl hk)
  obtain ⟨w',z⟩:=I.cell x c hc
  refine wpAny_storeName_cell I.ok.kind hk hc z (fun h' hc' hs=>?_)
  obtain ⟨oc,hoc,hocd⟩:=id z
  refine h { s with heap:=h' } ⟨I.ok,I.os,I.bare,⟨fun b o e n hb hx=>?_,fun b o e n hb hx=>?_,I.base.free,fun b o e hx=>?_,I.base.tups,I.base.frzs,I.base.tbls⟩,⟨m,hn.sameBut hs (aN (cne x c hc)),fun j y v' e1 e2 e3=>?_⟩,fun y c' e=>?_,I.free,I.freeC,fun p hp=>?_,tracked ⟨oc,hoc,I.freeC x c hc⟩ hs,by simpa using I.len⟩ ⟨c,hs,.inr hc⟩
  ·exact (hs.2 b (bt (bc (aV e) (I.ok.cab x c hfn hc)))).trans (I.base.keep b o e n hb hx)
  ·obtain ⟨sl,e1⟩:=I.base.slot b o e n hb hx
   exact ⟨sl,(hs.2 b (bt (bc (aV e) (I.ok.cab x c hfn hc)))).trans e1⟩
  ·obtain ⟨o',e1⟩:=I.base.there b o e hx
   exact ⟨o',(hs.2 b (bt (bc (aV e) (I.ok.cab x c hfn hc)))).trans e1⟩
  ·by_cases hj:j=i
   ·subst hj;rw [hi] at e1;cases e1;rw [fR hiσ] at e2;cases e2;exact ⟨u,r,.inr ⟨.inl hk,c,hc,hc'⟩⟩
   ·rw [gd (aN hj)] at e2;obtain ⟨u',r',q⟩:=hl j y v' e1 e2 e3
    refine ⟨u',r',?_⟩
    rcases q with q | ⟨k,c',e,z'⟩
    ·exact .inl q
    ·refine .inr ⟨k,c',e,z'.sameBut hs ?_⟩
     rintro rfl
     exact hj (lq hN e1 (I.ok.inj _ _ _ e hc▸hi))
  ·by_cases hcc:c'=c
   ·subst hcc;exact ⟨_,hc'⟩
   ·obtain ⟨w2,z2⟩:=I.cell y c' e
    exact ⟨w2,z2.sameBut hs hcc⟩
  ·obtain ⟨e,n,ne,nf,d⟩:=I.pin p hp
   refine ⟨(hs.2 p.1 ?_).trans e,n,ne,nf,d⟩
   intro q;rw [q,hoc] at e;have q':oc=p.2:=aA e
   exact d w' (by rw [←q'];exact hocd)
theorem ju {M:Model} {A:Around} {E:Value→Shared→Prop} {i:Nat} {x:Str} {v:V} {u:Value} {Q:Unit→Shared→Prop} (I:Inv X pins σ H s) (hN:X.N.Nodup) (hi:X.N[i]? = some x) (hx:Loc X.env.scope x) (r:b7 v u)
  (h:∀ s',Inv X pins (σ.set i (some v)) H s'→Q () s') (hf:X.fn x=true∨X.env.scope.names.lookup x=some .local:=by first | exact .inl rfl | exact .inr rfl | assumption):wpAny M A (storeName X.env x u) Q E s :=
 ma I hN hi hx r (fun s' I' _=>h s' I') hf
theorem Inv.call' {s':Shared} {ch:List Addr} (I:Inv X pins σ H s) (ho:s'.os=s.os) (u:Un (frs X.stack) ch H H' s.heap s'.heap) (hok:HOk X.prog X.w H' s'.heap) (hg:AllBare s'.gens)
  (hch:∀ b∈ch,(b∈X.ex∨X.s_0.heap.objs.size≤b)∧b≠X.env.locals∧(∀ x c,X.env.cells.lookup x=some c→c≠b)∧∀ p∈X.pn++pins,p.1≠b):Inv X pins σ H' s':=by
 obtain ⟨h',g',d',t',o'⟩:=s'
 have e:o'=s.os:=ho
 subst e;exact I.call (g':=g') (t':=t') (d':=d') u hok hg hch
end
abbrev XK:=Value→Option Addr→Hp→Prop
abbrev St:=List (Option V)
abbrev VK:=V→Hp→Prop
abbrev TE:=St→Hp→VK→Prop
abbrev TT:=St→Hp→(Bool→Hp→Prop)→Prop
abbrev TA:=St→Hp→(List V→Hp→Prop)→Prop
structure ie where
 nx:St→Hp→Prop
 rt:VK
 bk:St→Hp→Prop:=fun _ _=>False
 ct:St→Hp→Prop:=fun _ _=>False
abbrev TS:=ie→St→Hp→Prop
def EP (X:Cx) (pins:List (Addr×Obj)) (σ:St) (Q:VK) (u:Value) (s':Shared):Prop:=∃ v H',Inv X pins σ H' s'∧b7 v u∧Q v H'
def TP (X:Cx) (pins:List (Addr×Obj)) (σ:St) (Q:Bool→Hp→Prop) (b:Bool) (s':Shared):Prop:=∃ H',Inv X pins σ H' s'∧Q b H'
def AP (X:Cx) (pins:List (Addr×Obj)) (σ:St) (Q:List V→Hp→Prop) (us:List Value) (s':Shared):Prop:=∃ vs H',Inv X pins σ H' s'∧cg vs us∧Q vs H'
def SP (X:Cx) (pins:List (Addr×Obj)) (D:ie) (f:Flow) (s':Shared):Prop :=
 match f with
 | .next=>∃ σ' H',Inv X pins σ' H' s'∧D.nx σ' H'
 | .brk=>∃ σ' H',Inv X pins σ' H' s'∧D.bk σ' H'
 | .cont=>∃ σ' H',Inv X pins σ' H' s'∧D.ct σ' H'
 | .ret u=>∃ v σ' H',Inv X pins σ' H' s'∧b7 v u∧D.rt v H'
def PE (X:Cx) (e:Expr) (t:TE):Prop :=
 ∀ (pins:List (Addr×Obj)) (s:Shared) (σ:St) (H:Hp) (Q:VK),Inv X pins σ H s→t σ H Q→wpAny (model X.prog X.w) X.A (eval e X.env) (EP X pins σ Q) X.xe s
def PT (X:Cx) (e:Expr) (t:TT):Prop :=
 ∀ (pins:List (Addr×Obj)) (s:Shared) (σ:St) (H:Hp) (Q:Bool→Hp→Prop),Inv X pins σ H s→t σ H Q→wpAny (model X.prog X.w) X.A (isTrue e X.env (eval e X.env)) (TP X pins σ Q) X.xe s
def PW (X:Cx) (e:Expr) (t:TT):Prop :=
 ∀ (whole:Sem Value) (pins:List (Addr×Obj)) (s:Shared) (σ:St) (H:Hp) (Q:Bool→Hp→Prop),Inv X pins σ H s→t σ H Q→wpAny (model X.prog X.w) X.A (isTrue e X.env whole) (TP X pins σ Q) X.xe s
theorem PW.pt {X:Cx} {e:Expr} {t:TT} (h:PW X e t):PT X e t:=h _
def PA (X:Cx) (es:List Expr) (t:TA):Prop :=
 ∀ (pos:Pos) (pins:List (Addr×Obj)) (s:Shared) (σ:St) (H:Hp) (Q:List V→Hp→Prop),Inv X pins σ H s→t σ H Q→wpAny (model X.prog X.w) X.A (spliced (backTo pos (starEach es X.env))) (AP X pins σ Q) X.xe s
def PS (X:Cx) (st:Stmt) (t:TS):Prop :=
 ∀ (pins:List (Addr×Obj)) (s:Shared) (σ:St) (H:Hp) (D:ie),Inv X pins σ H s→t D σ H→wpAny (model X.prog X.w) X.A (exec st X.env) (SP X pins D) X.xe s
def PSs (X:Cx) (st:List Stmt) (t:TS):Prop :=
 ∀ (pins:List (Addr×Obj)) (s:Shared) (σ:St) (H:Hp) (D:ie),Inv X pins σ H s→t D σ H→wpAny (model X.prog X.w) X.A (execs st X.env) (SP X pins D) X.xe s
theorem thn {α:Type} {t:Sem α} {Q Q':α→Shared→Prop} {M:Model} {A:Around} {E:Value→Shared→Prop} {s:Shared} (h:wpAny M A t Q E s) (hQ:∀ a s,Q a s→Q' a s):wpAny M A t Q' E s:=wpAny_mono h hQ fun _ _ x=>x
section
variable {X:Cx}
def pU (i:Nat):TE:=fun σ H Q=>∃ v,σ[i]? = some (some v)∧Q v H
def tC (v:V):TE:=fun _ H Q=>Q v H
theorem yo {i:Nat} {x:Str} {pos:Pos} (hN:X.N[i]? = some x) (hv:Vis X.env.scope x) (hd:(x==("__debug__" : Str))=false:=by decide) (hcd:(x==("__classdict__" : Str))=false:=by decide):PE X (.Name x pos) (pU i):=by
 intro pins s σ H Q I h;obtain ⟨v,e,h⟩:=h
 obtain ⟨m,hn,hl⟩:=I.loc
 obtain ⟨u,r,l⟩:=hl i x v hN e hv
 have fin:EP X pins σ Q u s:=⟨v,H,I,r,h⟩
 rcases l with ⟨hk,hm⟩ | ⟨hk,c,hc,hcell⟩
 ·exact wpAny_Name (wpAny_loadName_local I.ok.kind hk hn hm fin) hd
 ·rcases hk with hk | hk
  ·exact wpAny_Name (wpAny_loadName_cell I.ok.kind hk hc hcell fin) hd
  ·exact wpAny_Name (wpAny_loadName_free I.ok.kind hk hc hcell fin hcd) hd
theorem bh {i j pos}:PE X (.Constant (.int i) j pos) (tC (.int i)):=fun _ _ _ H _ I h=>wpAny_Constant_int ⟨.int i,H,I.tok _,⟨_,rfl⟩,h⟩
theorem pe_bl {b j pos}:PE X (.Constant (.bool b) j pos) (tC (.bl b)):=fun _ _ _ H _ I h=>Constant_bool ⟨.bl b,H,I,rfl,h⟩
theorem jO {j pos}:PE X (.Constant .none j pos) (tC .non):=fun _ _ _ H _ I h=>Constant_none ⟨.non,H,I,rfl,h⟩
theorem fX {x j pos}:PE X (.Constant (.str x) j pos) (tC (.str x)):=fun _ _ _ H _ I h=>Calls.Constant_str ⟨.str x,H,I.tok _,⟨_,rfl⟩,h⟩
def Gl (X:Cx) (x:Str):Prop:=X.env.kindOf x=some .globalImplicit
theorem gL {E:Value→Shared→Prop} {pins:List (Addr×Obj)} {s:Shared} {σ:St} {H:Hp} {x:Str} {u:Value} {pos:Pos} {Q:Value→Shared→Prop} (I:Inv X pins σ H s) (hg:Gl X x) (hm:X.mg x=some u) (h:Q u s)
  (hd:(x==("__debug__" : Str))=false:=by decide):wpAny (model X.prog X.w) X.A (eval (.Name x pos) X.env) Q E s :=
 Calls.Name_function_global I.ok.kind hg (Calls.loadGlobal_global (by rw [I.ok.glob];exact I.mod.glob.keeps I.bk) hm h) hd
theorem iQ {E:Value→Shared→Prop} {pins:List (Addr×Obj)} {s:Shared} {σ:St} {H:Hp} {x:Str} {u:Value} {pos:Pos} {Q:Value→Shared→Prop} (I:Inv X pins σ H s) (hg:Gl X x) (hm:X.mg x=none) (hv:bootBuiltins x=some u) (h:Q u s)
  (hn:x≠"__name__":=by decide) (hd:(x==("__debug__" : Str))=false:=by decide):wpAny (model X.prog X.w) X.A (eval (.Name x pos) X.env) Q E s:=by
 obtain ⟨mb,h1,h2⟩:=I.mod.blt
 exact Calls.Name_function_global I.ok.kind hg (Calls.loadGlobal_builtin (by rw [I.ok.glob];exact I.mod.glob.keeps I.bk) hm (by rw [I.ok.blt];exact h1.keeps I.bk) ((h2 x hn).trans hv) h) hd
theorem kC {x:Str} {v:V} {u:Value} {pos:Pos} (hg:Gl X x) (hm:X.mg x=some u) (r:b7 v u) (hd:(x==("__debug__" : Str))=false:=by decide):PE X (.Name x pos) (tC v) :=
 fun _ _ _ H _ I h=>gL I hg hm ⟨v,H,I,r,h⟩ hd
variable {a b:Expr} {ta tb:TE} {pos:Pos}
def PC (X:Cx) (op:CmpOp) (a b:Expr) (t:TE):Prop :=
 ∀ (pins:List (Addr×Obj)) (s:Shared) (σ:St) (H:Hp) (Q:VK),Inv X pins σ H s→t σ H Q →
  wpAny (model X.prog X.w) X.A (eval a X.env) (fun v s₁=>wpAny (model X.prog X.w) X.A (eval b X.env) (fun u s₂=>wpAny (model X.prog X.w) X.A (compareOp op v u) (EP X pins σ Q) X.xe s₂) X.xe s₁) X.xe s
theorem uh (b:Expr) {op:CmpOp} (h:op≠.In) (h2:op≠.NotIn):behindInMarks op b=false:=by
 have e1:(op==CmpOp.In)=false:=by cases op<;>first | rfl | exact aP rfl h
 have e2:(op==CmpOp.NotIn)=false:=by cases op<;>first | rfl | exact aP rfl h2
 cases b<;>simp [behindInMarks,e1,e2]
def tNotN (ta:TE):TE:=fun σ H Q=>ta σ H fun x H1=>Q (.bl (!decide (x = .non))) H1
theorem b7.none_iff {x:V} {v:Value} (r:b7 x v):(v==Value.none)=decide (x = .non):=by
 cases x with
 | non=>cases r;rfl
 | bl _=>cases r;rfl
 | int _=>obtain ⟨t,rfl⟩:=r;rfl
 | str _=>obtain ⟨t,rfl⟩:=r;rfl
 | byt _=>obtain ⟨t,rfl⟩:=r;rfl
 | flt _=>obtain ⟨t,rfl⟩:=r;rfl
 | ref _=>cases r;rfl
 | ty _=>cases r;rfl
theorem vJ {j pos'} (ha:PE X a ta):PC X .IsNot a (.Constant .none j pos') (tNotN ta):=by
 intro pins s σ H Q I h;refine thn (ha pins s σ H _ I h) fun v s1 ⟨x,H1,I1,r1,q1⟩=>?_
 exact Constant_none (isnot_none_gen ⟨.bl _,H1,I1,by rw [r1.none_iff];rfl,q1⟩)
def tB (t:TE):TT:=fun σ H Q=>t σ H fun x H1=>∃ c,x = .bl c∧Q c H1
theorem tX {op:CmpOp} {t:TE} (h:PC X op a b t) (h1:behindInMarks op b=false:=by first | exact uh _ (by decide) (by decide) | rfl):PT X (.Compare a [op] [b] pos) (tB t):=by
 intro pins s σ H Q I hw;refine wpAny_isTrue_Compare1 (thn (h pins s σ H _ I hw) fun v s1 h1=>thn h1 fun u s2 h2=>thn h2 fun c s3 ⟨x,H1,I1,r1,q1⟩=>?_) h1
 obtain ⟨d,rfl,q⟩:=q1
 cases r1;exact wpAny_truthy_bool ⟨H1,I1,q⟩
variable {tA tB':TT} {rest:List Expr}
def xp (t u:TT):TT:=fun σ H Q=>t σ H fun c H1=>if c=true then u σ H1 Q else Q false H1
def tOr (t u:TT):TT:=fun σ H Q=>t σ H fun c H1=>if c=true then Q true H1 else u σ H1 Q
def tNot (t:TT):TT:=fun σ H Q=>t σ H fun c H1=>Q (!c) H1
theorem i8 (ha:PT X a tA):PW X (.BoolOp .And [a] pos) tA:=by
 intro wh pins s σ H Q I h;refine isTrue_and (thn (ha pins s σ H Q I h) fun c s1 e=>?_)
 cases c with
 | true=>exact isTrue_and_nil e
 | false=>exact e
theorem gX (ha:PT X a tA):PW X (.BoolOp .Or [a] pos) tA:=by
 intro wh pins s σ H Q I h;refine isTrue_or (thn (ha pins s σ H Q I h) fun c s1 e=>?_)
 cases c with
 | false=>exact isTrue_or_nil e
 | true=>exact e
theorem jM (ha:PT X a tA) (hb:PW X (.BoolOp .And (b::rest) pos) tB'):PW X (.BoolOp .And (a::b::rest) pos) (xp tA tB'):=by
 intro wh pins s σ H Q I h;refine isTrue_and (thn (ha pins s σ H _ I h) fun c s1 ⟨H1,I1,q1⟩=>?_)
 cases c with
 | true=>exact hb wh pins s1 σ H1 Q I1 q1
 | false=>exact ⟨H1,I1,q1⟩
theorem je (ha:PT X a tA) (hb:PW X (.BoolOp .Or (b::rest) pos) tB'):PW X (.BoolOp .Or (a::b::rest) pos) (tOr tA tB'):=by
 intro wh pins s σ H Q I h;refine isTrue_or (thn (ha pins s σ H _ I h) fun c s1 ⟨H1,I1,q1⟩=>?_)
 cases c with
 | true=>exact ⟨H1,I1,q1⟩
 | false=>exact hb wh pins s1 σ H1 Q I1 q1
theorem yj (ha:PT X a tA):PT X (.UnaryOp .Not a pos) (tNot tA):=by
 intro pins s σ H Q I h;exact isTrue_not (ha pins s σ H (fun c H1=>Q (!c) H1) I h)
def tAndV (ta tb:TE):TE:=fun σ H Q=>ta σ H fun x H1=>∃ c,x = .bl c∧if c=true then tb σ H1 Q else Q (.bl false) H1
theorem yp {op} {t:TE} (h:PE X a t):PE X (.BoolOp op [a] pos) t:=fun pins s σ H Q I hw=>BoolOp_one (h pins s σ H Q I hw)
theorem yq (ha:PE X a ta) (hb:PE X (.BoolOp .And (b::rest) pos) tb):PE X (.BoolOp .And (a::b::rest) pos) (tAndV ta tb):=by
 intro pins s σ H Q I h;refine BoolOp_and (thn (ha pins s σ H _ I h) fun v s1 ⟨x,H1,I1,r1,q1⟩=>?_)
 obtain ⟨c,rfl,q1⟩:=q1
 cases r1;refine wpAny_truthy_bool ?_
 cases c with
 | true=>exact hb pins s1 σ H1 Q I1 q1
 | false=>exact ⟨.bl false,H1,I1,rfl,q1⟩
def tIf (t:TT) (ta tb:TE):TE:=fun σ H Q=>t σ H fun c H1=>if c=true then ta σ H1 Q else tb σ H1 Q
theorem oS {c:Expr} (hc:PT X c tA) (ha:PE X a ta) (hb:PE X b tb):PE X (.IfExp c a b pos) (tIf tA ta tb):=by
 intro pins s σ H Q I h;refine wpAny_IfExp (thn (hc pins s σ H _ I h) fun d s1 ⟨H1,I1,q1⟩=>?_)
 cases d with
 | true=>exact ha pins s1 σ H1 Q I1 q1
 | false=>exact hb pins s1 σ H1 Q I1 q1
end
def SqL (K:Fg_) (H:Hp) (a:Addr) (xs:List V):Prop :=
 Rd H a (.lst xs) ∨
  ∃ (o:Obj) (its:Array Value) (n:Nat),K.lookup a=some o∧o.cls = .type "list"∧o.dict=none∧o.data = .seq its n∧its.size≤sizeLine∧cg xs its.toList
def SqT (K:Fg_) (H:Hp) (a:Addr) (xs:List V):Prop :=
 Rd H a (.tup xs) ∨
  ∃ (o:Obj) (its:Array Value) (n:Nat),K.lookup a=some o∧o.cls = .type "tuple"∧o.data = .seq its n∧its.size≤sizeLine∧cg xs its.toList
def absV:Value→Option V
 | .none=>some .non
 | .bool b=>some (.bl b)
 | .int i _=>some (.int i)
 | .str x _=>some (.str x)
 | .bytes b _=>some (.byt b)
 | .float b _=>some (.flt b)
 | .ref a=>some (.ref a)
 | .type n=>some (.ty n)
 | _=>none
theorem b7.abs {x:V} {u:Value} (r:b7 x u):absV u=some x:=by
 cases x with
 | non=>cases r;rfl
 | bl _=>cases r;rfl
 | int _=>obtain ⟨t,rfl⟩:=r;rfl
 | str _=>obtain ⟨t,rfl⟩:=r;rfl
 | byt _=>obtain ⟨t,rfl⟩:=r;rfl
 | flt _=>obtain ⟨t,rfl⟩:=r;rfl
 | ref _=>cases r;rfl
 | ty _=>cases r;rfl
theorem b7.inj {x y:V} {u:Value} (r:b7 x u) (q:b7 y u):x=y:=aA (r.abs.symm.trans q.abs)
theorem cg.inj:∀ {xs ys:List V} {us:List Value},cg xs us→cg ys us→xs=ys
 | _,_,_,.nil,.nil=>rfl
 | _,_,_,.cons r t,.cons r' t'=>by rw [r.inj r',cg.inj t t']
section
variable {X:Cx} {pins:List (Addr×Obj)} {σ:St} {H:Hp} {s:Shared} {a:Addr} {xs ys:List V}
theorem SqL.of {K:Fg_} (h:H a=some (.lst xs)):SqL K H a xs:=.inl (.inl h)
theorem SqT.of {K:Fg_} (h:H a=some (.tup xs)):SqT K H a xs:=.inl (.inl h)
theorem Inv.list (I:Inv X pins σ H s) (h:SqL X.K H a xs):∃ its:List Value,cg xs its∧PlainL s.heap a its.toArray∧xs.length≤sizeLine:=by
 rcases h with h | ⟨o,its,n,hk,hc,hd,hs,hz,r⟩
 ·obtain ⟨z,its,n,r,e⟩:=h.ok I.hok
  exact ⟨its,r,⟨_,n,e,rfl,rfl,rfl⟩,z⟩
 ·refine ⟨its.toList,r,⟨o,n,I.kIn a o hk,hc,hd,by simpa using hs⟩,?_⟩
  have e:=r.length
  simp only [cD] at e;omega
theorem Inv.tuple (I:Inv X pins σ H s) (h:SqT X.K H a xs):∃ its:List Value,cg xs its∧IsTup s.heap a its.toArray∧xs.length≤sizeLine:=by
 rcases h with h | ⟨o,its,n,hk,hc,hs,hz,r⟩
 ·obtain ⟨z,its,r,p⟩:=h.ok I.hok
  exact ⟨its,r,p,z⟩
 ·refine ⟨its.toList,r,⟨o,I.kIn a o hk,hc,n,by simpa using hs⟩,?_⟩
  have e:=r.length
  simp only [cD] at e;omega
theorem Inv.list_inj (I:Inv X pins σ H s) (h:SqL X.K H a xs) (h':SqL X.K H a ys):xs=ys:=by
 obtain ⟨its,r,⟨o,n,e,_,_,d⟩,_⟩:=I.list h
 obtain ⟨its',r',⟨o',n',e',_,_,d'⟩,_⟩:=I.list h'
 rw [e] at e';cases e'
 rw [d] at d'
 injection d' with d1 _
 have:its=its':=by simpa using congrArg Array.toList d1
 subst this;exact r.inj r'
theorem Inv.tuple_inj (I:Inv X pins σ H s) (h:SqT X.K H a xs) (h':SqT X.K H a ys):xs=ys:=by
 obtain ⟨its,r,⟨o,e,_,n,d⟩,_⟩:=I.tuple h
 obtain ⟨its',r',⟨o',e',_,n',d'⟩,_⟩:=I.tuple h'
 rw [e] at e';cases e'
 rw [d] at d'
 injection d' with d1 _
 have:its=its':=by simpa using congrArg Array.toList d1
 subst this;exact r.inj r'
end
abbrev Cx.wish (X:Cx) (E:Value→Shared→Prop):Cx:={ X with xe:=E }
abbrev Cx.nox (X:Cx):Cx:=X.wish fun _ _=>False
theorem Cx.Ok.wish {X:Cx} (ok:X.Ok) (E:Value→Shared→Prop):(X.wish E).Ok :=
 ⟨ok.mod,ok.kind,ok.glob,ok.blt,ok.above,ok.inj,ok.has,ok.cab,ok.hd,ok.frames,ok.stk,ok.exf,ok.bs,ok.bsz,ok.noex,ok.exfs,ok.funs,ok.frf⟩
theorem Cx.Ok.unwish {X:Cx} {E:Value→Shared→Prop} (ok:(X.wish E).Ok):X.Ok :=
 ⟨ok.mod,ok.kind,ok.glob,ok.blt,ok.above,ok.inj,ok.has,ok.cab,ok.hd,ok.frames,ok.stk,ok.exf,ok.bs,ok.bsz,ok.noex,ok.exfs,ok.funs,ok.frf⟩
section
variable {X:Cx} {pins:List (Addr×Obj)} {σ:St} {H:Hp} {s:Shared} {E:Value→Shared→Prop}
theorem Inv.wish (I:Inv X pins σ H s) (E:Value→Shared→Prop):Inv (X.wish E) pins σ H s:=⟨I.ok.wish E,I.os,I.bare,I.base,I.loc,I.cell,I.free,I.freeC,I.pin,I.hok,I.len⟩
theorem Inv.unwish (I:Inv (X.wish E) pins σ H s):Inv X pins σ H s:=⟨I.ok.unwish,I.os,I.bare,I.base,I.loc,I.cell,I.free,I.freeC,I.pin,I.hok,I.len⟩
theorem SP.unwish {D:ie} {f:Flow} {s':Shared} (h:SP (X.wish E) pins D f s'):SP X pins D f s':=by
 cases f with
 | next=>obtain ⟨σ',H',I,q⟩:=h;exact ⟨σ',H',I.unwish,q⟩
 | brk=>obtain ⟨σ',H',I,q⟩:=h;exact ⟨σ',H',I.unwish,q⟩
 | cont=>obtain ⟨σ',H',I,q⟩:=h;exact ⟨σ',H',I.unwish,q⟩
 | ret u=>obtain ⟨v,σ',H',I,r,q⟩:=h;exact ⟨v,σ',H',I.unwish,r,q⟩
theorem PSs.nox {st:List Stmt} {t:TS} (h:PSs X.nox st t):PSs X st t:=fun pins s σ H D I hw =>
 wpAny_mono (h pins s σ H D (I.wish _) hw) (fun _ _ q=>q.unwish) fun _ _ z=>False.elim z
end
section
variable {X:Cx} {st:Stmt} {rest:List Stmt} {t u:TS} {e:Expr} {te:TE} {pos:Pos}
def tNext:TS:=fun D σ H=>D.nx σ H
def w8 (t u:TS):TS:=fun D σ H=>t { D with nx:=u D } σ H
theorem bF:PSs X [] tNext:=fun _ _ σ H _ I h=>wpAny_execs_nil ⟨σ,H,I,h⟩
theorem az (h1:PS X st t) (h2:PSs X rest u):PSs X (st::rest) (w8 t u):=by
 intro pins s σ H D I h;refine wpAny_execs_cons (thn (h1 pins s σ H { D with nx:=u D } I h) fun f s1 q=>?_)
 cases f with
 | next =>
  obtain ⟨σ',H',I',q⟩:=q
  exact h2 pins s1 σ' H' D I' q
 | ret v=>exact q
 | brk=>exact q
 | cont=>exact q
theorem aH (h1:PS X st t):PSs X [st] t:=by
 intro pins s σ H D I h;refine wpAny_execs_cons (thn (h1 pins s σ H D I h) fun f s1 q=>?_)
 cases f with
 | next=>exact wpAny_execs_nil q
 | ret v=>exact q
 | brk=>exact q
 | cont=>exact q
theorem Inv.quiet {pins:List (Addr×Obj)} {σ:St} {H:Hp} {s:Shared} (I:Inv X pins σ H s):interactive X.env=false:=by simp [interactive,I.ok.kind]
def tDrop (te:TE):TS:=fun D σ H=>te σ H fun _ H1=>D.nx σ H1
theorem b6 (he:PE X e te) (hs:swapsWith e none pos.line X.env=pure false:=by rfl):PS X (.Expr e pos) (tDrop te):=by
 intro pins s σ H D I h;exact wpAny_Expr_any (thn (he pins s σ H _ I h) fun v s1 ⟨x,H1,I1,r1,q1⟩=>⟨σ,H1,I1,q1⟩) I.quiet hs
def tRet (te:TE):TS:=fun D σ H=>te σ H D.rt
theorem b9 (he:PE X e te):PS X (.Return (some e) pos) (tRet te):=by
 intro pins s σ H D I h;exact wpAny_Return_some (thn (he pins s σ H _ I h) fun v s1 ⟨x,H1,I1,r1,q1⟩=>⟨x,σ,H1,I1,r1,q1⟩)
def tRetN:TS:=fun D _ H=>D.rt .non H
theorem vG:PS X (.Return none pos) tRetN:=fun _ _ σ H _ I h=>wpAny_Return_none ⟨.non,σ,H,I,rfl,h⟩
def xg (c:TT) (t u:TS):TS:=fun D σ H=>c σ H fun b H1=>if b=true then t D σ H1 else u D σ H1
theorem bY {c:Expr} {a b:List Stmt} {tc:TT} (hc:PT X c tc) (ha:PSs X a t) (hb:PSs X b u):PS X (.If c a b pos) (xg tc t u):=by
 intro pins s σ H D I h;refine wpAny_If (thn (hc pins s σ H _ I h) fun d s1 ⟨H1,I1,q1⟩=>?_)
 cases d with
 | true=>exact ha pins s1 σ H1 D I1 q1
 | false=>exact hb pins s1 σ H1 D I1 q1
end
abbrev TG:=V→St→Hp→(St→Hp→Prop)→Prop
abbrev TGs:=List V→St→Hp→(St→Hp→Prop)→Prop
def PG (X:Cx) (target:Expr) (t:TG):Prop :=
 ∀ (pins:List (Addr×Obj)) (s:Shared) (σ:St) (H:Hp) (v:V) (u:Value) (Q:St→Hp→Prop),Inv X pins σ H s→b7 v u→t v σ H Q →
  wpAny (model X.prog X.w) X.A (assign target X.env u) (fun _ s'=>∃ σ' H',Inv X pins σ' H' s'∧Q σ' H') X.xe s
def PGs (X:Cx) (ts:List Expr) (t:TGs):Prop :=
 ∀ (pins:List (Addr×Obj)) (s:Shared) (σ:St) (H:Hp) (vs:List V) (us:List Value) (Q:St→Hp→Prop),Inv X pins σ H s→cg vs us→t vs σ H Q →
  wpAny (model X.prog X.w) X.A (assignInOrder ((assignEach ts X.env).map (·.2)) us) (fun _ s'=>∃ σ' H',Inv X pins σ' H' s'∧Q σ' H') X.xe s
abbrev uX:=V→V→V→Hp→(Hp→Prop)→Prop
def yV (X:Cx) (t:uX):Prop :=
 ∀ (pins:List (Addr×Obj)) (s:Shared) (σ:St) (H:Hp) (o i v:V) (ov iv u:Value) (Q:Hp→Prop),Inv X pins σ H s→b7 o ov→b7 i iv→b7 v u→t o i v H Q →
  wpAny (model X.prog X.w) X.A (setItem ov iv u) (fun _ s'=>∃ H',Inv X pins σ H' s'∧Q H') X.xe s
abbrev TIp:=V→V→Hp→VK→Prop
def PIp (X:Cx) (op:Operator) (t:TIp):Prop :=
 ∀ (pins:List (Addr×Obj)) (s:Shared) (σ:St) (H:Hp) (x y:V) (v u:Value) (Q:VK),Inv X pins σ H s→b7 x v→b7 y u→t x y H Q →
  wpAny (model X.prog X.w) X.A (inplaceOp op v u) (EP X pins σ Q) X.xe s
section
variable {X:Cx} {pos:Pos}
def lH (i:Nat):TG:=fun v σ H Q=>Q (σ.set i (some v)) H
theorem cy {i:Nat} {x:Str} (hN:X.N.Nodup) (hi:X.N[i]? = some x) (hx:Loc X.env.scope x) (hf:X.fn x=true∨X.env.scope.names.lookup x=some .local:=by first | exact .inl rfl | exact .inr rfl | assumption):PG X (.Name x pos) (lH i):=by
 intro pins s σ H v u Q I r h;exact wpAny_assign_Name (ju I hN hi hx r (fun s' I'=>⟨_,H,I',h⟩) hf)
def gNil:TGs:=fun vs σ H Q=>vs=[]∧Q σ H
def gCons (t:TG) (u:TGs):TGs:=fun vs σ H Q=>∃ v r,vs=v::r∧t v σ H fun σ' H'=>u r σ' H' Q
theorem nq:PGs X [] gNil:=by
 intro pins s σ H vs us Q I r h;obtain ⟨e,h⟩:=h
 subst e;cases r;exact assignInOrder_nil ⟨σ,H,I,h⟩
theorem g6 {e:Expr} {es:List Expr} {t:TG} {u:TGs} (h1:PG X e t) (h2:PGs X es u)
  (hs:(assignEach (e::es) X.env).map (·.2)=assign e X.env::(assignEach es X.env).map (·.2):=by rfl):PGs X (e::es) (gCons t u):=by
 intro pins s σ H vs us Q I r h;obtain ⟨v,vr,e1,h⟩:=h
 subst e1;cases r with
 | cons r rr =>
  rw [hs];refine assignInOrder_cons (thn (h1 pins s σ H _ _ _ I r h) fun _ s1 ⟨σ1,H1,I1,q1⟩=>?_)
  exact h2 pins s1 σ1 H1 _ _ Q I1 rr q1
def gTup (K:Fg_) (n:Nat) (t:TGs):TG:=fun v σ H Q=>∃ a xs,v = .ref a∧SqT K H a xs∧xs.length=n∧t xs σ H Q
theorem p9 {es:List Expr} {k:Nat} {t:TGs} {n:Nat} (hc:X.calm=true) (h:PGs X es t)
  (hn:(assignEach es X.env).length=n:=by rfl) (hst:(assignEach es X.env).findIdx? (·.1)=none:=by rfl):PG X (.Tuple es k pos) (gTup X.K n t):=by
 intro pins s σ H v u Q I r hw;obtain ⟨a,xs,e1,hq,hl,hw⟩:=hw
 subst e1;cases r;obtain ⟨its,rv,ht,hz⟩:=I.tuple hq
 refine assign_Tuple_tuple (I.ok.hd hc) ht (by simp [hn,←hl,rv.length]) hst fun h' hx=>?_
 have I1:Inv X pins σ H { s with heap:=h' }:=I.kept (t':=s.toks) fun b o e=>hx b o (bt (aV e)) e
 exact h pins _ σ H xs _ Q I1 (by simpa using rv) hw
def gSub (to ti:TE) (t:uX):TG:=fun v σ H Q=>to σ H fun o H1=>ti σ H1 fun i H2=>t o i v H2 fun H3=>Q σ H3
theorem qa {o i:Expr} {to ti:TE} {t:uX} (ho:PE X o to) (hi:PE X i ti) (hs:yV X t)
  (ha:∀ v,assign (.Subscript o i pos) X.env v=(do
   let ov ←holding [v] (eval o X.env)
   let iv ←holding [v,ov] (eval i X.env)
   standAt pos
   holding [v,ov,iv] (setItem ov iv v)
   release [v,ov,iv] []):=by intro _;rfl):PG X (.Subscript o i pos) (gSub to ti t):=by
 intro pins s σ H v u Q I r h;rw [ha];refine ag (wpAny_holding (thn (ho pins s σ H _ I h) fun ov s1 ⟨x,H1,I1,r1,q1⟩=>?_))
 refine ag (wpAny_holding (thn (hi pins s1 σ H1 _ I1 q1) fun iv s2 ⟨y,H2,I2,r2,q2⟩=>?_))
 refine ag (wpAny_standAt (ag (wpAny_holding (thn (hs pins s2 σ H2 x y v ov iv u _ I2 r1 r2 r q2) fun _ s3 ⟨H3,I3,q3⟩=>?_))))
 exact wpAny_release ⟨σ,H3,I3,q3⟩
def xo (te:TE) (g:TG):TS:=fun D σ H=>te σ H fun x H1=>g x σ H1 D.nx
theorem p8 {tg e:Expr} {te:TE} {g:TG} (he:PE X e te) (hg:PG X tg g) (hs:swapsWithSole [tg] e pos.line X.env=pure false:=by rfl) (hw:swappedStores [tg] e X.env=pure none:=by rfl)
  (h1:(assignEach [tg] X.env).map (·.2)=[assign tg X.env]:=by rfl):PS X (.Assign [tg] e pos) (xo te g):=by
 intro pins s σ H D I h;refine wpAny_Assign_stores (thn (he pins s σ H _ I h) fun v s1 ⟨x,H1,I1,r1,q1⟩=>?_) hs hw
 rw [h1];exact thn (hg pins s1 σ H1 x v _ I1 r1 q1) fun _ s2 q=>q
theorem br {i:Nat} {x:Str} {e:Expr} {te:TE} {pos':Pos} (hN:X.N.Nodup) (hi:X.N[i]? = some x) (hx:Loc X.env.scope x) (he:PE X e te) (hs:swapsWith e (some (.Name x pos')) pos.line X.env=pure false:=by rfl) (hf:X.fn x=true∨X.env.scope.names.lookup x=some .local:=by first | exact .inl rfl | exact .inr rfl | assumption) :
  PS X (.Assign [.Name x pos'] e pos) (xo te (lH i)):=by
 intro pins s σ H D I h;refine wpAny_Assign_Name (thn (he pins s σ H _ I h) fun v s1 ⟨y,H1,I1,r1,q1⟩=>?_) hs
 exact ju I1 hN hi hx r1 (fun s2 I2=>⟨_,H1,I2,q1⟩) hf
def tAug (i:Nat) (te:TE) (ti:TIp):TS:=fun D σ H=>∃ x,σ[i]? = some (some x)∧te σ H fun y H1=>ti x y H1 fun z H2=>D.nx (σ.set i (some z)) H2
theorem p7 {i:Nat} {x:Str} {e:Expr} {te:TE} {op:Operator} {ti:TIp} {pos':Pos} (hN:X.N.Nodup) (hi:X.N[i]? = some x) (hx:Loc X.env.scope x) (he:PE X e te) (ho:PIp X op ti) (hf:X.fn x=true∨X.env.scope.names.lookup x=some .local:=by first | exact .inl rfl | exact .inr rfl | assumption) :
  PS X (.AugAssign (.Name x pos') op e pos) (tAug i te ti):=by
 intro pins s σ H D I h;obtain ⟨v,e1,h⟩:=h
 obtain ⟨m,hn,hl⟩:=I.loc
 have vis:Vis X.env.scope x:=by rcases hx with k | k;exact .inl k;exact .inr (.inl k)
 obtain ⟨u,r,l⟩:=hl i x v hi e1 vis
 refine wpAny_AugAssign_Name ?_
 have go:wpAny (model X.prog X.w) X.A (eval e X.env) (fun w s₂=>wpAny (model X.prog X.w) X.A (inplaceOp op u w) (fun r s₃=>wpAny (model X.prog X.w) X.A (storeName X.env x r) (fun _=>SP X pins D .next) X.xe s₃) X.xe s₂) X.xe s:=by
  refine thn (he pins s σ H _ I h) fun w s1 ⟨y,H1,I1,r1,q1⟩=>?_
  refine thn (ho pins s1 σ H1 v y u w _ I1 r r1 q1) fun z s2 ⟨zv,H2,I2,r2,q2⟩=>?_
  exact ju I2 hN hi hx r2 (fun s3 I3=>⟨_,H2,I3,q2⟩) hf
 rcases l with ⟨hk,hm⟩ | ⟨hk,c,hc,hcell⟩
 ·exact wpAny_loadName_local I.ok.kind hk hn hm go
 ·rcases hk with hk | hk
  ·exact wpAny_loadName_cell I.ok.kind hk hc hcell go
  ·rcases hx with k | k
   ·have:X.env.scope.names.lookup x=some .free:=hk
    rw [k] at this;cases this
   ·have:X.env.scope.names.lookup x=some .free:=hk
    rw [k] at this;cases this
def tAugS (to ti te:TE) (tget:V→V→Hp→VK→Prop) (tip:TIp) (tset:uX):TS:=fun D σ H=>to σ H fun o H1=>ti σ H1 fun i H2=>tget o i H2 fun x H3=>te σ H3 fun y H4=>tip x y H4 fun z H5=>tset o i z H5 fun H6=>D.nx σ H6
def PGet (X:Cx) (t:V→V→Hp→VK→Prop):Prop :=
 ∀ (pins:List (Addr×Obj)) (s:Shared) (σ:St) (H:Hp) (o i:V) (ov iv:Value) (Q:VK),Inv X pins σ H s→b7 o ov→b7 i iv→t o i H Q →
  wpAny (model X.prog X.w) X.A (getItem ov iv) (EP X pins σ Q) X.xe s
theorem vH {o i e:Expr} {to ti te:TE} {tget:V→V→Hp→VK→Prop} {tip:TIp} {tset:uX} {op:Operator} {tpos:Pos} (ho:PE X o to) (hi:PE X i ti) (hg:PGet X tget) (he:PE X e te) (hp:PIp X op tip) (hs:yV X tset)
  (ha:∀ ov iv new,augStore i ov iv new=(do holding [new,ov,iv] (setItem ov iv new);release [new,ov,iv] [];pure .next):=by intros;rfl):PS X (.AugAssign (.Subscript o i tpos) op e pos) (tAugS to ti te tget tip tset):=by
 intro pins s σ H D I h;refine wpAny_AugAssign_SubscriptAny (thn (ho pins s σ H _ I h) fun ov s1 ⟨x1,H1,I1,r1,q1⟩=>?_) ha
 refine thn (hi pins s1 σ H1 _ I1 q1) fun iv s2 ⟨x2,H2,I2,r2,q2⟩=>?_
 refine thn (hg pins s2 σ H2 x1 x2 ov iv _ I2 r1 r2 q2) fun old s3 ⟨x3,H3,I3,r3,q3⟩=>?_
 refine thn (he pins s3 σ H3 _ I3 q3) fun v s4 ⟨x4,H4,I4,r4,q4⟩=>?_
 refine thn (hp pins s4 σ H4 x3 x4 old v _ I4 r3 r4 q4) fun new s5 ⟨x5,H5,I5,r5,q5⟩=>?_
 exact thn (hs pins s5 σ H5 x1 x2 x5 ov iv new _ I5 r1 r2 r5 q5) fun _ s6 ⟨H6,I6,q6⟩=>⟨σ,H6,I6,q6⟩
def ipI (f:Int→Int→Int):TIp:=fun x y H Q=>∃ i j,x = .int i∧y = .int j∧Q (.int (f i j)) H
theorem yI:PIp X .Add (ipI fun i j=>i+j):=by
 intro pins s σ H x y v u Q I r1 r2 h;obtain ⟨i,j,e1,e2,q⟩:=h
 subst e1;subst e2;obtain ⟨t,rfl⟩:=r1
 obtain ⟨t',rfl⟩:=r2
 exact iadd_int ⟨.int _,H,I.tok _,⟨_,rfl⟩,q⟩
end
section
variable {X:Cx} {pos:Pos}
def wZ (c:TT) (tb:TS):TS:=fun D σ H=>∃ W:Nat→St→Hp→Prop,(∃ m,W m σ H)∧∀ m σ H,W m σ H →
 c σ H fun b H1=>if b=true then ∃ N:St→Hp→Prop,(∀ σ' H',N σ' H'→∃ m',m'<m∧W m' σ' H')∧tb { D with nx:=N,ct:=N,bk:=D.nx } σ H1 else D.nx σ H1
theorem gy {c:Expr} {body:List Stmt} {tc:TT} {tb:TS} (hp:PassesOwn (model X.prog X.w) X.A X.env X.xe) (hc:PT X c tc) (hb:PSs X body tb):PS X (.While c body [] pos) (wZ tc tb):=by
 intro pins s σ H D I h;obtain ⟨W,⟨m0,w0⟩,turn⟩:=h
 refine wpAny_While (codeAny_whileLoop (fun n s'=>∃ σ' H',Inv X pins σ' H' s'∧W n σ' H') ?_ m0 ⟨σ,H,I,w0⟩)
 rintro n s1 ⟨σ1,H1,I1,w1⟩
 refine wpAny_passesOwn hp (thn (hc pins s1 σ1 H1 _ I1 (turn n σ1 H1 w1)) fun b s2 ⟨H2,I2,q2⟩=>?_)
 cases b with
 | true =>
  obtain ⟨N,hN,q2⟩:=q2
  rw [ao rfl];refine wpAny_passesOwn hp (thn (hb pins s2 σ1 H2 _ I2 q2) fun f s3 q3=>?_)
  cases f with
  | next =>
   obtain ⟨σ3,H3,I3,n3⟩:=q3
   obtain ⟨m',hm,w3⟩:=hN σ3 H3 n3
   exact ⟨m',hm,σ3,H3,I3,w3⟩
  | cont =>
   obtain ⟨σ3,H3,I3,n3⟩:=q3
   obtain ⟨m',hm,w3⟩:=hN σ3 H3 n3
   exact ⟨m',hm,σ3,H3,I3,w3⟩
  | brk=>exact q3
  | ret v=>exact q3
 | false =>
  rw [ah aS];exact wpAny_execs_nil ⟨σ1,H2,I2,q2⟩
end
structure It where
 go:Nat→Hp→Prop
 yld:Nat→Hp→V→Hp→Prop
 stop:Nat→Hp→Prop
def lT (X:Cx) (pins:List (Addr×Obj)) (H:Hp) (b:Addr):Prop :=
 H b=none∧b≠X.env.locals∧b∉X.fs∧(b∈X.ex∨X.s_0.heap.objs.size≤b)∧(∀ x c,X.env.cells.lookup x=some c→c≠b)∧∀ p∈X.pn++pins,p.1≠b
theorem Inv.fpOk {X:Cx} {pins:List (Addr×Obj)} {σ:St} {H H':Hp} {s:Shared} {b:Addr} (I:Inv X pins σ H s) (hb:s.heap.objs.size≤b) (hn:H' b=none):lT X pins H' b:=by
 refine ⟨hn,fN (bc I.lt hb),I.nofs hb,.inr (bH I.sz hb),fun x c e z=>?_,fun p hp z=>?_⟩
 ·obtain ⟨v,q⟩:=I.cell x c e
  exact aP (bc q.lt (by rw [z];exact hb)) (b4 _)
 ·exact aP (bc (aV (I.pin p hp).1) (by rw [z];exact hb)) (b4 _)
structure Turn (P:Program) (w:World) (K:Fg_) (tg:Expr) (J:It) (fp:List Addr) (it:Addr) (tn:Nat→Heap→Prop):Prop where
 mem:it∈fp
 obj:∀ i h,tn i h→∀ b∈fp,∃ o,h.get? b=some o∧∀ v,o.data≠.cell v
 keep:∀ i h h',tn i h→(∀ b∈fp,∀ o,h.get? b=some o→h'.get? b=some o)→tn i h'
 item:∀ (X:Cx),X.prog=P→X.w=w→X.K=K→X.calm=true→∀ (i:Nat) (pins:List (Addr×Obj)) (s:Shared) (σ:St) (H:Hp) (E:Value→Shared→Prop),Inv X pins σ H s→(∀ b∈fp,lT X pins H b)→tn i s.heap→J.go i H →
  wpAny (model P w) X.A (pyNext (.ref it)) (fun r s1=>∃ u,r=some u ∧
   wpAny (model P w) X.A (letOwnedTupleGo tg (.ref it) u) (fun _ s2=>∃ x H',Inv X pins σ H' s2∧b7 x u∧J.yld i H x H'∧tn (i+1) s2.heap∧∀ b∈fp,H' b=none) E s1) E s
 done:∀ (X:Cx),X.prog=P→X.w=w→X.K=K→X.calm=true→∀ (i:Nat) (pins:List (Addr×Obj)) (s:Shared) (σ:St) (H:Hp) (E:Value→Shared→Prop),Inv X pins σ H s→(∀ b∈fp,lT X pins H b)→tn i s.heap→J.stop i H →
  wpAny (model P w) X.A (pyNext (.ref it)) (fun r s1=>r=none∧Inv X pins σ H s1) E s
 self:∀ (A:Around) (i:Nat) (s:Shared) (Q:Value→Shared→Prop) (E:Value→Shared→Prop),tn i s.heap→Q (.ref it) s→wpAny (model P w) A (pyIter (.ref it)) Q E s
abbrev TI:=St→Hp→(It→Hp→Prop)→Prop
def PIE (X:Cx) (pins:List (Addr×Obj)) (σ:St) (tg:Expr) (R:It→Hp→Prop) (itv:Value) (s2:Shared):Prop :=
 ∃ (it:Addr) (fp:List Addr) (tn:Nat→Heap→Prop) (J:It) (H':Hp),itv = .ref it∧Inv X pins σ H' s2∧Turn X.prog X.w X.K tg J fp it tn∧tn 0 s2.heap∧(∀ b∈fp,lT X pins H' b)∧R J H'
def PI (X:Cx) (tg iter:Expr) (wi:TI):Prop :=
 ∀ (pins:List (Addr×Obj)) (s:Shared) (σ:St) (H:Hp) (R:It→Hp→Prop),Inv X pins σ H s→wi σ H R →
  wpAny (model X.prog X.w) X.A (eval iter X.env) (fun v s1=>wpAny (model X.prog X.w) X.A (pyIter v) (PIE X pins σ tg R) X.xe s1) X.xe s
theorem mE {M : Model} {A : Around} {E : Value → Shared → Prop} {s : Shared} {tg : Expr} {it : Addr} {u : Value} {o : Obj} {n : String} {vs : Array Value} {Q : Unit → Shared → Prop} (ho : s.heap.get? it = some o) (hc : o.cls = .type n) (hd : o.data = .fields vs)
    (hn : ["enumerate", "zip", "dict_itemiterator", "dict_reverseitemiterator", "odict_iterator", "itertools.zip_longest", "itertools.pairwise"].contains n = false) (hQ : Q () s) : wpAny M A (letOwnedTupleGo tg (.ref it) u) Q E s := by
  unfold letOwnedTupleGo
  cases tg <;> first
    | exact aM hQ
    | (cases u <;> first
        | exact aM hQ
        | (refine ag (wpAny_load ho ?_)
           rw [hc, hd]
           show wpAny M A (if (["enumerate", "zip", "dict_itemiterator", "dict_reverseitemiterator", "odict_iterator", "itertools.zip_longest", "itertools.pairwise"].contains n && vs[0]? == some (rawInt _)) = true then _ else _) Q E s
           rw [ah (by intro h; rw [hn, Bool.false_and] at h; cases h)]
           exact aM hQ))
def Itl (K:Fg_) (a:Addr):It :=
 ⟨fun i H=>∃ xs x,SqL K H a xs∧xs[i]? = some x,fun i H x H'=>H'=H∧∀ xs,SqL K H a xs→xs[i]? = some x,fun i H=>∃ xs,SqL K H a xs∧xs.length≤i⟩
def Itt (K:Fg_) (a:Addr):It :=
 ⟨fun i H=>∃ xs x,SqT K H a xs∧xs[i]? = some x,fun i H x H'=>H'=H∧∀ xs,SqT K H a xs→xs[i]? = some x,fun i H=>∃ xs,SqT K H a xs∧xs.length≤i⟩
def Itr (lo:Int) (n:Nat):It:=⟨fun i _=>i<n,fun i H x H'=>H'=H∧x = .int (lo+i),fun i _=>n≤i⟩
theorem rJ {P:Program} {w:World} {K:Fg_} {tg:Expr} (a it:Addr):Turn P w K tg (Itl K a) [it] it (fun i h=>h.IsListIter it a i) where
 mem:=by simp
 obj:=fun i h st b hb=>by
  have e:b=it:=by simpa using hb
  subst e;obtain ⟨o,e,c,d⟩:=st
  exact ⟨o,e,fun v z=>by rw [d] at z;cases z⟩
 keep:=fun i h h' st k=>st.at fun o e=>k it (by simp) o e
 item:=by
  intro X hP hw hK hc i pins s σ H E I hf st hg;subst hP hw hK;obtain ⟨xs,x,hq,hx⟩:=hg
  obtain ⟨its,rv,p,hz⟩:=I.list hq
  obtain ⟨u,hu,ru⟩:=rv.get hx
  obtain ⟨f0,f1,f2,f3,f4,f5⟩:=hf it (by simp)
  refine wpAny_pyNext_list_item st p.isList (x:=u) (by simpa using hu) fun h' st' sb=>?_
  have I1:Inv X pins σ H { s with heap:=h' }:=I.turned (t':=s.toks) (fun b o hb e=>(sb.2 b hb).trans e) f0 f1 f3 f4 f5
  obtain ⟨o,e,c,d⟩:=id st'
  exact ⟨u,rfl,mE (s:={ s with heap:=h' }) e c d (by decide) ⟨x,H,I1,ru,⟨rfl,fun ys hy=>by rw [I.list_inj hy hq];exact hx⟩,st',fun b hb=>(hf b hb).1⟩⟩
 done:=by
  intro X hP hw hK hc i pins s σ H E I hf st hg;subst hP hw hK;obtain ⟨xs,hq,hx⟩:=hg
  obtain ⟨its,rv,p,hz⟩:=I.list hq
  obtain ⟨f0,f1,f2,f3,f4,f5⟩:=hf it (by simp)
  have hl:=rv.length
  exact wpAny_pyNext_list_end (I.ok.hd hc) st p.isList (by simp;omega) fun h' eb=>⟨rfl,I.turned (t':=s.toks) (fun b o hb e=>eb b o hb e) f0 f1 f3 f4 f5⟩
 self:=fun _ _ _ _ _ st h=>wpAny_pyIter_listiter st h
theorem pR {P:Program} {w:World} {K:Fg_} {tg:Expr} (a it:Addr):Turn P w K tg (Itt K a) [it] it (fun i h=>h.IsTupleIter it a i) where
 mem:=by simp
 obj:=fun i h st b hb=>by
  have e:b=it:=by simpa using hb
  subst e;obtain ⟨o,e,c,d⟩:=st
  exact ⟨o,e,fun v z=>by rw [d] at z;cases z⟩
 keep:=fun i h h' st k=>st.at fun o e=>k it (by simp) o e
 item:=by
  intro X hP hw hK hc i pins s σ H E I hf st hg;subst hP hw hK;obtain ⟨xs,x,hq,hx⟩:=hg
  obtain ⟨its,rv,p,hz⟩:=I.tuple hq
  obtain ⟨u,hu,ru⟩:=rv.get hx
  obtain ⟨f0,f1,f2,f3,f4,f5⟩:=hf it (by simp)
  refine wpAny_pyNext_tuple_item st (show s.heap.IsTuple a its.toArray from p) (x:=u) (by simpa using hu) fun h' st' sb=>?_
  have I1:Inv X pins σ H { s with heap:=h' }:=I.turned (t':=s.toks) (fun b o hb e=>(sb.2 b hb).trans e) f0 f1 f3 f4 f5
  obtain ⟨o,e,c,d⟩:=id st'
  exact ⟨u,rfl,mE (s:={ s with heap:=h' }) e c d (by decide) ⟨x,H,I1,ru,⟨rfl,fun ys hy=>by rw [I.tuple_inj hy hq];exact hx⟩,st',fun b hb=>(hf b hb).1⟩⟩
 done:=by
  intro X hP hw hK hc i pins s σ H E I hf st hg;subst hP hw hK;obtain ⟨xs,hq,hx⟩:=hg
  obtain ⟨its,rv,p,hz⟩:=I.tuple hq
  obtain ⟨f0,f1,f2,f3,f4,f5⟩:=hf it (by simp)
  have hl:=rv.length
  exact wpAny_pyNext_tuple_end (I.ok.hd hc) st (show s.heap.IsTuple a its.toArray from p) (by simp;omega) fun h' eb=>⟨rfl,I.turned (t':=s.toks) (fun b o hb e=>eb b o hb e) f0 f1 f3 f4 f5⟩
 self:=fun _ _ _ _ _ st h=>wpAny_pyIter_tupleiter st h
theorem pS {P:Program} {w:World} {K:Fg_} {tg:Expr} (it:Addr) (lo:Int) (n:Nat):Turn P w K tg (Itr lo n) [it] it (fun i h=>IsRangeIter h it (lo+(i:Nat)*1) ((n:Int) - (i:Nat)) 1) where
 mem:=by simp
 obj:=fun i h st b hb=>by
  have e:b=it:=by simpa using hb
  subst e;exact ⟨_,st,fun v z=>by
   have z':Data.fields _=Data.cell v:=z
   cases z'⟩
 keep:=fun i h h' st k=>k it (by simp) _ st
 item:=by
  intro X hP hw hK hc i pins s σ H E I hf st hg;subst hP hw hK;obtain ⟨f0,f1,f2,f3,f4,f5⟩:=hf it (by simp)
  have W:=Walks.range (prog:=X.prog) (w:=X.w) (I.ok.hd hc) it lo 1 n
  refine W.item i s _ _ hg st fun v h' tk hv st' kk=>?_
  obtain ⟨t,rfl⟩:=hv
  have I1:Inv X pins σ H { s with heap:=h',toks:=tk }:=I.turned (fun b o hb e=>kk b o (by simpa using hb) e) f0 f1 f3 f4 f5
  refine ⟨_,rfl,mE (s:={ s with heap:=h',toks:=tk }) (n:="range_iterator") st' rfl rfl (by decide) ⟨.int (lo+i),H,I1,⟨t,?_⟩,⟨rfl,rfl⟩,st',fun b hb=>(hf b hb).1⟩⟩
  rw [Int.mul_one]
 done:=by
  intro X hP hw hK hc i pins s σ H E I hf st hg;subst hP hw hK;obtain ⟨f0,f1,f2,f3,f4,f5⟩:=hf it (by simp)
  exact wpAny_pyNext_range_end (I.ok.hd hc) st (by have:n≤i:=hg;omega) fun h' eb=>⟨rfl,I.turned (t':=s.toks) (fun b o hb e=>eb b o hb e) f0 f1 f3 f4 f5⟩
 self:=fun _ _ _ _ _ st h=>wpAny_pyIter_rangeiter st h
section
variable {X:Cx} {tg:Expr}
def wB (K:Fg_) (tl:TE):TI:=fun σ H R=>tl σ H fun x H1=>∃ a,x = .ref a∧(∃ xs,SqL K H1 a xs)∧R (Itl K a) H1
def iTup (K:Fg_) (tl:TE):TI:=fun σ H R=>tl σ H fun x H1=>∃ a,x = .ref a∧(∃ xs,SqT K H1 a xs)∧R (Itt K a) H1
theorem eN {l:Expr} {tl:TE} (hl:PE X l tl):PI X tg l (wB X.K tl):=by
 intro pins s σ H R I h;refine thn (hl pins s σ H _ I h) fun v s1 ⟨x,H1,I1,r1,q1⟩=>?_
 obtain ⟨a,e,⟨xs,hq⟩,q⟩:=q1
 subst e;cases r1;obtain ⟨its,rv,p,hz⟩:=I1.list hq
 refine wpAny_pyIter_list p.isList ?_
 refine ⟨s1.heap.objs.size,[s1.heap.objs.size],_,_,H1,rfl,I1.kept (t':=s1.toks) fun b o e=>aK _ e,rJ a _,⟨_,aW _ rfl,rfl,rfl⟩,fun b hb=>?_,q⟩
 have e:b=s1.heap.objs.size:=by simpa using hb
 subst e;exact I1.fpOk (aI _) (I1.hok.fresh (aI _))
theorem yl {l:Expr} {tl:TE} (hl:PE X l tl):PI X tg l (iTup X.K tl):=by
 intro pins s σ H R I h;refine thn (hl pins s σ H _ I h) fun v s1 ⟨x,H1,I1,r1,q1⟩=>?_
 obtain ⟨a,e,⟨xs,hq⟩,q⟩:=q1
 subst e;cases r1;obtain ⟨its,rv,p,hz⟩:=I1.tuple hq
 refine wpAny_pyIter_tuple (show s1.heap.IsTuple a its.toArray from p) ?_
 refine ⟨s1.heap.objs.size,[s1.heap.objs.size],_,_,H1,rfl,I1.kept (t':=s1.toks) fun b o e=>aK _ e,pR a _,⟨_,aW _ rfl,rfl,rfl⟩,fun b hb=>?_,q⟩
 have e:b=s1.heap.objs.size:=by simpa using hb
 subst e;exact I1.fpOk (aI _) (I1.hok.fresh (aI _))
theorem oM {pins:List (Addr×Obj)} {σ:St} {H:Hp} {s:Shared} {R:It→Hp→Prop} {E:Value→Shared→Prop} {lo hi:Int} {t u v:Tok} {tk:Nat} (I:Inv X pins σ H s) (h1:-(2 ^ 62)≤lo) (h2:lo<2 ^ 62) (h3:-(2 ^ 62)≤hi) (h4:hi<2 ^ 62)
  (q:R (Itr lo (hi - lo).toNat) H):wpAny (model X.prog X.w) X.A (pyIter (.ref s.heap.objs.size)) (PIE X pins σ tg R) E { s with heap:=s.heap.push { cls:=.type "range",data:=.fields #[.int lo t,.int hi u,.int 1 v] },toks:=tk }:=by
 refine wpAny_pyIter_range (IsRange.new ..) (small_one h1 h2 h3 h4) ?_
 have I1:Inv X pins σ H { s with heap:=s.heap.push { cls:=.type "range",data:=.fields #[.int lo t,.int hi u,.int 1 v] },toks:=tk }:=I.kept fun b o e=>aK _ e
 refine ⟨(s.heap.push { cls:=.type "range",data:=.fields #[.int lo t,.int hi u,.int 1 v] }).objs.size,[(s.heap.push { cls:=.type "range",data:=.fields #[.int lo t,.int hi u,.int 1 v] }).objs.size],_,_,H,rfl,
  I1.kept (t':=tk) fun b o e=>aK _ e,pS _ lo (hi - lo).toNat,?_,fun b hb=>?_,q⟩
 ·have e1:lo+((0:Nat):Int)*1=lo:=by simp
  have e2:(((hi - lo).toNat:Nat):Int) - ((0:Nat):Int)=Builtin.Range.rangeSize lo hi 1:=by rw [rangeSize_one];split<;>omega
  show IsRangeIter _ _ (lo+((0:Nat):Int)*1) ((((hi - lo).toNat:Nat):Int) - ((0:Nat):Int)) 1
  rw [e1,e2];exact aW _ rfl
 ·have e:b=(s.heap.push { cls:=.type "range",data:=.fields #[.int lo t,.int hi u,.int 1 v] }).objs.size:=by simpa using hb
  subst e;exact I1.fpOk (aI _) (I1.hok.fresh (aI _))
def iRng1 (ta:TA):TI:=fun σ H R=>ta σ H fun vs H1=>∃ j:Int,vs=[.int j]∧-(2 ^ 62)≤j∧j<2 ^ 62∧R (Itr 0 j.toNat) H1
def iRng2 (ta:TA):TI:=fun σ H R=>ta σ H fun vs H1=>∃ i j:Int,vs=[.int i,.int j]∧(-(2 ^ 62)≤i∧i<2 ^ 62∧-(2 ^ 62)≤j∧j<2 ^ 62)∧R (Itr i (j - i).toNat) H1
theorem mj {a:Expr} {ta:TA} {p pos:Pos} (hg:Gl X "range") (hm:X.mg "range" = none) (ha:PA X [a] ta) (hs:starEach [a] X.env=[(false,eval a X.env)]:=by rfl):PI X tg (.Call (.Name "range" p) [a] [] pos) (iRng1 ta):=by
 intro pins s σ H R I h;refine Call_ (iQ I hg hm boot_range (PyProof.Rows.callWith_type1 (thn (ha pos pins s σ H _ I h) fun us s1 ⟨vs,H1,I1,r1,q1⟩=>?_) hs rfl))
 obtain ⟨j,e,q1,q2,q⟩:=q1
 subst e;cases r1 with
 | cons r rr =>
  cases rr;obtain ⟨t,rfl⟩:=r
  exact call_range_1 (oM I1 (by omega) (by omega) q1 q2 (by simpa using q))
theorem rX {a b:Expr} {ta:TA} {p pos:Pos} (hg:Gl X "range") (hm:X.mg "range" = none) (ha:PA X [a,b] ta) (hs:starEach [a,b] X.env=[(false,eval a X.env),(false,eval b X.env)]:=by rfl) (hs2:starEach [b] X.env=[(false,eval b X.env)]:=by rfl) :
  PI X tg (.Call (.Name "range" p) [a,b] [] pos) (iRng2 ta):=by
 intro pins s σ H R I h;refine Call_ (iQ I hg hm boot_range (PyProof.Rows.callWith_type1 (thn (ha pos pins s σ H _ I h) fun us s1 ⟨vs,H1,I1,r1,q1⟩=>?_) (by rw [hs,hs2]) (by rw [hs2];rfl)))
 obtain ⟨i,j,e,⟨q1,q2,q3,q4⟩,q⟩:=q1
 subst e;cases r1 with
 | cons r rr =>
  cases rr with
  | cons r' rr =>
   cases rr;obtain ⟨t,rfl⟩:=r
   obtain ⟨t',rfl⟩:=r'
   exact call_range_2 (oM I1 q1 q2 q3 q4 q)
def tFor (wi:TI) (g:TG) (tb:TS):TS:=fun D σ H=>wi σ H fun J H1=>∃ W:Nat→Nat→St→Hp→Prop,(∃ m,W 0 m σ H1)∧∀ i m σ H,W i m σ H →
 (J.stop i H∧D.nx σ H)∨(J.go i H∧∃ N:St→Hp→Prop,(∀ σ' H',N σ' H'→∃ m',m'<m∧W (i+1) m' σ' H')∧∀ x H',J.yld i H x H'→g x σ H' fun σ2 H2=>tb { D with nx:=N,ct:=N,bk:=D.nx } σ2 H2)
def kY (fp:List Addr) (h:Heap):List (Addr×Obj):=fp.filterMap fun b=>(h.get? b).map fun o=>(b,o)
theorem jl {fp:List Addr} {h:Heap} {b:Addr} {o:Obj} (hb:b∈fp) (e:h.get? b=some o):(b,o)∈kY fp h:=gG.mpr ⟨b,hb,by rw [e];rfl⟩
theorem rZ {fp:List Addr} {h:Heap} {p:Addr×Obj} (hp:p∈kY fp h):p.1∈fp∧h.get? p.1=some p.2:=by
 obtain ⟨b,hb,e⟩:=gG.mp hp
 cases q:h.get? b with
 | none=>rw [q] at e;cases e
 | some o =>
  rw [q] at e;have e':(b,o)=p:=aA e
  subst e'
  exact ⟨hb,q⟩
theorem Inv.pinned {pins:List (Addr×Obj)} {σ:St} {H:Hp} {s:Shared} {fp:List Addr} (I:Inv X pins σ H s) (hf:∀ b∈fp,lT X pins H b) (ho:∀ b∈fp,∃ o,s.heap.get? b=some o∧∀ v,o.data≠.cell v):Inv X (pins++kY fp s.heap) σ H s :=
 I.pins_of fun p hp=>(aT.mp hp).elim (fun z=>I.pin p (bX _ z)) fun z=>by
  obtain ⟨hb,e⟩:=rZ z
  obtain ⟨f0,f1,f2,_⟩:=hf p.1 hb
  obtain ⟨o,e',d⟩:=ho p.1 hb
  rw [e] at e';cases e'
  exact ⟨e,f0,f1,f2,d⟩
theorem Inv.unpinned {pins pl:List (Addr×Obj)} {σ:St} {H:Hp} {s:Shared} (I:Inv X (pins++pl) σ H s):Inv X pins σ H s:=I.pins_of fun p hp=>I.pin p (bX _ (cz _ hp))
theorem fm {iter:Expr} {body:List Stmt} {wi:TI} {g:TG} {tb:TS} {pos:Pos} (hp:PassesOwn (model X.prog X.w) X.A X.env X.xe) (hc:X.calm=true) (hi:PI X tg iter wi) (hg:PG X tg g) (hb:PSs X body tb)
  (hs:∀ x,foldedSetIterable iter X.env x=pure x:=by intro _;rfl):PS X (.For tg iter body [] pos) (tFor wi g tb):=by
 intro pins s σ H D I h;refine wpAny_For (thn (hi pins s σ H _ I h) fun v s1 h1=>thn h1 fun itv s2 h2=>?_) hs
 obtain ⟨it,fp,tn,J,H2,e,I2,T,st2,f2,W,⟨m0,w0⟩,turn⟩:=h2
 subst e;have stat:∀ {H':Hp},(∀ b∈fp,H' b=none)→∀ b∈fp,lT X pins H' b:=fun hn b hb=>⟨hn b hb,(f2 b hb).2⟩
 refine codeAny_forLoop_any (fun n s'=>∃ i σ' H',Inv X pins σ' H' s'∧tn i s'.heap∧(∀ b∈fp,H' b=none)∧W i n σ' H') ?_ m0 ⟨0,σ,H2,I2,st2,fun b hb=>(f2 b hb).1,w0⟩
 rintro n s3 ⟨i,σ3,H3,I3,st3,fr3,w3⟩
 rcases turn i n σ3 H3 w3 with ⟨stop,qn⟩ | ⟨go,N,hN,step⟩
 ·refine wpAny_passesOwn hp (thn (T.done X rfl rfl rfl hc i pins s3 σ3 H3 X.xe I3 (stat fr3) st3 stop) fun r s4 ⟨hr,I4⟩=>?_)
  subst hr;exact wpAny_execs_nil ⟨σ3,H3,I4,qn⟩
 ·refine wpAny_passesOwn hp (thn (T.item X rfl rfl rfl hc i pins s3 σ3 H3 X.xe I3 (stat fr3) st3 go) fun r s4 ⟨u,hr,h4⟩=>?_)
  subst hr;refine wpAny_passesOwn hp (thn h4 fun _ s5 ⟨x,H5,I5,r5,y5,st5,fr5⟩=>?_)
  have I5':=I5.pinned (stat fr5) (T.obj _ _ st5)
  refine wpAny_passesOwn hp (thn (hg _ s5 σ3 H5 x u _ I5' r5 (step x H5 y5)) fun _ s6 ⟨σ6,H6,I6,q6⟩=>?_)
  refine wpAny_passesOwn hp (thn (hb _ s6 σ6 H6 _ I6 q6) fun f s7 q7=>?_)
  have again:∀ {σ7:St} {H7:Hp},Inv X (pins++kY fp s5.heap) σ7 H7 s7→N σ7 H7→∃ m,m<n∧∃ i σ' H',Inv X pins σ' H' s7∧tn i s7.heap∧(∀ b∈fp,H' b=none)∧W i m σ' H':=fun {σ7 H7} I7 n7=>by
   obtain ⟨m',hm,w7⟩:=hN σ7 H7 n7
   refine ⟨m',hm,i+1,σ7,H7,I7.unpinned,T.keep _ _ _ st5 fun b hb o e=>(I7.pin (b,o) (bX _ (bX _ (jl hb e)))).1,fun b hb=>?_,w7⟩
   obtain ⟨o,e,d⟩:=T.obj _ _ st5 b hb
   exact (I7.pin (b,o) (bX _ (bX _ (jl hb e)))).2.1
  cases f with
  | next=>obtain ⟨σ7,H7,I7,n7⟩:=q7;exact again I7 n7
  | cont=>obtain ⟨σ7,H7,I7,n7⟩:=q7;exact again I7 n7
  | brk=>obtain ⟨σ7,H7,I7,q7⟩:=q7;exact ⟨σ7,H7,I7.unpinned,q7⟩
  | ret v=>obtain ⟨x7,σ7,H7,I7,r7,q7⟩:=q7;exact ⟨x7,σ7,H7,I7.unpinned,r7,q7⟩
end
theorem ia {K:Fg_} {a:Addr} {xs:List V} {g:TG} {tb:TS} {D:ie} {σ:St} {H:Hp} (Pv:Nat→St→Hp→Prop) (h0:Pv 0 σ H) (hl:∀ i σ H,i≤xs.length→Pv i σ H→SqL K H a xs)
  (hs:∀ i x σ H,xs[i]? = some x→Pv i σ H→g x σ H fun σ2 H2=>tb { D with nx:=Pv (i+1),ct:=Pv (i+1),bk:=D.nx } σ2 H2) (hd:∀ σ H,Pv xs.length σ H→D.nx σ H) :
  ∃ W:Nat→Nat→St→Hp→Prop,(∃ m,W 0 m σ H)∧∀ i m σ H,W i m σ H →
   ((Itl K a).stop i H∧D.nx σ H)∨((Itl K a).go i H∧∃ N:St→Hp→Prop,(∀ σ' H',N σ' H'→∃ m',m'<m∧W (i+1) m' σ' H')∧∀ x H',(Itl K a).yld i H x H'→g x σ H' fun σ2 H2=>tb { D with nx:=N,ct:=N,bk:=D.nx } σ2 H2):=by
 refine ⟨fun i m σ H=>m=xs.length - i∧i≤xs.length∧Pv i σ H,⟨xs.length,by simp,a8 _,h0⟩,?_⟩
 rintro i m σ H ⟨rfl,hi,p⟩
 have q:=hl i σ H hi p
 by_cases hlt:i<xs.length
 ·refine .inr ⟨⟨xs,xs[i],q,by simp [hlt]⟩,Pv (i+1),fun σ' H' p'=>⟨xs.length - (i+1),by omega,rfl,hlt,p'⟩,fun x H' y=>?_⟩
  obtain ⟨e,y⟩:=y
  subst e;exact hs i x σ _ (y xs q) p
 ·have e:i=xs.length:=by omega
  subst e;exact .inl ⟨⟨xs,q,aI _⟩,hd σ H p⟩
theorem jV {lo:Int} {n:Nat} {g:TG} {tb:TS} {D:ie} {σ:St} {H:Hp} (Pv:Nat→St→Hp→Prop) (h0:Pv 0 σ H)
  (hs:∀ i σ H,i<n→Pv i σ H→g (.int (lo+i)) σ H fun σ2 H2=>tb { D with nx:=Pv (i+1),ct:=Pv (i+1),bk:=D.nx } σ2 H2) (hd:∀ σ H,Pv n σ H→D.nx σ H) :
  ∃ W:Nat→Nat→St→Hp→Prop,(∃ m,W 0 m σ H)∧∀ i m σ H,W i m σ H →
   ((Itr lo n).stop i H∧D.nx σ H)∨((Itr lo n).go i H∧∃ N:St→Hp→Prop,(∀ σ' H',N σ' H'→∃ m',m'<m∧W (i+1) m' σ' H')∧∀ x H',(Itr lo n).yld i H x H'→g x σ H' fun σ2 H2=>tb { D with nx:=N,ct:=N,bk:=D.nx } σ2 H2):=by
 refine ⟨fun i m σ H=>m=n - i∧i≤n∧Pv i σ H,⟨n,by simp,a8 _,h0⟩,?_⟩
 rintro i m σ H ⟨rfl,hi,p⟩
 by_cases hlt:i<n
 ·refine .inr ⟨hlt,Pv (i+1),fun σ' H' p'=>⟨n - (i+1),by omega,rfl,hlt,p'⟩,fun x H' y=>?_⟩
  obtain ⟨e,y⟩:=y
  subst e y;exact hs i σ _ hlt p
 ·have e:i=n:=by omega
  subst e;exact .inl ⟨aI _,hd σ H p⟩
abbrev R2:=V→V→Hp→VK→Prop
def OpR (X:Cx) (f:Value→Value→Sem Value) (r:R2):Prop :=
 ∀ (pins:List (Addr×Obj)) (s:Shared) (σ:St) (H:Hp) (x y:V) (v u:Value) (Q:VK),Inv X pins σ H s→b7 x v→b7 y u→r x y H Q →
  wpAny (model X.prog X.w) X.A (f v u) (EP X pins σ Q) X.xe s
def UnR (X:Cx) (f:Value→Sem Value) (r:V→Hp→VK→Prop):Prop :=
 ∀ (pins:List (Addr×Obj)) (s:Shared) (σ:St) (H:Hp) (x:V) (v:Value) (Q:VK),Inv X pins σ H s→b7 x v→r x H Q →
  wpAny (model X.prog X.w) X.A (f v) (EP X pins σ Q) X.xe s
def jg (X:Cx) (f:Value) (r:List V→Hp→VK→Prop):Prop :=
 ∀ (pins:List (Addr×Obj)) (s:Shared) (σ:St) (H:Hp) (xs:List V) (us:List Value) (Q:VK),Inv X pins σ H s→cg xs us→r xs H Q →
  wpAny (model X.prog X.w) X.A (call f us) (EP X pins σ Q) X.xe s
def TruR (X:Cx) (r:V→Hp→(Bool→Hp→Prop)→Prop):Prop :=
 ∀ (pins:List (Addr×Obj)) (s:Shared) (σ:St) (H:Hp) (x:V) (v:Value) (Q:Bool→Hp→Prop),Inv X pins σ H s→b7 x v→r x H Q →
  wpAny (model X.prog X.w) X.A (truthy v) (TP X pins σ Q) X.xe s
def tOp (r:R2) (ta tb:TE):TE:=fun σ H Q=>ta σ H fun x H1=>tb σ H1 fun y H2=>r x y H2 Q
def tUn (r:V→Hp→VK→Prop) (ta:TE):TE:=fun σ H Q=>ta σ H fun x H1=>r x H1 Q
def rI (C:Int→Int→Prop) (g:Int→Int→V):R2:=fun x y H Q=>∃ i j,x = .int i∧y = .int j∧C i j∧Q (g i j) H
def rI0 (g:Int→Int→V):R2:=fun x y H Q=>∃ i j,x = .int i∧y = .int j∧Q (g i j) H
def rU (g:Int→V):V→Hp→VK→Prop:=fun x H Q=>∃ i,x = .int i∧Q (g i) H
section
variable {X:Cx} {a b c:Expr} {ta tb tc:TE} {pos:Pos}
theorem yR (ha:PE X a ta) (hb:PE X b tb) {pins:List (Addr×Obj)} {s:Shared} {σ:St} {H:Hp} {R:V→V→Hp→Prop} (I:Inv X pins σ H s)
  (h:ta σ H fun x H1=>tb σ H1 fun y H2=>R x y H2) {Q:Value→Shared→Prop} {f:Value→Value→Sem Value}
  (hf:∀ v u s2 x y H2,Inv X pins σ H2 s2→b7 x v→b7 y u→R x y H2→wpAny (model X.prog X.w) X.A (f v u) Q X.xe s2) :
  wpAny (model X.prog X.w) X.A (eval a X.env) (fun v s₁=>wpAny (model X.prog X.w) X.A (eval b X.env) (fun u s₂=>wpAny (model X.prog X.w) X.A (f v u) Q X.xe s₂) X.xe s₁) X.xe s:=by
 refine thn (ha pins s σ H _ I h) fun v s1 ⟨x,H1,I1,r1,q1⟩=>?_
 refine thn (hb pins s1 σ H1 _ I1 q1) fun u s2 ⟨y,H2,I2,r2,q2⟩=>?_
 exact hf v u s2 x y H2 I2 r1 r2 q2
theorem fH {op:Operator} {r:R2} (ho:OpR X (binaryOp op) r) (ha:PE X a ta) (hb:PE X b tb):PE X (.BinOp a op b pos) (tOp r ta tb):=by
 intro pins s σ H Q I h;exact wpAny_BinOp (yR ha hb I h fun v u s2 x y H2 I2 rx ry q=>ho pins s2 σ H2 x y v u Q I2 rx ry q)
theorem kZ {op:UnaryOp} {r:V→Hp→VK→Prop} (ho:UnR X (unaryOp op) r) (ha:PE X a ta):PE X (.UnaryOp op a pos) (tUn r ta):=by
 intro pins s σ H Q I h;exact UnaryOp_ (thn (ha pins s σ H _ I h) fun v s1 ⟨x,H1,I1,r1,q1⟩=>ho pins s1 σ H1 x v Q I1 r1 q1)
theorem opI {f:Value→Value→Sem Value} {C:Int→Int→Prop} {g:Int→Int→Int}
  (rule:∀ (i j:Int) (t u:Tok) (s:Shared) (Q:Value→Shared→Prop) (E:Value→Shared→Prop),C i j→Q (.int (g i j) s.toks) { s with toks:=s.toks+1 }→wpAny (model X.prog X.w) X.A (f (.int i t) (.int j u)) Q E s) :
  OpR X f (rI C fun i j=>.int (g i j)):=by
 intro pins s σ H x y v u Q I rx ry h;obtain ⟨i,j,rfl,rfl,hc,q⟩:=h
 obtain ⟨t,rfl⟩:=rx
 obtain ⟨t',rfl⟩:=ry
 exact rule i j t t' s _ _ hc ⟨.int (g i j),H,I.tok _,⟨_,rfl⟩,q⟩
theorem yu {f:Value→Value→Sem Value} {g:Int→Int→Int}
  (rule:∀ (i j:Int) (t u:Tok) (s:Shared) (Q:Value→Shared→Prop) (E:Value→Shared→Prop),Q (.int (g i j) s.toks) { s with toks:=s.toks+1 }→wpAny (model X.prog X.w) X.A (f (.int i t) (.int j u)) Q E s) :
  OpR X f (rI0 fun i j=>.int (g i j)):=by
 intro pins s σ H x y v u Q I rx ry h;obtain ⟨i,j,rfl,rfl,q⟩:=h
 obtain ⟨t,rfl⟩:=rx
 obtain ⟨t',rfl⟩:=ry
 exact rule i j t t' s _ _ ⟨.int (g i j),H,I.tok _,⟨_,rfl⟩,q⟩
theorem vL {f:Value→Value→Sem Value} {g:Int→Int→Bool}
  (rule:∀ (i j:Int) (t u:Tok) (s:Shared) (Q:Value→Shared→Prop) (E:Value→Shared→Prop),Q (.bool (g i j)) s→wpAny (model X.prog X.w) X.A (f (.int i t) (.int j u)) Q E s) :
  OpR X f (rI0 fun i j=>.bl (g i j)):=by
 intro pins s σ H x y v u Q I rx ry h;obtain ⟨i,j,rfl,rfl,q⟩:=h
 obtain ⟨t,rfl⟩:=rx
 obtain ⟨t',rfl⟩:=ry
 exact rule i j t t' s _ _ ⟨.bl (g i j),H,I,rfl,q⟩
def CDiv (i j:Int):Prop:=0<j∧j<1073741824
def wm (i j:Int):Prop:=(-(2 ^ 64)<i∧i<2 ^ 64)∨(-(2 ^ 64)<j∧j<2 ^ 64)
theorem wm.ok {i j:Int} (h:wm i j):IntMulOk i j:=by
 rcases h with ⟨h1,h2⟩ | ⟨h1,h2⟩
 ·exact .of_left (intBits_le_64 h1 h2)
 ·exact .of_right (intBits_le_64 h1 h2)
theorem ir:OpR X (binaryOp .Add) (rI0 fun i j=>.int (i+j)):=yu fun _ _ _ _ _ _ _ q=>add_int q
theorem ub:OpR X (binaryOp .Sub) (rI0 fun i j=>.int (i - j)):=yu fun _ _ _ _ _ _ _ q=>sub_int q
theorem ud:OpR X (binaryOp .Mult) (rI wm fun i j=>.int (i*j)):=opI fun _ _ _ _ _ _ _ hc q=>mul_int q hc.ok
theorem vK:OpR X (binaryOp .FloorDiv) (rI CDiv fun i j=>.int (i / j)):=opI fun i j _ _ _ _ _ hc q=>by
 have h1:(0:Int)<j:=hc.1
 have h2:j<1073741824:=hc.2
 exact floordiv_int (by omega) (by rw [Int.fdiv_eq_ediv_of_nonneg i (by omega)];exact q) (.inl (PyProof.noPylong_small (by omega)))
theorem qc:OpR X (binaryOp .Mod) (rI (fun _ j=>0<j) fun i j=>.int (i % j)):=opI fun i j _ _ _ _ _ hc q=>by
 have h1:(0:Int)<j:=hc
 exact mod_int' (by omega) (by rw [Int.fmod_eq_emod_of_nonneg i (by omega)];exact q)
theorem qV:OpR X (inplaceOp .Add) (rI0 fun i j=>.int (i+j)):=yu fun _ _ _ _ _ _ _ q=>iadd_int q
theorem vR:OpR X (inplaceOp .Mult) (rI wm fun i j=>.int (i*j)):=opI fun _ _ _ _ _ _ _ hc q=>imul_int q hc.ok
theorem unI {f:Value→Sem Value} {g:Int→Int}
  (rule:∀ (i:Int) (t:Tok) (s:Shared) (Q:Value→Shared→Prop) (E:Value→Shared→Prop),Q (.int (g i) s.toks) { s with toks:=s.toks+1 }→wpAny (model X.prog X.w) X.A (f (.int i t)) Q E s) :
  UnR X f (rU fun i=>.int (g i)):=by
 intro pins s σ H x v Q I rx h;obtain ⟨i,rfl,q⟩:=h
 obtain ⟨t,rfl⟩:=rx
 exact rule i t s _ _ ⟨.int (g i),H,I.tok _,⟨_,rfl⟩,q⟩
theorem ji:UnR X (unaryOp .USub) (rU fun i=>.int (-i)):=unI fun _ _ _ _ _ q=>neg_int q
end
def yc:V→V→Bool
 | .non,.non=>true | .non,.int _=>true | .int _,.non=>true | .non,.bl _=>true | .bl _,.non=>true | .non,.str _=>true | .str _,.non=>true
 | .int _,.int _=>true | .bl _,.bl _=>true | .str _,.str _=>true | .byt _,.byt _=>true
 | .int _,.str _=>true | .str _,.int _=>true | .bl _,.str _=>true | .str _,.bl _=>true
 | _,_=>false
def rEq:R2:=fun x y H Q=>yc x y=true∧Q (.bl (decide (x=y))) H
def rNe:R2:=fun x y H Q=>yc x y=true∧Q (.bl (!decide (x=y))) H
theorem rp {i j:Int}:decide (V.int i=V.int j)=(i==j):=by
 rw [gi];simp
theorem uK {i j:Bool}:decide (V.bl i=V.bl j)=(i==j):=by
 rw [gi];simp
theorem rn {i j:Str}:decide (V.str i=V.str j)=(i==j):=by
 rw [gi];simp
theorem rq {i j:Array UInt8}:decide (V.byt i=V.byt j)=(i.toList==j.toList):=by
 rw [gi];cases i;cases j;simp
section
variable {X:Cx} {a b c:Expr} {ta tb tc:TE} {pos:Pos}
theorem cJ {pins:List (Addr×Obj)} {σ:St} {H:Hp} {s:Shared} {Q:VK} {k k':Bool} (I:Inv X pins σ H s) (q:Q (.bl k) H) (e:k=k'):EP X pins σ Q (.bool k') s:=by
 subst e;exact ⟨.bl k,H,I,rfl,q⟩
theorem d8:OpR X (compareOp .Eq) rEq:=by
 intro pins s σ H x y v u Q I rx ry h;obtain ⟨hs,q⟩:=h
 cases x with
 | non =>
  cases rx;cases y with
  | non=>cases ry;exact PySem.EqNone.eq_none_none (cJ I q (by simp))
  | bl j=>cases ry;exact PySem.EqNone.eq_none_bool (cJ I q (by simp))
  | int j=>obtain ⟨t',rfl⟩:=ry;exact PySem.EqNone.eq_none_int (cJ I q (by simp))
  | str j=>obtain ⟨t',rfl⟩:=ry;exact PySem.EqNone.eq_none_str (cJ I q (by simp))
  | _=>exact aP (show false=true from hs) aS
 | bl i =>
  cases rx;cases y with
  | non=>cases ry;exact PySem.EqNone.eq_bool_none (cJ I q (by simp))
  | bl j=>cases ry;exact eq_bool (cJ I q uK)
  | str j=>obtain ⟨t',rfl⟩:=ry;exact PySem.EqMixed.eq_bool_str (cJ I q (by simp))
  | _=>exact aP (show false=true from hs) aS
 | int i =>
  obtain ⟨t,rfl⟩:=rx
  cases y with
  | non=>cases ry;exact PySem.EqNone.eq_int_none (cJ I q (by simp))
  | int j=>obtain ⟨t',rfl⟩:=ry;exact eq_int (cJ I q rp)
  | str j=>obtain ⟨t',rfl⟩:=ry;exact PySem.EqMixed.eq_int_str (cJ I q (by simp))
  | _=>exact aP (show false=true from hs) aS
 | str i =>
  obtain ⟨t,rfl⟩:=rx
  cases y with
  | non=>cases ry;exact PySem.EqNone.eq_str_none (cJ I q (by simp))
  | bl j=>cases ry;exact PySem.EqMixed.eq_str_bool (cJ I q (by simp))
  | int j=>obtain ⟨t',rfl⟩:=ry;exact PySem.EqMixed.eq_str_int (cJ I q (by simp))
  | str j=>obtain ⟨t',rfl⟩:=ry;exact eq_str (cJ I q rn)
  | _=>exact aP (show false=true from hs) aS
 | byt i =>
  obtain ⟨t,rfl⟩:=rx
  cases y with
  | byt j=>obtain ⟨t',rfl⟩:=ry;exact PySem.W.eq_bytes (cJ I q rq)
  | _=>exact aP (show false=true from hs) aS
 | _=>cases y<;>exact aP (show false=true from hs) aS
theorem jf:OpR X (compareOp .NotEq) rNe:=by
 intro pins s σ H x y v u Q I rx ry h;obtain ⟨hs,q⟩:=h
 cases x with
 | non =>
  cases rx;cases y with
  | non=>cases ry;exact PySem.EqNone.ne_none_none (cJ I q (by simp))
  | bl j=>cases ry;exact PySem.EqNone.ne_none_bool (cJ I q (by simp))
  | int j=>obtain ⟨t',rfl⟩:=ry;exact PySem.EqNone.ne_none_int (cJ I q (by simp))
  | str j=>obtain ⟨t',rfl⟩:=ry;exact PySem.EqNone.ne_none_str (cJ I q (by simp))
  | _=>exact aP (show false=true from hs) aS
 | bl i =>
  cases rx;cases y with
  | non=>cases ry;exact PySem.EqNone.ne_bool_none (cJ I q (by simp))
  | bl j=>cases ry;exact ne_bool (cJ I q (congrArg not uK))
  | str j=>obtain ⟨t',rfl⟩:=ry;exact PySem.EqMixed.ne_bool_str (cJ I q (by simp))
  | _=>exact aP (show false=true from hs) aS
 | int i =>
  obtain ⟨t,rfl⟩:=rx
  cases y with
  | non=>cases ry;exact PySem.EqNone.ne_int_none (cJ I q (by simp))
  | int j=>obtain ⟨t',rfl⟩:=ry;exact ne_int (cJ I q (congrArg not rp))
  | str j=>obtain ⟨t',rfl⟩:=ry;exact PySem.EqMixed.ne_int_str (cJ I q (by simp))
  | _=>exact aP (show false=true from hs) aS
 | str i =>
  obtain ⟨t,rfl⟩:=rx
  cases y with
  | non=>cases ry;exact PySem.EqNone.ne_str_none (cJ I q (by simp))
  | bl j=>cases ry;exact PySem.EqMixed.ne_str_bool (cJ I q (by simp))
  | int j=>obtain ⟨t',rfl⟩:=ry;exact PySem.EqMixed.ne_str_int (cJ I q (by simp))
  | str j=>obtain ⟨t',rfl⟩:=ry;exact ne_str (cJ I q (congrArg not rn))
  | _=>exact aP (show false=true from hs) aS
 | byt i =>
  obtain ⟨t,rfl⟩:=rx
  cases y with
  | byt j=>obtain ⟨t',rfl⟩:=ry;exact PySem.W.ne_bytes (cJ I q (congrArg not rq))
  | _=>exact aP (show false=true from hs) aS
 | _=>cases y<;>exact aP (show false=true from hs) aS
theorem kf:OpR X (compareOp .Lt) (rI0 fun i j=>.bl (decide (i<j))):=vL fun _ _ _ _ _ _ _ q=>lt_int q
theorem mq:OpR X (compareOp .LtE) (rI0 fun i j=>.bl (decide (i≤j))):=vL fun _ _ _ _ _ _ _ q=>le_int q
theorem iJ:OpR X (compareOp .Gt) (rI0 fun i j=>.bl (decide (j<i))):=vL fun _ _ _ _ _ _ _ q=>gt_int q
theorem op_ge:OpR X (compareOp .GtE) (rI0 fun i j=>.bl (decide (j≤i))):=vL fun _ _ _ _ _ _ _ q=>ge_int q
theorem bA (b:Expr) {op:CmpOp} (h:op≠.In:=by decide) (h2:op≠.NotIn:=by decide):behindInMarks op b=false:=by
 have e1:(op==CmpOp.In)=false:=by cases op<;>first | rfl | exact aP rfl h
 have e2:(op==CmpOp.NotIn)=false:=by cases op<;>first | rfl | exact aP rfl h2
 cases b<;>simp [behindInMarks,e1,e2]
theorem kE {op:CmpOp} {r:R2} (ho:OpR X (compareOp op) r) (ha:PE X a ta) (hb:PE X b tb) (hm:behindInMarks op b=false):PE X (.Compare a [op] [b] pos) (tOp r ta tb):=by
 intro pins s σ H Q I h;exact wpAny_Compare1 (yR ha hb I h fun v u s2 x y H2 I2 rx ry q=>ho pins s2 σ H2 x y v u Q I2 rx ry q) hm
def l9 (t:TE):TT:=fun σ H Q=>t σ H fun x H'=>∃ k,x = .bl k∧Q k H'
theorem bo {op:CmpOp} {r:R2} (ho:OpR X (compareOp op) r) (ha:PE X a ta) (hb:PE X b tb) (hm:behindInMarks op b=false):PT X (.Compare a [op] [b] pos) (l9 (tOp r ta tb)):=by
 intro pins s σ H Q I h;refine wpAny_isTrue_Compare1 (thn (ha pins s σ H _ I h) fun v s1 ⟨x,H1,I1,r1,q1⟩=>thn (hb pins s1 σ H1 _ I1 q1) fun u s2 ⟨y,H2,I2,r2,q2⟩ =>
  thn (ho pins s2 σ H2 x y v u _ I2 r1 r2 q2) fun c s3 ⟨z,H3,I3,r3,k,e,q3⟩=>?_) hm
 subst e;cases r3;exact wpAny_truthy_bool ⟨H3,I3,q3⟩
def tF (r r':R2) (ta tb tc:TE):TE:=fun σ H Q=>ta σ H fun x H1=>tb σ H1 fun y H2=>r x y H2 fun z H3=>∃ k,z = .bl k ∧
 (if k=true then tc σ H3 fun w' H4=>r' y w' H4 Q else Q (.bl false) H3)
theorem kW {op op':CmpOp} {r r':R2} (ho:OpR X (compareOp op) r) (ho':OpR X (compareOp op') r') (ha:PE X a ta) (hb:PE X b tb) (hc:PE X c tc)
  (hm:lastMarks [op,op'] [b,c]=false:=by with_unfolding_all rfl):PT X (.Compare a [op,op'] [b,c] pos) (l9 (tF r r' ta tb tc)):=by
 intro pins s σ H Q I h;refine isTrue_chain (thn (ha pins s σ H _ I h) fun v s1 ⟨x,H1,I1,r1,q1⟩=>test_link (thn (hb pins s1 σ H1 _ I1 q1) fun u s2 ⟨y,H2,I2,r2,q2⟩ =>
  thn (ho pins s2 σ H2 x y v u _ I2 r1 r2 q2) fun d s3 ⟨z,H3,I3,r3,k,e,q3⟩=>?_)) hm
 subst e;cases r3;refine wpAny_truthy_bool ?_
 cases k with
 | false =>
  obtain ⟨k',e',q'⟩:=q3
  cases e'
  exact ite_ff ⟨H3,I3,q'⟩
 | true =>
  refine ite_tt (test_last (thn (hc pins s3 σ H3 _ I3 q3) fun w' s4 ⟨z',H4,I4,r4,q4⟩=>thn (ho' pins s4 σ H4 y z' u w' _ I4 r2 r4 q4) fun d' s5 ⟨z2,H5,I5,r5,k2,e2,q5⟩=>?_))
  subst e2;cases r5;exact wpAny_truthy_bool ⟨H5,I5,q5⟩
def yT (K:Fg_) (x:V) (H:Hp) (k:Bool):Prop :=
 match x with
 | .non=>k=false
 | .bl b=>k=b
 | .int i=>k=(i != 0)
 | .str y=>y.length≤sizeLine∧k=((y.length:Int) != 0)
 | .byt y=>y.size≤sizeLine∧k=((y.size:Int) != 0)
 | .ref p=>(∃ xs,SqL K H p xs∧k = !xs.isEmpty)∨(∃ xs,SqT K H p xs∧k = !xs.isEmpty)∨∃ kvs,H p=some (.dK kvs)∧k = !kvs.isEmpty
 | _=>False
theorem qi {κ:Type} {kvs:List (κ×V)} {vs:List (κ×Value)} (r:KV kvs vs):(!vs.isEmpty) = !kvs.isEmpty:=by
 cases r<;>rfl
theorem lD {xs:List V} {its:List Value} (r:cg xs its):(!its.toArray.isEmpty) = !xs.isEmpty:=by
 cases r<;>simp
theorem jT:(sizeLine:Nat)<2 ^ 63:=by rw [sizeLine_eq];decide
theorem wW:TruR X (fun x H Q=>∃ k,yT X.K x H k∧Q k H):=by
 intro pins s σ H x v Q I rx h;obtain ⟨k,e,q⟩:=h
 have hl:=jT
 have hs:sizeLine=16777216:=sizeLine_eq
 cases x with
 | non =>
  cases rx;have e':k=false:=e
  subst e'
  exact truthy_none ⟨H,I,q⟩
 | bl b =>
  cases rx;have e':k=b:=e
  subst e'
  exact wpAny_truthy_bool ⟨H,I,q⟩
 | int i =>
  obtain ⟨t,rfl⟩:=rx
  have e':k=(i != 0):=e
  subst e'
  exact PySem.P.truthy_int ⟨H,I,q⟩
 | str y =>
  obtain ⟨t,rfl⟩:=rx
  obtain ⟨hy,e'⟩:y.length≤sizeLine∧k=((y.length:Int) != 0):=e
  subst e'
  exact PySem.P.truthy_str (by omega) ⟨H,I.tok _,q⟩
 | byt y =>
  obtain ⟨t,rfl⟩:=rx
  obtain ⟨hy,e'⟩:y.size≤sizeLine∧k=((y.size:Int) != 0):=e
  subst e'
  exact PySem.W.truthy_bytes (by omega) ⟨H,I.tok _,q⟩
 | ref p =>
  cases rx;have e':(∃ xs,SqL X.K H p xs∧k = !xs.isEmpty)∨(∃ xs,SqT X.K H p xs∧k = !xs.isEmpty)∨∃ kvs,H p=some (.dK kvs)∧k = !kvs.isEmpty:=e
  rcases e' with ⟨xs,hx,e'⟩ | ⟨xs,hx,e'⟩ | ⟨kvs,hx,e'⟩
  ·subst e'
   obtain ⟨its,r,pl,hz⟩:=I.list hx
   have hlen:=r.length
   exact wpAny_truthy_list pl.isList (by simp only [aZ];omega) ⟨H,I.tok _,by rw [lD r];exact q⟩
  ·subst e'
   obtain ⟨its,r,pl,hz⟩:=I.tuple hx
   have hlen:=r.length
   exact truthy_tuple pl (by simp only [aZ];omega) ⟨H,I.tok _,by rw [lD r];exact q⟩
  ·subst e'
   obtain ⟨hz,hS,vs,r,m⟩:kvs.length≤sizeLine∧(p==sysModules)=false∧∃ vs,KV kvs vs∧s.heap.DictOf (dt X.prog X.w) p vs:=I.hok p _ hx
   have hlen:kvs.length=vs.length:=Paired.length r
   exact wpAny_truthy_dict hS m (by omega) ⟨H,I.tok _,by rw [qi r];exact q⟩
 | _=>exact (show False from e).elim
theorem cN (ha:PE X a ta) (he:∀ whole,isTrue a X.env whole=(do let v ←whole;standAt a.pos;holding [v] (truthy v))) :
  PT X a (fun σ H Q=>ta σ H fun x H'=>∃ k,yT X.K x H' k∧Q k H'):=by
 intro pins s σ H Q I h;exact isTrue_plain (thn (ha pins s σ H _ I h) fun v s1 ⟨x,H1,I1,r1,q1⟩=>wW pins s1 σ H1 x v Q I1 r1 q1) (he _)
theorem og {x:V} {us:List Value} (r:cg [x] us):∃ u,us=[u]∧b7 x u:=by
 cases r with
 | cons r1 r2=>cases r2;exact ⟨_,rfl,r1⟩
theorem wq {x y:V} {us:List Value} (r:cg [x,y] us):∃ u w',us=[u,w']∧b7 x u∧b7 y w':=by
 cases r with
 | cons r1 r2 =>
  cases r2 with
  | cons r3 r4=>cases r4;exact ⟨_,_,rfl,r1,r3⟩
theorem sO (hc:X.calm=true):jg X (.builtin "max") (fun xs H Q=>∃ i j,xs=[.int i,.int j]∧Q (.int (if j>i then j else i)) H):=by
 intro pins s σ H xs us Q I r h;obtain ⟨i,j,rfl,q⟩:=h
 obtain ⟨u,w',rfl,⟨t,rfl⟩,⟨t',rfl⟩⟩:=wq r
 refine max_two_ints (I.ok.hd hc) fun h' tk k=>⟨_,H,I.kept k,?_,q⟩
 by_cases hj:j>i
 ·rw [ao hj,ao hj];exact ⟨_,rfl⟩
 ·rw [ah hj,ah hj];exact ⟨_,rfl⟩
theorem sN (hc:X.calm=true):jg X (.builtin "min") (fun xs H Q=>∃ i j,xs=[.int i,.int j]∧Q (.int (if j<i then j else i)) H):=by
 intro pins s σ H xs us Q I r h;obtain ⟨i,j,rfl,q⟩:=h
 obtain ⟨u,w',rfl,⟨t,rfl⟩,⟨t',rfl⟩⟩:=wq r
 refine min_two_ints (I.ok.hd hc) fun h' tk k=>⟨_,H,I.kept k,?_,q⟩
 by_cases hj:j<i
 ·rw [ao hj,ao hj];exact ⟨_,rfl⟩
 ·rw [ah hj,ah hj];exact ⟨_,rfl⟩
theorem uN:jg X (.builtin "ord") (fun xs H Q=>∃ x,xs=[.str x]∧x.length=1∧Q (.int (x.cps.getD 0 0:Nat)) H):=by
 intro pins s σ H xs us Q I r h;obtain ⟨x,rfl,hz,q⟩:=h
 obtain ⟨u,rfl,t,rfl⟩:=og r
 exact ord_of_one hz ⟨.int _,H,I.tok _,⟨_,rfl⟩,q⟩
end
structure qw (h:Heap) (x dx C:Addr) (mA:Str→Option Value):Prop where
 obj:h.get? x=some (PySem.W.instObj C dx)
 ns:h.Ns1 dx mA
 ne:dx≠x
theorem sj {h:Heap} {dx:Addr} {mA:Str→Option Value} (n:h.Ns1 dx mA):∃ od,h.get? dx=some od∧∀ name,PySem.W.lookIn name od=some (mA name):=by
 obtain ⟨o,es,ep,ho,hd,hk,_,hm⟩:=n
 refine ⟨o,ho,fun name=>?_⟩
 have e:=hm name
 unfold nsFind findBy at e;rw [←Array.find?_toList] at e;unfold PySem.W.lookIn;rw [hd];dsimp only;split
 ·rename_i y q
  rw [q] at e;exact congrArg some e
 ·rename_i q
  rw [q] at e;have a:es.toList.any (·.refKey)=false:=by
   rw [List.any_eq_false];intro y hy;obtain ⟨z,t,hkey⟩:=hk y (Array.mem_toList_iff.mp hy)
   simp [DictEntry.refKey,hkey]
  have a':¬es.toList.any (·.refKey)=true:=by rw [a];exact aS
  rw [ah a'];exact congrArg some e
theorem qw.look {h:Heap} {x dx C:Addr} {mA:Str→Option Value} (I:qw h x dx C mA):∃ od,PySem.W.InstAt h x (PySem.W.instObj C dx) C (some od)∧∀ name,PySem.W.lookIn name od=some (mA name) :=
 let ⟨od,ho,hl⟩:=sj I.ns
 ⟨od,⟨I.obj,rfl,rfl,ho⟩,hl⟩
section
variable {prog:Program} {w:World} {A:Around} {E:Value→Shared→Prop} {s:Shared} {K:Fg_} {x dx C f:Addr} {mA:Str→Option Value} {name:Str} {v:Value}
theorem vU {expr:Bool} {Q:Value→Shared→Prop} (X:K.In s.heap) (I:qw s.heap x dx C mA) (hg:PySem.W.plainGet K C name=true) (hh:PySem.W.hasDictIn K C=true)
  (ha:PySem.W.findIn K (.ref C) name=some none) (hv:mA name=some v) (hv':PySem.W.handedIn v=true) (h:Q v { s with toks:=s.toks+1 }) :
  wpAny (model prog w) A (getAttr (.ref x) name expr) Q E s:=by
 obtain ⟨od,J,hl⟩:=I.look
 exact PySem.W.get_value X J (PySem.W.plainGet_of hg).1 (PySem.W.findObj_own hh ha rfl (by rw [hl,hv])) hv' h
theorem uD {pl:Sem Bool} {Q:Value×List Value→Shared→Prop} (X:K.In s.heap) (I:qw s.heap x dx C mA) (hg:PySem.W.plainGet K C name=true)
  (hf:PySem.W.findIn K (.ref C) name=some (some (.ref f))) (ht:PySem.W.isFn K (.ref f)=true) (hv:mA name=none) (h:Q (.ref f,[.ref x]) s) :
  wpAny (model prog w) A (getMethod (.ref x) name pl) Q E s:=by
 obtain ⟨od,J,hl⟩:=I.look
 exact PySem.W.method_fn X J (PySem.W.plainGet_of hg).1 (PySem.W.plainGet_of hg).2 hf (beq_iff_eq.mp ht) (by show (PySem.W.lookIn name od).map (·.isSome)=some false;rw [hl,hv];rfl) h
theorem vo {ns:List Str} {Q:Unit→Shared→Prop} (X:K.In s.heap) (I:qw s.heap x dx C mA)
  (hs:PySem.W.findIn K (.ref C) "__setattr__" = some (some (.builtin "object.__setattr__"))) (hp:PySem.W.plainOver K C=true) (ht:PySem.W.takerIn K C name=some none) (hh:PySem.W.hasDictIn K C=true)
  (hw:PySem.Within mA ns) (hsz:ns.length≤sizeLine)
  (h:∀ h',qw h' x dx C (fun y=>if y=name then some v else mA y)→Heap.SameBut dx s.heap h'→Q () { s with heap:=h',toks:=s.toks+2 }) :
  wpAny (model prog w) A (setAttr (.ref x) name v) Q E s:=by
 obtain ⟨od,J,hl⟩:=I.look
 refine PySem.W.set_plain X J hs (PySem.W.osa_open (s:={ s with toks:=s.toks+1 }) (r:=none) X J hp ht fun b=>?_)
 obtain ⟨cd,hc,hd'⟩:=PySem.W.any_some hh
 have hx:s.heap.get? x=some ⟨.ref C,some dx,.plain,#[]⟩:=I.obj
 refine ag (aM (ag (ag (wpAny_loadPart hx (ag (PySem.W.Looks.here (s:={ s with toks:=s.toks+1 }) (PySem.W.looks_clsIn X hc) ?_))))))
 rw [hd'];refine aM (a:=some dx) (ag (aM (ag ?_)))
 refine wpAny_nsSet1 (s:={ s with toks:=s.toks+1 }) I.ns fun h' hn2 hs2=>?_
 obtain ⟨oD,esD,epD,hoD,hdD,hcD⟩:=hn2.count (PySem.Within.cons name v hw)
 refine ag (wpAny_lookBehind hoD (by rw [hdD];exact pastItsLine_dict (bH hcD (by rw [aE];omega))) ?_)
 exact aM (h _ ⟨(hs2.2 _ (aN I.ne)).trans I.obj,hn2,I.ne⟩ hs2)
theorem ur {R:Result→Shared→Prop} {vs:List Value} {kw:List (Str×Value)} (X:K.In s.heap) (hm:PySem.W.makesIn K C=true)
  (hi:PySem.W.findIn K (.ref C) "__init__" = some (some (.ref f))) (hf:PySem.W.typeIn K (.ref f)=some (.type "function"))
  (h:codeAny (model prog w) (A.under (.builtin "type.__call__" ⟨.ref C::vs,kw⟩)) (.call (.ref f) ⟨.ref (s.heap.objs.size+1)::vs,kw⟩) (PySem.W.InitBack (s.heap.objs.size+1) R)
   { s with heap:=(s.heap.push PySem.W.emptyDict).push (PySem.W.instObj C s.heap.objs.size) }) :
  codeAny (model prog w) A (.call (.ref C) ⟨vs,kw⟩) R s:=by
 obtain ⟨hh,g,d,t,os⟩:=s
 exact PySem.W.make_core (PySem.W.makes_of X hm) (PySem.W.looks_findIn X hi) (fun self=>PySem.W.bind_fn X self hf) (.inl rfl) h
end
def eX (f:Str) (v:V):List (Str×V)→List (Str×V)
 | []=>[(f,v)]
 | (g,x)::r=>if g=f then (g,v)::r else (g,x)::eX f v r
theorem iP (f g:Str) (v:V):∀ fs:List (Str×V),(eX f v fs).lookup g=if g=f then some v else fs.lookup g
 | []=>by
  show List.lookup g [(f,v)]=_
  by_cases h:g=f
  ·have hb:(g==f)=true:=beq_iff_eq.mpr h
   simp only [List.lookup,hb,ao h]
  ·have hb:(g==f)=false:=aQ.mpr h
   simp only [List.lookup,hb,ah h]
 | (k,x)::r=>by
  have ih:=iP f g v r
  rw [show eX f v ((k,x)::r)=(if k=f then (k,v)::r else (k,x)::eX f v r) from rfl];by_cases hk:k=f
  ·rw [ao hk];by_cases h:g=k
   ·have hb:(g==k)=true:=beq_iff_eq.mpr h
    simp only [List.lookup,hb,ao (h.trans hk)]
   ·have hb:(g==k)=false:=aQ.mpr h
    simp only [List.lookup,hb,ah (fun e:g=f=>h (e.trans hk.symm))]
  ·rw [ah hk];by_cases h:g=k
   ·have hb:(g==k)=true:=beq_iff_eq.mpr h
    simp only [List.lookup,hb,ah (fun e:g=f=>hk (h.symm.trans e))]
   ·have hb:(g==k)=false:=aQ.mpr h
    simp only [List.lookup,hb];exact ih
theorem hW (f:Str) (v:V):∀ fs:List (Str×V),f∈(eX f v fs).map (·.1)∧∀ g,g∈fs.map (·.1)→g∈(eX f v fs).map (·.1)
 | []=>⟨by simp [eX],fun g h=>by simp at h⟩
 | (k,x)::r=>by
  obtain ⟨i1,i2⟩:=hW f v r
  rw [show eX f v ((k,x)::r)=(if k=f then (k,v)::r else (k,x)::eX f v r) from rfl];by_cases hk:k=f
  ·rw [ao hk];subst hk;exact ⟨by simp,fun g h=>by simpa using h⟩
  ·rw [ah hk];refine ⟨?_,fun g h=>?_⟩
   ·rw [ba];exact aR _ i1
   ·rw [ba] at h ⊢;rcases aF.mp h with e | e
    ·exact aF.mpr (.inl e)
    ·exact aR _ (i2 g e)
theorem kh (f:Str) (v:V):∀ fs:List (Str×V),(eX f v fs).length≤fs.length+1
 | []=>by simp [eX]
 | (k,x)::r=>by
  have ih:=kh f v r
  rw [show eX f v ((k,x)::r)=(if k=f then (k,v)::r else (k,x)::eX f v r) from rfl];by_cases hk:k=f
  ·rw [ao hk,aE,aE];omega
  ·rw [ah hk,aE,aE];omega
theorem gc.some_of {v:V} {o:Option Value} (r:gc (some v) o):∃ u,o=some u∧b7 v u:=by
 cases o with
 | none=>exact (show False from r).elim
 | some u=>exact ⟨u,rfl,r⟩
theorem gc.none_of {o:Option Value} (r:gc none o):o=none:=by
 cases o with
 | none=>rfl
 | some u=>exact (show False from r).elim
theorem mD {v:V} {u:Value} (r:b7 v u):PySem.W.handedIn u=true:=by
 cases v with
 | non=>cases (show u=Value.none from r);rfl
 | bl b=>cases (show u=Value.bool b from r);rfl
 | int i=>obtain ⟨t,e⟩:=(show ∃ t,u=Value.int i t from r);cases e;rfl
 | str x=>obtain ⟨t,e⟩:=(show ∃ t,u=Value.str x t from r);cases e;rfl
 | byt b=>obtain ⟨t,e⟩:=(show ∃ t,u=Value.bytes b t from r);cases e;rfl
 | flt b=>obtain ⟨t,e⟩:=(show ∃ t,u=Value.float b t from r);cases e;rfl
 | ref a=>cases (show u=Value.ref a from r);rfl
 | ty n=>cases (show u=Value.type n from r);rfl
section
variable {P:Program} {w:World} {H H':Hp} {h h':Heap} {a C dx:Addr} {fs fs':List (Str×V)}
theorem nN (hok:HOk P w H h) (e:H a=some (.ins C dx fs)):∃ mA,qw h a dx C mA∧(∀ f,gc (fs.lookup f) (mA f))∧PySem.Within mA (fs.map (·.1))∧fs.length≤1000∧H dx=some (.own a):=by
 obtain ⟨d,z,ne,ob,mA,n,r,q⟩:=(show du P w H h a (.ins C dx fs) from hok a _ e)
 exact ⟨mA,⟨ob,n,ne⟩,r,q,z,d⟩
end
structure Cls (K:Fg_) (C:Addr):Prop where
 pg:PySem.W.plainGet K C Str.empty=true
 hd:PySem.W.hasDictIn K C=true
 po:PySem.W.plainOver K C=true
 sa:PySem.W.findIn K (.ref C) "__setattr__" = some (some (.builtin "object.__setattr__"))
theorem Cls.get {K:Fg_} {C:Addr} (c:Cls K C) (f:Str):PySem.W.plainGet K C f=true:=c.pg
def cC (K:Fg_) (C:Addr) (f:Str):Prop:=PySem.W.findIn K (.ref C) f=some none
theorem cC.taker {K:Fg_} {C:Addr} {f:Str} (n:cC K C f):PySem.W.takerIn K C f=some none:=by
 unfold PySem.W.takerIn;rw [show PySem.W.findIn K (.ref C) f=some none from n];rfl
structure km (K:Fg_) (C:Addr) (m:Str) (f:Addr):Prop where
 at_:PySem.W.findIn K (.ref C) m=some (some (.ref f))
 fn:PySem.W.isFn K (.ref f)=true
 kp:PySem.W.keepIn K (.ref f)=true
section
variable {X:Cx} {pins:List (Addr×Obj)} {σ:St} {H:Hp} {s:Shared} {a C dx:Addr} {fs:List (Str×V)} {f:Str} {v:V} {A:Around} {E:Value→Shared→Prop}
theorem lG {b:Bool} {Q:Value→Shared→Prop} (I:Inv X pins σ H s) (e:H a=some (.ins C dx fs)) (c:Cls X.K C) (n:cC X.K C f) (l:fs.lookup f=some v)
  (h:∀ u s',Inv X pins σ H s'→b7 v u→Q u s'):wpAny (model X.prog X.w) A (getAttr (.ref a) f b) Q E s:=by
 obtain ⟨mA,O,r,_,_,_⟩:=nN I.hok e
 obtain ⟨u,hu,ru⟩:=gc.some_of (v:=v) (o:=mA f) (by rw [←l];exact r f)
 exact vU I.kIn O (c.get f) c.hd n hu (mD ru) (h u _ (I.tok _) ru)
theorem lF {m:Str} {g:Addr} {pl:Sem Bool} {Q:Value×List Value→Shared→Prop} (I:Inv X pins σ H s) (e:H a=some (.ins C dx fs)) (c:Cls X.K C) (k:km X.K C m g) (l:fs.lookup m=none)
  (h:Q (.ref g,[.ref a]) s):wpAny (model X.prog X.w) A (getMethod (.ref a) m pl) Q E s:=by
 obtain ⟨mA,O,r,_,_,_⟩:=nN I.hok e
 have hn:mA m=none:=gc.none_of (by rw [←l];exact r m)
 exact uD I.kIn O (c.get m) k.at_ k.fn hn h
theorem kQ {y:V} {u:Value} {Q:Unit→Shared→Prop} (I:Inv X pins σ H s) (e:H a=some (.ins C dx fs)) (c:Cls X.K C) (n:cC X.K C f) (hl:fs.length<1000) (ry:b7 y u)
  (h:∀ s',Inv X pins σ (upd H a (.ins C dx (eX f y fs))) s'→Q () s'):wpAny (model X.prog X.w) A (setAttr (.ref a) f u) Q E s:=by
 obtain ⟨mA,O,r,wi,_,ho⟩:=nN I.hok e
 have hz:(fs.map (·.1)).length≤sizeLine:=by rw [ae,sizeLine_eq];omega
 refine vo I.kIn O c.sa c.po n.taker c.hd wi hz fun h' O' sb=>h _ ?_
 have hd:∃ o,h'.get? dx=some o:=let ⟨o,_,_,e',_⟩:=O'.ns;⟨o,e'⟩
 refine I.write (x:=a) (e:=dx) (by rw [e];exact True.intro) (.inr ho) (fun b q hb z=>(sb.2 b hb).trans z) hd ?_
 refine ⟨by rw [aa O.ne];exact ho,?_,O.ne,O'.obj,_,O'.ns,fun g=>?_,fun g hg=>?_⟩
 ·have:=kh f y fs;omega
 ·show gc ((eX f y fs).lookup g) (if g=f then some u else mA g)
  rw [iP];by_cases q:g=f
  ·rw [ao q,ao q];exact ry
  ·rw [ah q,ah q];exact r g
 ·by_cases q:g=f
  ·rw [q];exact (hW f y fs).1
  ·refine (hW f y fs).2 g (wi g fun z=>hg ?_)
   show (if g=f then some u else mA g)=none
   rw [ah q];exact z
theorem Inv.made (I:Inv X pins σ H s):Inv X pins σ (upd (upd H s.heap.objs.size (.own (s.heap.objs.size+1))) (s.heap.objs.size+1) (.ins C s.heap.objs.size []))
  { s with heap:=(s.heap.push PySem.W.emptyDict).push (PySem.W.instObj C s.heap.objs.size) }:=by
 have e1:(s.heap.push PySem.W.emptyDict).get? s.heap.objs.size=some PySem.W.emptyDict:=aW s.heap rfl
 have e2:((s.heap.push PySem.W.emptyDict).push (PySem.W.instObj C s.heap.objs.size)).get? (s.heap.objs.size+1)=some (PySem.W.instObj C s.heap.objs.size):=by
  have:=aW (s.heap.push PySem.W.emptyDict) (o:=PySem.W.instObj C s.heap.objs.size) rfl
  rwa [Heap.size_push] at this
 have e3:(s.heap.push PySem.W.emptyDict).Ns s.heap.objs.size (fun _=>none):=⟨PySem.W.emptyDict,#[],_,e1,rfl,(fun e he=>aP he (by simp)),fun _=>rfl⟩
 have I1:=I.laid (a:=s.heap.objs.size) (o:=.own (s.heap.objs.size+1)) (h':=s.heap.push PySem.W.emptyDict) (t':=s.toks) (fun b u q=>aK _ q) (aI _) ⟨_,e1⟩
 refine I1.laid (a:=s.heap.objs.size+1) (o:=.ins C s.heap.objs.size []) (t':=s.toks) (fun b u q=>aK _ q) (iz (Heap.size_push _ _)) ?_
 have ne:s.heap.objs.size≠s.heap.objs.size+1:=bt (ig _)
 refine ⟨by rw [aa ne,au],a8 _,ne,e2,fun _=>none,(Heap.Ns1.of_empty e3).at fun o q=>aK _ q,fun _=>True.intro,fun y hy=>aP rfl hy⟩
theorem rC {prog:Program} {w:World} {env:Env} {e:Expr} {f:Str} {pos:Pos} {s:Shared} {Q:Value→Shared→Prop} (hb:attributeBase e f env (eval e env)=eval e env)
  (h:wpAny (model prog w) A (eval e env) (fun o s₁=>wpAny (model prog w) A (getAttr o f true) Q E s₁) E s):wpAny (model prog w) A (eval (.Attribute e f pos) env) Q E s :=
 Attribute_any_ h (by rw [arm_eval_Attribute,hb])
end
def tFld (K:Fg_) (ta:TE) (f:Str):TE:=fun σ H Q=>ta σ H fun x H1=>∃ a C dx fs v,x = .ref a∧H1 a=some (.ins C dx fs)∧Cls K C∧cC K C f∧fs.lookup f=some v∧Q v H1
def sFld (K:Fg_) (ta tv:TE) (f:Str):TS:=fun D σ H=>tv σ H fun y H1=>ta σ H1 fun x H2=>∃ a C dx fs,x = .ref a∧H2 a=some (.ins C dx fs)∧Cls K C∧cC K C f∧fs.length<1000 ∧
 D.nx σ (upd H2 a (.ins C dx (eX f y fs)))
def InOp (X:Cx) (op:Operator) (rd:V→V→Hp→VK→Prop):Prop :=
 ∀ (pins:List (Addr×Obj)) (s:Shared) (σ:St) (H:Hp) (x y:V) (u v:Value) (Q:VK),Inv X pins σ H s→b7 x u→b7 y v→rd x y H Q→wpAny (model X.prog X.w) X.A (inplaceOp op u v) (EP X pins σ Q) X.xe s
def vC (K:Fg_) (ta tv:TE) (rd:V→V→Hp→VK→Prop) (f:Str):TS:=fun D σ H=>ta σ H fun x H1=>∃ a C dx fs v,x = .ref a∧H1 a=some (.ins C dx fs)∧Cls K C∧cC K C f∧fs.lookup f=some v ∧
 tv σ H1 fun y H2=>rd v y H2 fun z H3=>∃ dx' fs',H3 a=some (.ins C dx' fs')∧fs'.length<1000∧D.nx σ (upd H3 a (.ins C dx' (eX f z fs')))
section
variable {X:Cx} {o e value:Expr} {f:Str} {pos pos' tpos:Pos} {ta tv:TE}
theorem aU (he:PE X e ta) (hb:attributeBase e f X.env (eval e X.env)=eval e X.env):PE X (.Attribute e f pos) (tFld X.K ta f):=by
 intro pins s σ H Q I h;refine rC hb (thn (he pins s σ H _ I h) fun u s1 ⟨x,H1,I1,rx,a,C,dx,fs,v,ex,ea,c,n,l,q⟩=>?_)
 subst ex;obtain rfl:u=Value.ref a:=rx
 exact lG I1 ea c n l fun u' s2 I2 ru=>⟨v,H1,I2,ru,q⟩
theorem bN (ha:PE X o ta) (hv:PE X value tv) (hs:swapsWith value (some (.Attribute o f pos')) pos.line X.env=pure false):PS X (.Assign [.Attribute o f pos'] value pos) (sFld X.K ta tv f):=by
 intro pins s σ H D I h;refine plainObj_wpAny_Assign_Attribute (thn (hv pins s σ H _ I h) fun u s1 ⟨y,H1,I1,ry,q⟩=>thn (ha pins s1 σ H1 _ I1 q) fun ov s2 ⟨x,H2,I2,rx,a,C,dx,fs,ex,ea,c,n,l,q2⟩=>?_) hs
 subst ex;obtain rfl:ov=Value.ref a:=rx
 exact kQ I2 ea c n l ry fun s3 I3=>⟨σ,_,I3,q2⟩
theorem mf {op:Operator} {rd:V→V→Hp→VK→Prop} (ha:PE X o ta) (hv:PE X value tv) (hop:InOp X op rd):PS X (.AugAssign (.Attribute o f tpos) op value pos) (vC X.K ta tv rd f):=by
 intro pins s σ H D I h;refine wpAny_AugAssign_AttributeAny (thn (ha pins s σ H _ I h) fun ov s1 ⟨x,H1,I1,rx,a,C,dx,fs,v,ex,ea,c,n,l,q⟩=>?_)
 subst ex;obtain rfl:ov=Value.ref a:=rx
 refine lG I1 ea c n l fun u s2 I2 ru=>thn (hv pins s2 σ H1 _ I2 q) fun w3 s3 ⟨y,H2,I3,ry,q3⟩=>thn (hop pins s3 σ H2 v y u w3 _ I3 ru ry q3) fun w4 s4 ⟨z,H3,I4,rz,dx',fs',ea',l',q4⟩=>?_
 exact kQ I4 ea' c n l' rz fun s5 I5=>⟨σ,_,I5,q4⟩
def rAdd:V→V→Hp→VK→Prop:=fun x y H Q=>∃ i j,x = .int i∧y = .int j∧Q (.int (i+j)) H
theorem uA:InOp X .Add rAdd:=by
 rintro pins s σ H x y u v Q I rx ry ⟨i,j,rfl,rfl,q⟩
 obtain ⟨t,rfl⟩:=(show ∃ t,u=Value.int i t from rx)
 obtain ⟨t',rfl⟩:=(show ∃ t',v=Value.int j t' from ry)
 exact PyProof.Rows.iadd_int ⟨.int (i+j),H,I.tok _,⟨_,rfl⟩,q⟩
end
section
variable {X:Cx} {pins:List (Addr×Obj)} {σ:St} {H:Hp} {s:Shared} {A:Around} {E:Value→Shared→Prop} {Q:Value→Shared→Prop} {c:Value} {b:Bool}
end
structure cB (k:Nat) (A:Around):Prop where
 hd:A.handled=none
 dp:A.depth+3*k+5<recursionLimit
 un:A.units+16*k+200<cLine
theorem cB.mono {j k:Nat} {A:Around} (r:cB k A) (h:j≤k):cB j A:=⟨r.hd,by have:=r.dp;omega,by have:=r.un;omega⟩
theorem cB.deeper {k:Nat} {A:Around} (r:cB (k+1) A) (env:Env):cB k (A.deeper env) :=
 ⟨r.hd,by have:=r.dp;show A.depth+1+3*k+5<_;omega,by have:=r.un;show A.units+3+16*k+200<_;omega⟩
theorem qg {A:Around} {C:Addr} {us:List Value} {kw:List (Str×Value)}:(A.under (.builtin "type.__call__" ⟨.ref C::us,kw⟩)).depth=A.depth+1:=by
 first | rfl | simp [Around.under,Code.weight,Code.isCreation,Code.isGuard,Code.isCaller,Code.frames,Code.isFrame,guardIds]
theorem qf {A:Around} {C:Addr} {us:List Value} {kw:List (Str×Value)}:(A.under (.builtin "type.__call__" ⟨.ref C::us,kw⟩)).units=A.units+1:=by
 first | rfl | simp [Around.under,Code.cUnits,Code.frames,Code.isFrame]
theorem cB.make {k:Nat} {A:Around} (r:cB (k+1) A) (C:Addr) (us:List Value) (kw:List (Str×Value)):cB k (A.under (.builtin "type.__call__" ⟨.ref C::us,kw⟩)) :=
 ⟨r.hd,by have:=r.dp;rw [qg];omega,by have:=r.un;rw [qf];omega⟩
theorem cB.depth {k:Nat} {A:Around} (r:cB k A):A.depth<recursionLimit:=by have:=r.dp;omega
theorem cB.units {k:Nat} {A:Around} (r:cB k A):A.units+64<cLine:=by have:=r.un;omega
theorem cB.units0 {k:Nat} {A:Around} (r:cB k A):A.units<cLine:=by have:=r.un;omega
def w9:TA:=fun _ H Q=>Q [] H
def tE (ta:TE) (tr:TA):TA:=fun σ H Q=>ta σ H fun x H1=>tr σ H1 fun xs H2=>Q (x::xs) H2
section
variable {X:Cx} {e:Expr} {es:List Expr} {te:TE} {t:TA} {pos:Pos}
theorem aL:PA X [] w9:=fun _ _ _ _ H Q I h=>Calls.spliced_nil ⟨[],H,I,.nil,h⟩
theorem aj (ha:PE X e te) (hr:PA X es t) (hs:starEach (e::es) X.env=(false,eval e X.env)::starEach es X.env:=by rfl):PA X (e::es) (tE te t):=by
 intro pos pins s σ H Q I h;rw [hs];show wpAny _ _ (spliced ((false,eval e X.env)::backTo pos (starEach es X.env))) _ _ s
 refine Calls.spliced_cons (thn (ha pins s σ H _ I h) fun u s1 ⟨x,H1,I1,r1,q1⟩=>?_)
 exact thn (hr pos pins s1 σ H1 _ I1 q1) fun us s2 ⟨xs,H2,I2,r2,q2⟩=>⟨x::xs,H2,I2,.cons r1 r2,q2⟩
def tTup (t:TA):TE:=fun σ H Q=>t σ H fun xs H1=>xs.length≤sizeLine∧∀ p,H1 p=none→Q (.ref p) (upd H1 p (.tup xs))
def tLst (t:TA):TE:=fun σ H Q=>t σ H fun xs H1=>xs.length≤sizeLine∧∀ p,H1 p=none→Q (.ref p) (upd H1 p (.lst xs))
theorem fq {x1} (h:PA X es t):PE X (.Tuple es x1 pos) (tTup t):=by
 intro pins s σ H Q I hq;refine wpAny_Tuple_spliced (thn (h pos pins s σ H _ I hq) fun us s1 ⟨xs,H1,I1,r,z,q⟩=>⟨by rw [←r.length];exact z,?_⟩)
 have hf:H1 s1.heap.objs.size=none:=I1.hok.fresh (aI _)
 refine ⟨.ref s1.heap.objs.size,upd H1 s1.heap.objs.size (.tup xs),I1.laid (t':=s1.toks) (fun b u e=>aK _ e) (aI _) ?_,rfl,q _ hf⟩
 exact ⟨z,us,r,⟨_,aW _ rfl,rfl,_,rfl⟩⟩
theorem dX (h:PA X es t):PE X (.List es pos) (tLst t):=by
 intro pins s σ H Q I hq;refine wpAny_List_spliced (thn (h pos pins s σ H _ I hq) fun us s1 ⟨xs,H1,I1,r,z,q⟩=>⟨by rw [←r.length];exact z,?_⟩)
 have hf:H1 s1.heap.objs.size=none:=I1.hok.fresh (aI _)
 refine ⟨.ref s1.heap.objs.size,upd H1 s1.heap.objs.size (.lst xs),I1.laid (t':=s1.toks) (fun b u e=>aK _ e) (aI _) ?_,rfl,q _ hf⟩
 exact ⟨z,us,0,r,aW _ rfl⟩
end
abbrev Sp:=List V→Hp→VK→XK→Prop
abbrev CXT:=List Env→Hp→Shared→XK→Value→Shared→Prop
structure qy (P:Program) (w:World) (K:Fg_) (mg:Str→Option Value) (base:Heap) (A:Around) (outer:List Env) (s:Shared) (H:Hp):Prop where
 frames:A.frames=some outer
 mod:Mod K mg base
 bs:∀ b o,base.get? b=some o→s.heap.get? b=some o∧H b=none
 bsz:base.objs.size≤s.heap.objs.size
 funs:s.heap.FunFrames base outer
 frf:∀ b∈frs outer,H b=none
 hok:HOk P w H s.heap
 bare:AllBare s.gens
def CE (outer:List Env) (P:Program) (w:World) (H:Hp) (s:Shared) (Q:VK) (u:Value) (s':Shared):Prop :=
 ∃ v H',s'.os=s.os∧AllBare s'.gens∧Un (frs outer) [] H H' s.heap s'.heap∧HOk P w H' s'.heap∧b7 v u∧Q v H'
def CR (CX:CXT) (outer:List Env) (P:Program) (w:World) (H:Hp) (s:Shared) (Q:VK) (E:XK) (r:Result) (s':Shared):Prop :=
 match r with
 | .ok (.ret u)=>CE outer P w H s Q u s'
 | .ok _=>False
 | .error e=>CX outer H s E e s'
structure bK (P:Program) (w:World) (K:Fg_) (mg:Str→Option Value) (base:Heap) (CX:CXT) (k:Nat) (f:Addr) (fd:FuncData) (ps:List Str) (sp:Sp):Prop where
 len:∀ vs H Q E,sp vs H Q E→vs.length=ps.length
 run:∀ (A:Around) (outer:List Env) (s:Shared) (H:Hp) (args:Args) (us:List Value) (vs:List V) (Q:VK) (E:XK),cB k A→qy P w K mg base A outer s H→BindsTo s fd args (ps.zip us)→cg vs us→sp vs H Q E →
  codeAny (model P w) A (.call (.ref f) args) (CR CX outer P w H s Q E) s
theorem qy.make {P:Program} {w:World} {K:Fg_} {mg:Str→Option Value} {base:Heap} {A:Around} {outer:List Env} {s:Shared} {H:Hp} (e:qy P w K mg base A outer s H) (C:Addr) (us:List Value) (kw:List (Str×Value)) :
  qy P w K mg base (A.under (.builtin "type.__call__" ⟨.ref C::us,kw⟩)) outer s H:=⟨by first | exact e.frames | (simpa [Around.under,Code.envs,Code.isFrame,pushEnvs] using e.frames),e.mod,e.bs,e.bsz,e.funs,e.frf,e.hok,e.bare⟩
section
variable {X:Cx} {pins:List (Addr×Obj)} {σ:St} {H:Hp} {s s':Shared}
theorem Inv.env0 (I:Inv X pins σ H s):qy X.prog X.w X.K X.mg X.base X.A X.stack s H :=
 ⟨I.ok.frames,I.ok.mod,I.bs,bH I.ok.bsz I.sz,I.stack,I.stkFree,I.hok,I.bare⟩
theorem Inv.after {Q:VK} {u:Value} (I:Inv X pins σ H s) (h:CE X.stack X.prog X.w H s Q u s'):EP X pins σ Q u s':=by
 obtain ⟨v,H',os,bare,un,hok,r,q⟩:=h
 obtain ⟨hh,g,d,t,os'⟩:=s'
 obtain rfl:os'=s.os:=os
 exact ⟨v,H',I.call (h':=hh) (g':=g) (d':=d) (t':=t) (ch:=[]) un hok bare (fun b z=>aP z (by simp)),r,q⟩
end
def tG (sp:Sp) (dvs:List V) (E:XK) (t:TA):TE:=fun σ H Q=>t σ H fun vs H1=>sp (vs++dvs) H1 Q E
def wy (C:Addr) (m:Str) (sp:Sp) (dvs:List V) (E:XK) (ta:TE) (t:TA):TE:=fun σ H Q=>ta σ H fun x H1=>∃ a dx fs,x = .ref a∧H1 a=some (.ins C dx fs)∧fs.lookup m=none ∧
 t σ H1 fun vs H2=>sp (x::(vs++dvs)) H2 Q E
def tMake (C:Addr) (sp:Sp) (dvs:List V) (E:XK) (t:TA):TE:=fun σ H Q=>t σ H fun vs H1=>∀ x dx,H1 x=none→H1 dx=none→dx≠x →
 sp (.ref x::(vs++dvs)) (upd (upd H1 dx (.own x)) x (.ins C dx [])) (fun v H2=>v = .non∧Q (.ref x) H2) E
def bT (K:Fg_) (fd:FuncData) (ps:List Str) (ds:List Value):Prop :=
 ∀ (s:Shared) (us:List Value),K.In s.heap→(us++ds).length=ps.length→BindsTo s fd ⟨us,[]⟩ (ps.zip (us++ds))
theorem bT.all {K:Fg_} {fd:FuncData} {ps:List Str} (h:∀ us:List Value,us.length=ps.length→bindArgs fd ⟨us,[]⟩=pure (ps.zip us)):bT K fd ps []:=fun s us _ hl=>by
 rw [dw] at hl ⊢;exact .of_eq (h us hl)
def gC (CX:CXT) (X:Cx) (E:XK):Prop:=∀ (pins:List (Addr×Obj)) (σ:St) (H:Hp) (s:Shared) (e:Value) (s':Shared),Inv X pins σ H s→CX X.stack H s E e s'→X.xe e s'
section
variable {X:Cx} {CX:CXT} {k:Nat} {f C:Addr} {fd:FuncData} {ps:List Str} {sp:Sp} {dvs:List V} {ds:List Value} {E:XK} {x m:Str} {p pos apos:Pos} {e o:Expr} {es:List Expr} {ta:TE} {t:TA}
theorem m8 {pins:List (Addr×Obj)} {σ:St} {H:Hp} {s:Shared} {Q:VK} {us:List Value} {vs:List V} (F:bK X.prog X.w X.K X.mg X.base CX k f fd ps sp) (hr:cB k X.A) (hb:bT X.K fd ps ds) (hd:cg dvs ds) (hx:gC CX X E)
  (I:Inv X pins σ H s) (r:cg vs us) (h:sp (vs++dvs) H Q E):wpAny (model X.prog X.w) X.A (call (.ref f) us) (EP X pins σ Q) X.xe s:=by
 have r2:cg (vs++dvs) (us++ds):=r.append hd
 have hl:(us++ds).length=ps.length:=by rw [←r2.length];exact F.len _ _ _ _ h
 refine wpAny_call (codeAny_mono (F.run X.A X.stack s H ⟨us,[]⟩ (us++ds) (vs++dvs) Q E hr I.env0 (hb s us I.kIn hl) r2 h) fun r s' hq=>?_)
 cases r with
 | error e=>exact hx pins σ H s e s' I hq
 | ok fl =>
  cases fl with
  | ret u=>exact I.after hq
  | next=>exact False.elim hq
  | brk=>exact False.elim hq
  | cont=>exact False.elim hq
theorem kF (F:bK X.prog X.w X.K X.mg X.base CX k f fd ps sp) (hr:cB k X.A) (hg:Gl X x) (hm:X.mg x=some (.ref f)) (hk:PySem.W.keepIn X.K (.ref f)=true) (hb:bT X.K fd ps ds) (hd:cg dvs ds) (hx:gC CX X E)
  (ha:PA X (e::es) t) (hdb:(x==("__debug__" : Str))=false:=by decide) (he:starEach (e::es) X.env=(false,eval e X.env)::starEach es X.env:=by rfl) (hpl:(backTo pos (starEach es X.env)).any (·.1)=false:=by rfl) :
  PE X (.Call (.Name x p) (e::es) [] pos) (tG sp dvs E t):=by
 intro pins s σ H Q I h;refine wpAny_Call_Name_kw (gL I hg hm ?_ hdb)
 refine PySem.W.callWith_K (h₀:=X.base) I.ok.mod.kin hk (thn (ha pos pins s σ H _ I h) fun us s1 ⟨vs,H1,I1,r,q⟩=>⟨I1.kIn,?_⟩) he hpl
 exact m8 F hr hb hd hx I1 r q
theorem jA {pl:Sem Bool} (he:PE X o ta) (c:Cls X.K C) (hm:km X.K C m f) (F:bK X.prog X.w X.K X.mg X.base CX k f fd ps sp) (hr:cB k X.A) (hb:bT X.K fd ps ds) (hd:cg dvs ds) (hx:gC CX X E) (ha:PA X (e::es) t)
  (hst:starEach (e::es) X.env=(false,eval e X.env)::starEach es X.env:=by rfl) (hpl:(backTo pos (starEach es X.env)).any (·.1)=false:=by rfl)
  (ht:eval (.Call (.Attribute o m apos) (e::es) [] pos) X.env=(do
   let ov ←eval o X.env
   standAt apos.atName
   let (f,first) ←holding [ov] (getMethod ov m pl)
   callWith pos f first (backTo pos (starEach (e::es) X.env)) (backToKw pos (keywordEach [] X.env))):=by rfl) :
  PE X (.Call (.Attribute o m apos) (e::es) [] pos) (wy C m sp dvs E ta t):=by
 intro pins s σ H Q I h;refine PySem.W.methodCall_KW (pl:=pl) (thn (he pins s σ H _ I h) fun u s1 ⟨x,H1,I1,rx,a,dx,fs,ex,ea,l,q⟩=>?_) ht
 subst ex;obtain rfl:u=Value.ref a:=rx
 refine lF I1 ea c hm l ?_
 refine PySem.W.callWith_K (first:=[.ref a]) (h₀:=X.base) I.ok.mod.kin hm.kp (thn (ha pos pins s1 σ H1 _ I1 q) fun us s2 ⟨vs,H2,I2,r,q2⟩=>⟨I2.kIn,?_⟩) hst hpl
 exact m8 (us:=.ref a::us) (vs:=.ref a::vs) F hr hb hd hx I2 (.cons rfl r) q2
theorem gz {pl:Sem Bool} (he:PE X o ta) (c:Cls X.K C) (hm:km X.K C m f) (F:bK X.prog X.w X.K X.mg X.base CX k f fd ps sp) (hr:cB k X.A) (hb:bT X.K fd ps ds) (hd:cg dvs ds) (hx:gC CX X E)
  (ht:eval (.Call (.Attribute o m apos) [] [] pos) X.env=(do
   let ov ←eval o X.env
   standAt apos.atName
   let (f,first) ←holding [ov] (getMethod ov m pl)
   callWith pos f first (backTo pos (starEach [] X.env)) (backToKw pos (keywordEach [] X.env))):=by rfl) :
  PE X (.Call (.Attribute o m apos) [] [] pos) (wy C m sp dvs E ta w9):=by
 intro pins s σ H Q I h;refine PySem.W.methodCall_KW (pl:=pl) (thn (he pins s σ H _ I h) fun u s1 ⟨x,H1,I1,rx,a,dx,fs,ex,ea,l,q⟩=>?_) ht
 subst ex;obtain rfl:u=Value.ref a:=rx
 refine lF I1 ea c hm l ?_
 exact PySem.W.callWith_K0 (first:=[.ref a]) I1.kIn hm.kp (m8 (us:=[.ref a]) (vs:=[.ref a]) F hr hb hd hx I1 (.cons rfl .nil) q)
structure Mk (K:Fg_) (C f:Addr):Prop where
 makes:PySem.W.makesIn K C=true
 init:PySem.W.findIn K (.ref C) "__init__" = some (some (.ref f))
 fn:PySem.W.isFn K (.ref f)=true
 kp:PySem.W.keepIn K (.ref C)=true
theorem tO {pins:List (Addr×Obj)} {σ:St} {H:Hp} {s:Shared} {Q:VK} {us:List Value} {vs:List V} (M:Mk X.K C f) (F:bK X.prog X.w X.K X.mg X.base CX k f fd ps sp) (hr:cB (k+1) X.A) (hb:bT X.K fd ps ds) (hd:cg dvs ds)
  (hx:gC CX X E) (I:Inv X pins σ H s) (r:cg vs us)
  (h:∀ x dx,H x=none→H dx=none→dx≠x→sp (.ref x::(vs++dvs)) (upd (upd H dx (.own x)) x (.ins C dx [])) (fun v H2=>v = .non∧Q (.ref x) H2) E) :
  wpAny (model X.prog X.w) X.A (call (.ref C) us) (EP X pins σ Q) X.xe s:=by
 have hq:=h (s.heap.objs.size+1) s.heap.objs.size (I.hok.fresh (Nat.le_succ _)) (I.hok.fresh (aI _)) (bt (ig _))
 have I2:=Inv.made (C:=C) I
 have r2:cg (V.ref (s.heap.objs.size+1)::(vs++dvs)) (Value.ref (s.heap.objs.size+1)::(us++ds)):=.cons rfl (r.append hd)
 have hl:(Value.ref (s.heap.objs.size+1)::us++ds).length=ps.length:=by
  have e:=r2.length
  rw [F.len _ _ _ _ hq] at e;exact e.symm
 refine wpAny_call (ur (f:=f) I.kIn M.makes M.init (beq_iff_eq.mp M.fn) (codeAny_mono (F.run _ X.stack _ _ ⟨Value.ref (s.heap.objs.size+1)::us,[]⟩ (Value.ref (s.heap.objs.size+1)::(us++ds)) _ _ E (hr.make C us [])
  (I2.env0.make C us []) (hb _ (Value.ref (s.heap.objs.size+1)::us) I2.kIn hl) r2 hq) fun r s' hq'=>?_))
 cases r with
 | error e=>exact hx pins σ _ _ e s' I2 hq'
 | ok fl =>
  cases fl with
  | ret u =>
   obtain ⟨v,H',I3,rv,ev,q3⟩:=I2.after hq'
   subst ev;exact ⟨rv,⟨V.ref (s.heap.objs.size+1),H',I3,rfl,q3⟩⟩
  | next=>exact False.elim hq'
  | brk=>exact False.elim hq'
  | cont=>exact False.elim hq'
theorem gn (M:Mk X.K C f) (F:bK X.prog X.w X.K X.mg X.base CX k f fd ps sp) (hr:cB (k+1) X.A) (hg:Gl X x) (hm:X.mg x=some (.ref C)) (hb:bT X.K fd ps ds) (hd:cg dvs ds) (hx:gC CX X E)
  (ha:PA X (e::es) t) (hdb:(x==("__debug__" : Str))=false:=by decide) (he:starEach (e::es) X.env=(false,eval e X.env)::starEach es X.env:=by rfl) (hpl:(backTo pos (starEach es X.env)).any (·.1)=false:=by rfl) :
  PE X (.Call (.Name x p) (e::es) [] pos) (tMake C sp dvs E t):=by
 intro pins s σ H Q I h;refine wpAny_Call_Name_kw (gL I hg hm ?_ hdb)
 refine PySem.W.callWith_K (h₀:=X.base) I.ok.mod.kin M.kp (thn (ha pos pins s σ H _ I h) fun us s1 ⟨vs,H1,I1,r,q⟩=>⟨I1.kIn,?_⟩) he hpl
 exact tO M F hr hb hd hx I1 r q
end
section
variable {X:Cx} {CX:CXT} {k:Nat} {f C:Addr} {fd:FuncData} {ps ks:List Str} {sp:Sp} {E:XK} {x m:Str} {p pos apos kpos:Pos} {e o:Expr} {es:List Expr} {kws:List Keyword} {te ta:TE} {t tk:TA} {nm:Option Str}
variable {g:List Value→List Value→List Value} {gV:List V→List V→List V}
end
structure bw (N P:List Str) (sc:Scope):Prop where
 kind:sc.kind = .function
 co:sc.isCoroutine=false
 gen:sc.isGenerator=false
 nd:N.Nodup
 pre:N.take P.length=P
 par:∀ x∈P,sc.names.lookup x=some .local∨sc.names.lookup x=some .cell
 nofree:∀ y∈sc.names,y.2≠.free
theorem mM {kindOf:Str→Option NameKind} {x:Str}:∀ {binds:List (Str×Value)} {m:Str→Option Value},(∀ v,(x,v)∉binds)→bindL kindOf binds m x=m x
 | [],_,_=>rfl
 | (n,v)::r,m,h=>by
  unfold bindL;rw [mM fun w hw=>h w (aR _ hw)]
  split
  ·have:x≠n:=by rintro rfl;exact h v a6
   simp [this]
  ·rfl
theorem mR {kindOf:Str→Option NameKind} {x:Str}:∀ {binds:List (Str×Value)} {m:Str→Option Value},(∀ v,(x,v)∉binds)→bindC kindOf binds m x=m x
 | [],_,_=>rfl
 | (n,v)::r,m,h=>by
  unfold bindC;rw [mR fun w hw=>h w (aR _ hw)]
  split
  ·rfl
  ·have:x≠n:=by rintro rfl;exact h v a6
   simp [this]
theorem mQ {kindOf:Str→Option NameKind} {x:Str} {v:Value}:∀ {P:List Str} {vs:List Value} {i:Nat} {m:Str→Option Value},P.Nodup→P[i]? = some x→vs[i]? = some v→kindOf x=some .local →
  bindL kindOf (P.zip vs) m x=some v
 | [],_,_,_,_,h,_,_=>by simp at h
 | _::_,[],_,_,_,_,h,_=>by simp at h
 | p::P,w::vs,0,m,nd,h1,h2,hk=>by
  simp at h1 h2;subst h1;subst h2;show bindL kindOf ((p,w)::P.zip vs) m p=_
  unfold bindL;rw [mM fun v hv=>(bE.mp nd).1 (List.of_mem_zip hv).1,ao hk]
  simp
 | p::P,w::vs,i+1,m,nd,h1,h2,hk=>by
  show bindL kindOf ((p,w)::P.zip vs) m x=_
  unfold bindL;exact mQ (i:=i) (bE.mp nd).2 (by simpa using h1) (by simpa using h2) hk
theorem mT {kindOf:Str→Option NameKind} {x:Str} {v:Value}:∀ {P:List Str} {vs:List Value} {i:Nat} {m:Str→Option Value},P.Nodup→P[i]? = some x→vs[i]? = some v→kindOf x≠some .local →
  bindC kindOf (P.zip vs) m x=some v
 | [],_,_,_,_,h,_,_=>by simp at h
 | _::_,[],_,_,_,_,h,_=>by simp at h
 | p::P,w::vs,0,m,nd,h1,h2,hk=>by
  simp at h1 h2;subst h1;subst h2;show bindC kindOf ((p,w)::P.zip vs) m p=_
  unfold bindC;rw [mR fun v hv=>(bE.mp nd).1 (List.of_mem_zip hv).1,ah hk]
  simp
 | p::P,w::vs,i+1,m,nd,h1,h2,hk=>by
  show bindC kindOf ((p,w)::P.zip vs) m x=_
  unfold bindC;exact mT (i:=i) (bE.mp nd).2 (by simpa using h1) (by simpa using h2) hk
def start (N:List Str) (vs:List V):St:=vs.map some++List.replicate (N.length - vs.length) none
def cY (CX:CXT) (P:Program) (w:World) (K:Fg_) (mg:Str→Option Value) (base:Heap) (N:List Str) (qual:Str) (scope:Scope) (f:Addr) (cd:Value) (A:Around) (outer:List Env) (s:Shared) (H:Hp) (E:XK):Cx where
 prog:=P
 w:=w
 K:=K
 mg:=mg
 base:=base
 A:=A.deeper (envOfC qual scope s.heap.objs.size f cd)
 N:=N
 s_0:=s
 H_0:=H
 env:=envOfC qual scope s.heap.objs.size f cd
 outer:=outer
 stack:=envOfC qual scope s.heap.objs.size f cd::outer
 ex:=[]
 calm:=true
 fn:=fun _=>true
 pn:=[]
 xe:=fun e s'=>wpAny (model P w) (A.deeper (envOfC qual scope s.heap.objs.size f cd)) (leaving (envOfC qual scope s.heap.objs.size f cd) e) (fun _ s''=>CX outer H s E e s'') (fun e' s''=>CX outer H s E e' s'') s'
theorem pq {sc:Scope} {n:Nat} {x:Str} (h:sc.names.lookup x=some .cell):∃ c,(cellsFrom n sc.names []).lookup x=some c:=by
 have q:=PySem.W.cellsFrom_some sc.names n [] (.inl h)
 exact Option.isSome_iff_exists.mp q
theorem sC {CX:CXT} {P:Program} {w:World} {K:Fg_} {mg:Str→Option Value} {base:Heap} {N ps:List Str} {qual:Str} {scope:Scope} {f:Addr} {cd:Value} {A:Around} {outer:List Env} {s s1:Shared} {H:Hp} {E:XK} {us:List Value} {vs:List V}
  (S:bw N ps scope) (hd:A.handled=none) (e0:qy P w K mg base A outer s H) (hl:vs.length=ps.length) (r:cg vs us)
  (x:InCallC s s.heap.objs.size (bindL (envOfC qual scope s.heap.objs.size f cd).kindOf (ps.zip us) fun _=>none) (cellsFrom (s.heap.objs.size+1) scope.names []) (bindC (envOfC qual scope s.heap.objs.size f cd).kindOf (ps.zip us) fun _=>none) s1) :
  Inv (cY CX P w K mg base N qual scope f cd A outer s H E) [] (start N vs) H s1:=by
 have hpl:ps.length≤N.length:=by have:=congrArg List.length S.pre;rw [aY] at this;omega
 obtain ⟨h1,tk,rfl,hk⟩:=x.done
 have noA:∀ b:Addr,b∉(cY CX P w K mg base N qual scope f cd A outer s H E).ex:=fun b z=>aP (show b∈([]:List Addr) from z) (by simp)
 refine ⟨⟨e0.mod,S.kind,rfl,rfl,aI _,fun y z c h1 h2=>?_,fun y hy=>?_,fun y c _ h=>?_,fun _=>hd,Around.frames_deeper e0.frames,.inr ⟨rfl,rfl⟩,fun b z=>aP z (noA b),e0.bs,e0.bsz,fun b _ _=>noA b,fun b z=>aP z (noA b),e0.funs,e0.frf⟩,
  rfl,e0.bare,Un.kept hk,⟨_,x.toInCall.ns,fun i y v h1 h2 h3=>?_⟩,fun y c h=>⟨_,x.cell y c h⟩,e0.hok.fresh (aI _),fun y c h=>?_,fun p hp=>aP (show p∈([]:List (Addr×Obj)) from hp) (by simp),e0.hok.kept hk,?_⟩
 ·exact name_of_addr x.apart (bx h1) (bx h2)
 ·have hy:scope.names.lookup y=some .cell∨scope.names.lookup y=some .free:=hy
  rcases hy with hy | hy
  ·exact pq hy
  ·exact aP rfl (S.nofree _ (bx hy))
 ·exact Nat.le_of_lt (x.above y c (bx h))
 ·have hi:i<vs.length:=by
   unfold start at h2;by_cases hi:i<vs.length
   ·exact hi
   ·rw [bW (by simpa using hi)] at h2
    rw [cx] at h2;split at h2<;>cases h2
  have ha:vs[i]? = some v:=by
   unfold start at h2;rw [dM (by simpa using hi),aD] at h2
   cases e:vs[i]? with
   | none=>rw [e] at h2;cases h2
   | some a=>rw [e] at h2;cases h2;rfl
  obtain ⟨u,hu,rv⟩:=r.get ha
  have hp:ps[i]? = some y:=by
   rw [←S.pre,d7 (by omega)];exact h1
  have ndP:ps.Nodup:=by rw [←S.pre];exact S.nd.sublist (List.take_sublist _ _)
  refine ⟨u,rv,?_⟩
  rcases S.par y (bj hp) with k | k
  ·exact .inl ⟨k,mQ ndP hp hu k⟩
  ·obtain ⟨c,e⟩:=pq (n:=s.heap.objs.size+1) k
   refine .inr ⟨.inl k,c,e,?_⟩
   have q:=x.cell y c e
   rw [mT ndP hp hu (by show scope.names.lookup y≠_;rw [k];decide)] at q
   exact q
 ·exact e0.hok.fresh (Nat.le_of_lt (x.above y c (bx h)))
 ·unfold start;show _=N.length
  rw [aG,ae,cu];omega
theorem wG {CX:CXT} {P:Program} {w:World} {K:Fg_} {mg:Str→Option Value} {base:Heap} {k:Nat} {f:Addr} {name qual:Str} {params:Arguments} {body:List Stmt} {scope:Scope} {dV kV doc pm cdv ct oc:Value} {an od:Option Addr}
  {osl:Array (Option Value)} {N ps:List Str} {sp:Sp} (lk:K.lookup f=some ⟨oc,od,.func (PySem.W.fnOf name qual params body scope dV kV doc pm an cdv ct),osl⟩) (hcd:PySem.W.codeIn K cdv qual=true) (S:bw N ps scope)
  (len:∀ vs H Q E,sp vs H Q E→vs.length=ps.length)
  (hbody:∀ (A:Around) (outer:List Env) (s:Shared) (H:Hp) (vs:List V) (Q:VK) (E:XK),cB k (A.deeper (envOfC qual scope s.heap.objs.size f cdv))→sp vs H Q E →
   ∃ t,PSs (cY CX P w K mg base N qual scope f cdv A outer s H E) body t∧t { nx:=fun _ H'=>Q .non H',rt:=Q } (start N vs) H) :
  bK P w K mg base CX (k+1) f (PySem.W.fnOf name qual params body scope dV kV doc pm an cdv ct) ps sp:=by
 refine ⟨len,fun A outer s H args us vs Q E hr e0 hb r hsp=>?_⟩
 have hl:=len _ _ _ _ hsp
 have KX:K.In s.heap:=e0.mod.kin.keeps fun b o e=>(e0.bs b o e).1
 have lim:s.heap.NoLimit:=e0.mod.nolimit.keeps fun b o e=>(e0.bs b o e).1
 have hkind:∀ y∈ps.zip us,scope.names.lookup y.1=some .local∨(scope.names.lookup y.1=some .cell∧((cellsFrom (s.heap.objs.size+1) scope.names []).lookup y.1).isSome=true):=fun ⟨n,v⟩ hy=>by
  rcases S.par n (List.of_mem_zip hy).1 with q | q
  ·exact .inl q
  ·exact .inr ⟨q,PySem.W.cellsFrom_some _ _ _ (.inl q)⟩
 refine codeAny_call_function hr.depth (KX _ _ lk) rfl S.co S.gen rfl (PySem.W.codeRec_of KX hcd) (hb _ _ _ _ ?_)
 refine wpAny_newFunctionEnv_cells S.kind hkind fun env he s1 x=>?_
 subst he;refine ⟨lim.keeps x.toInCall.keep,codeAny_func ?_⟩
 obtain ⟨t,ht,hq⟩:=hbody A outer s H vs Q E (hr.deeper _) hsp
 have I:Inv (cY CX P w K mg base N qual scope f cdv A outer s H E) [] (start N vs) H s1:=sC S hr.hd e0 hl r x
 refine wpAny_mono (ht [] s1 (start N vs) H _ I hq) (fun fl s' hs=>?_) fun e s' hs=>hs
 have fin:∀ {σ':St} {H':Hp} {v:V} {u:Value},Inv (cY CX P w K mg base N qual scope f cdv A outer s H E) [] σ' H' s'→b7 v u→Q v H'→CE outer P w H s Q u s' :=
  fun {σ' H' v u} J rv q=>⟨v,H',J.os,J.bare,J.base,J.hok,rv,q⟩
 cases fl with
 | ret u =>
  obtain ⟨v,σ',H',J,rv,q⟩:=hs
  exact fin J rv q
 | next =>
  obtain ⟨σ',H',J,q⟩:=hs
  exact fin (v:=V.non) (u:=Value.none) J rfl q
 | brk =>
  obtain ⟨_,_,_,q⟩:=hs
  exact False.elim q
 | cont =>
  obtain ⟨_,_,_,q⟩:=hs
  exact False.elim q
section
variable {X:Cx} {x:Str} {p pos:Pos} {e:Expr} {es:List Expr} {t:TA} {id T:String} {r:List V→Hp→VK→Prop}
def tCB (r:List V→Hp→VK→Prop) (t:TA):TE:=fun σ H Q=>t σ H fun vs H1=>r vs H1 Q
theorem di (hc:jg X (.builtin id) r) (hg:Gl X x) (hm:X.mg x=none) (hv:bootBuiltins x=some (.builtin id)) (ha:PA X (e::es) t) (hn:x≠"__name__":=by decide) (hdb:(x==("__debug__" : Str))=false:=by decide)
  (he:starEach (e::es) X.env=(false,eval e X.env)::starEach es X.env:=by rfl) (hpl:(backTo pos (starEach es X.env)).any (·.1)=false:=by rfl):PE X (.Call (.Name x p) (e::es) [] pos) (tCB r t):=by
 intro pins s σ H Q I h;refine wpAny_Call_Name_kw (iQ I hg hm hv ?_ hn hdb)
 exact PyProof.Rows.callWith_builtin1 (thn (ha pos pins s σ H _ I h) fun us s1 ⟨vs,H1,I1,r1,q1⟩=>hc pins s1 σ H1 vs us Q I1 r1 q1) he hpl
theorem g7 (hc:jg X (.type T) r) (hg:Gl X x) (hm:X.mg x=none) (hv:bootBuiltins x=some (.type T)) (ha:PA X (e::es) t) (hn:x≠"__name__":=by decide) (hdb:(x==("__debug__" : Str))=false:=by decide)
  (he:starEach (e::es) X.env=(false,eval e X.env)::starEach es X.env:=by rfl) (hpl:(backTo pos (starEach es X.env)).any (·.1)=false:=by rfl):PE X (.Call (.Name x p) (e::es) [] pos) (tCB r t):=by
 intro pins s σ H Q I h;refine wpAny_Call_Name_kw (iQ I hg hm hv ?_ hn hdb)
 exact PyProof.Rows.callWith_type1 (thn (ha pos pins s σ H _ I h) fun us s1 ⟨vs,H1,I1,r1,q1⟩=>hc pins s1 σ H1 vs us Q I1 r1 q1) he hpl
end
end L2
namespace HT
open PySem PyProof.Rows
theorem uH (A:Around) (s:Shared) (a:Int) (t:Tok) (c:Int) (u:Tok):∃ e,SeqAt.EqAt A s (.int a t) (.int c u) e∧(e=true↔a=c) :=
 ⟨(a==c),SeqAt.EqAt.int_int a t c u,by simp⟩
section
open PySem.SeqAt
open PySem.AutoSeq1 (wpAny_loadPart')
open PySem.MeetsSeq PySem.MeetsSeq2 PySem.MeetsSeq3
end
section
variable {prog:Program} {w:World} {A:Around} {E:Value→Shared→Prop} {s:Shared}
def sIx (n d:Nat):Option Int→Nat
 | none=>d
 | some v=>if v<0 then (v+(n:Int)).toNat else min v.toNat n
theorem sIx_nat (n d k:Nat):sIx n d (some (k:Int))=min k n:=by
 show (if (k:Int)<0 then ((k:Int)+(n:Int)).toNat else min (k:Int).toNat n)=min k n
 rw [ah (by omega),dv]
end
end HT
namespace L2
open PySem PySem.Spec PyProof.Rows
abbrev TO:=St→Hp→(Option Int→Hp→Prop)→Prop
def PO (X:Cx) (e:Option Expr) (t:TO):Prop :=
 ∀ (pins:List (Addr×Obj)) (s:Shared) (σ:St) (H:Hp) (Q:Option Int→Hp→Prop),Inv X pins σ H s→t σ H Q →
  wpAny (model X.prog X.w) X.A (evalPart e X.env) (fun u s'=>∃ o H',Inv X pins σ H' s'∧IsPart u o∧Q o H') X.xe s
def tPart (t:TE):TO:=fun σ H Q=>t σ H fun x H1=>∃ i,x = .int i∧Q (some i) H1
theorem lE {ns:List Int}:∀ {us:List Value},cg (ns.map V.int) us→IntsAre us ns:=by
 induction ns with
 | nil=>intro us r;rw [List.map_nil] at r;cases r;exact .nil
 | cons n ns ih =>
  intro us r;rw [ba] at r;cases r with
  | cons r1 r2 =>
   obtain ⟨t,e⟩:=r1
   subst e;exact .cons n t (ih r2)
section
variable {X:Cx} {e:Expr} {te:TE} {lo hi:Option Expr} {tl th:TO} {pos p2:Pos}
theorem gJ (h:PE X e te):PO X (some e) (tPart te):=by
 intro pins s σ H Q I hw;rw [evalPart_some];refine thn (h pins s σ H _ I hw) fun u s1 ⟨x,H1,I1,r1,q1⟩=>?_
 obtain ⟨i,rfl,q⟩:=q1
 obtain ⟨t,rfl⟩:=r1
 exact ⟨some i,H1,I1,.int i t,q⟩
def SlR (X:Cx) (r:V→Option Int→Option Int→Hp→VK→Prop):Prop :=
 ∀ (pins:List (Addr×Obj)) (s:Shared) (σ:St) (H:Hp) (x:V) (v vl vu:Value) (lo hi:Option Int) (sl:Addr) (Q:VK),Inv X pins σ H s→b7 x v→s.heap.IsSliceOf sl vl vu .none→IsPart vl lo→IsPart vu hi→r x lo hi H Q →
  ∃ T id,typeLookup (.type T) "__getitem__" = pure (some (.builtin id))∧s.TypeIs v T∧wpAny (model X.prog X.w) X.A (getItem v (.ref sl)) (EP X pins σ Q) X.xe s
def tSl (r:V→Option Int→Option Int→Hp→VK→Prop) (te:TE) (tl th:TO):TE:=fun σ H Q=>te σ H fun x H1=>tl σ H1 fun l H2=>th σ H2 fun u H3=>r x l u H3 Q
theorem jz {r:V→Option Int→Option Int→Hp→VK→Prop} (hr:SlR X r) (he:PE X e te) (hl:PO X lo tl) (hu:PO X hi th):PE X (.Subscript e (.Slice lo hi none p2) pos) (tSl r te tl th):=by
 intro pins s σ H Q I h;refine Subscript_ (thn (he pins s σ H _ I h) fun v s1 ⟨x,H1,I1,r1,q1⟩=>?_)
 refine wpAny_Slice (thn (hl pins s1 σ H1 _ I1 q1) fun vl s2 ⟨l,H2,I2,pl,q2⟩=>thn (hu pins s2 σ H2 _ I2 q2) fun vu s3 ⟨u,H3,I3,pu,q3⟩=>?_)
 rw [evalPart_none];refine aM ?_
 have I4:Inv X pins σ H3 { s3 with heap:=s3.heap.push { cls:=.type "slice",data:=.fields #[vl,vu,.none] } }:=I3.kept (t':=s3.toks) fun b ob q=>aK _ q
 obtain ⟨T,id,hT,ht,hg⟩:=hr pins { s3 with heap:=s3.heap.push { cls:=.type "slice",data:=.fields #[vl,vu,.none] } } σ H3 x v vl vu l u s3.heap.objs.size Q I4 r1 (Heap.IsSliceOf.new ..) pl pu q3
 show wpAny (model X.prog X.w) X.A (subscriptTail e (.Slice lo hi none p2) v (.ref s3.heap.objs.size)) (EP X pins σ Q) X.xe { s3 with heap:=s3.heap.push { cls:=.type "slice",data:=.fields #[vl,vu,.none] } }
 exact tail_any (ops:=[.ref s3.heap.objs.size,v]) ht hT hg (by with_unfolding_all rfl)
def sM (xs:List V) (lo hi:Option Int):List V:=(xs.drop (HT.sIx xs.length 0 lo)).take (HT.sIx xs.length xs.length hi - HT.sIx xs.length 0 lo)
theorem pj (xs:List V) (lo hi:Option Int):(sM xs lo hi).length≤xs.length:=by
 unfold sM;rw [aY,aC];omega
end
def ixN (n:Nat) (i:Int):Option Nat:=if 0≤i then (if i<n then some i.toNat else none) else if -(n:Int)≤i then some (i+n).toNat else none
def atI {α:Type} (xs:List α) (i:Int):Option α:=(ixN xs.length i).bind fun j=>xs[j]?
theorem qU {n:Nat} {i:Int} {j:Nat} (h:ixN n i=some j):seqIndex? i n=some j∧j<n∧-(n:Int)≤i∧i<n:=by
 unfold ixN at h;by_cases h0:0≤i
 ·rw [ao h0] at h;by_cases h1:i<n
  ·rw [ao h1] at h;have e:i.toNat=j:=aA h
   exact ⟨by rw [seqIndex_of h0 h1,e],by omega,by omega,h1⟩
  ·rw [ah h1] at h;cases h
 ·rw [ah h0] at h;by_cases h1:-(n:Int)≤i
  ·rw [ao h1] at h;have e:(i+n).toNat=j:=aA h
   exact ⟨by rw [seqIndex_neg (by omega) h1,e],by omega,h1,by omega⟩
  ·rw [ah h1] at h;cases h
theorem v9 {α:Type} {xs:List α} {i:Int} {v:α} (h:atI xs i=some v):∃ j,seqIndex? i xs.length=some j∧xs[j]? = some v∧j<xs.length∧-(xs.length:Int)≤i∧i<xs.length:=by
 unfold atI at h;cases e:ixN xs.length i with
 | none=>rw [e] at h;cases h
 | some j =>
  rw [e] at h;obtain ⟨h1,h2,h3,h4⟩:=qU e
  exact ⟨j,h1,h,h2,h3,h4⟩
theorem dR {α:Type} {xs:List α} {j:Nat} {v:α} (h:xs[j]? = some v):atI xs (j:Int)=some v:=by
 have hj:j<xs.length:=(ay.mp h).1
 have e:ixN xs.length (j:Int)=some j:=by
  unfold ixN;rw [ao (by omega),ao (by omega)];simp
 unfold atI;rw [e];exact h
theorem jH {α:Type} (xs:List α) (v:α):atI (xs++[v]) (-1)=some v:=by
 have hl:(xs++[v]).length=xs.length+1:=by simp
 have e:ixN (xs++[v]).length (-1)=some xs.length:=by
  unfold ixN;rw [hl,ah (by decide),ao (by omega)]
  congr 1
  omega
 unfold atI;rw [e];show (xs++[v])[xs.length]? = some v
 simp
def wj (b:Expr):Prop:=∀ o i,subscripted b false o i=operate [o,i] (getItem o i)
def IxR (X:Cx) (r:R2):Prop :=
 ∀ (value slice:Expr) (pins:List (Addr×Obj)) (s:Shared) (σ:St) (H:Hp) (x y:V) (v u:Value) (Q:VK),Inv X pins σ H s→b7 x v→b7 y u→r x y H Q →
  subscripted slice false v u=operate [v,u] (getItem v u)→wpAny (model X.prog X.w) X.A (subscriptTail value slice v u) (EP X pins σ Q) X.xe s
def MtR (X:Cx) (id:String) (r:V→List V→Hp→VK→Prop):Prop :=
 ∀ (pins:List (Addr×Obj)) (s:Shared) (σ:St) (H:Hp) (x:V) (xs:List V) (v:Value) (us:List Value) (Q:VK),Inv X pins σ H s→b7 x v→cg xs us→r x xs H Q →
  wpAny (model X.prog X.w) X.A (call (.builtin id) (v::us)) (EP X pins σ Q) X.xe s
section
variable {X:Cx} {a b:Expr} {ta tb:TE} {pos:Pos}
theorem cK {r:R2} (hr:IxR X r) (ha:PE X a ta) (hb:PE X b tb) (hs:wj b):PE X (.Subscript a b pos) (tOp r ta tb):=by
 intro pins s σ H Q I h;exact Subscript_ (yR ha hb I h fun v u s2 x y H2 I2 rx ry q=>hr a b pins s2 σ H2 x y v u Q I2 rx ry q (hs _ _))
def rIxL (K:Fg_):R2:=fun x y H Q=>∃ p xs i v,x = .ref p∧y = .int i∧SqL K H p xs∧atI xs i=some v∧Q v H
theorem bM:IxR X (rIxL X.K):=by
 intro value slice pins s σ H x y v u Q I rx ry h hs;obtain ⟨p,xs,i,z,rfl,rfl,hq,he,q⟩:=h
 cases rx;obtain ⟨t,rfl⟩:=ry
 obtain ⟨its,r,pl,hz⟩:=I.list hq
 obtain ⟨j,h1,h2,h3,h4,h5⟩:=v9 he
 obtain ⟨w,ew,rw'⟩:=r.get h2
 have hl:=r.length
 have hn:=jT
 have fin:EP X pins σ Q w s:=⟨z,H,I,rw',q⟩
 by_cases h0:0≤i
 ·have hj:i.toNat=j:=by
   rw [seqIndex_of h0 h5] at h1;exact aA h1
  exact item_listR pl.isList h0 (by omega) (by rw [hj];simpa using ew) fin hs
 ·have hj:(i+(its.toArray.size:Int)).toNat=j:=by
   rw [seqIndex_neg (by omega) h4] at h1
   rw [aZ,←hl];exact aA h1
  exact subscriptTail_builtinR (x:=w) pl.isList.typeIs slot_list_getitem.lookup
   (wpAny_getItem_list_neg (Q:=fun r s'=>r=w∧EP X pins σ Q r s') pl.isList (by omega) (by rw [aZ]<;>omega) (by omega) (by rw [hj];simpa using ew) ⟨rfl,fin⟩) hs
theorem qe (its:List Value) (n j:Nat) (u:Value):Obj.mapSeq (·.setIfInBounds j u) { cls:=.type "list",data:=.seq its.toArray n }={ cls:=.type "list",data:=.seq (its.set j u).toArray n }:=by
 simp [Obj.mapSeq]
theorem Inv.lst {pins:List (Addr×Obj)} {σ:St} {H:Hp} {s:Shared} {p:Addr} {xs:List V} (I:Inv X pins σ H s) (h:H p=some (.lst xs)) :
  ∃ (its:List Value) (n:Nat),cg xs its∧s.heap.get? p=some { cls:=.type "list",data:=.seq its.toArray n }∧xs.length≤sizeLine:=by
 obtain ⟨z,its,n,r,e⟩:=I.hok p _ h
 exact ⟨its,n,r,e,z⟩
theorem Inv.lstUpd {pins:List (Addr×Obj)} {σ:St} {H:Hp} {s:Shared} {p:Addr} {xs ys:List V} {its its':List Value} {n n':Nat} {f:Obj→Obj} (I:Inv X pins σ H s) (h:H p=some (.lst xs))
  (ho:s.heap.get? p=some { cls:=.type "list",data:=.seq its.toArray n }) (hf:f { cls:=.type "list",data:=.seq its.toArray n }={ cls:=.type "list",data:=.seq its'.toArray n' }) (r:cg ys its') (hz:ys.length≤sizeLine) (t:Nat) :
  Inv X pins σ (upd H p (.lst ys)) { s with heap:=s.heap.update p f,toks:=t }:=by
 have e:(s.heap.update p f).get? p=some { cls:=.type "list",data:=.seq its'.toArray n' }:=by
  rw [Heap.get?_update_self f ho (by rw [hf]<;>rfl),hf]
 refine I.write (x:=p) (e:=p) (by rw [h];trivial) (.inl rfl) (fun b u hb q=>(Heap.get?_update_other _ _ (aN hb)).trans q) ⟨_,e⟩ ?_
 exact ⟨hz,its',n',r,e⟩
def rSetL:V→V→V→Hp→(Hp→Prop)→Prop:=fun o i v H Q=>∃ p xs k j,o = .ref p∧i = .int k∧H p=some (.lst xs)∧ixN xs.length k=some j∧Q (upd H p (.lst (xs.set j v)))
theorem jv:yV X rSetL:=by
 intro pins s σ H o i v ov iv u Q I ro ri rv h;obtain ⟨p,xs,k,j,rfl,rfl,hp,hj,q⟩:=h
 cases ro;obtain ⟨t,rfl⟩:=ri
 obtain ⟨its,n,r,ho,hz⟩:=I.lst hp
 obtain ⟨h1,h2,h3,h4⟩:=qU hj
 have hl:=r.length
 have hn:=jT
 have I':Inv X pins σ (upd H p (.lst (xs.set j v))) { s with heap:=s.heap.update p (Obj.mapSeq (·.setIfInBounds j u)) } :=
  I.lstUpd hp ho (qe its n j u) (r.set rv j) (by rw [cV];exact hz) s.toks
 by_cases h0:0≤k
 ·have hk:k.toNat=j:=by
   rw [seqIndex_of h0 h4] at h1;exact aA h1
  exact PySem.W.ki_setAt ho h0 (by omega) (by rw [aZ,←hl];exact h4) (by rw [hk];exact ⟨_,I',q⟩)
 ·have hk:(k+(its.toArray.size:Int)).toNat=j:=by
   rw [seqIndex_neg (by omega) h3] at h1
   rw [aZ,←hl];exact aA h1
  exact PySem.W.ki_setBack ho (by omega) (by rw [aZ,←hl];exact h3) (by omega) (by rw [hk];exact ⟨_,I',q⟩)
theorem m6 (lo hi:Option Int) (n:Nat):(sliceBounds lo hi none n).1=((HT.sIx n 0 lo:Nat):Int)∧(sliceBounds lo hi none n).2.1=((HT.sIx n n hi:Nat):Int)∧(sliceBounds lo hi none n).2.2=1:=by
 refine ⟨?_,?_,rfl⟩
 ·cases lo with
  | none=>simp [sliceBounds,HT.sIx]
  | some i =>
   simp only [sliceBounds,HT.sIx,Option.getD_none,show (1:Int)>0 by decide,if_true]
   by_cases h:i<0
   ·simp only [h,if_true]<;>omega
   ·simp only [h,if_false]<;>omega
 ·cases hi with
  | none=>simp [sliceBounds,HT.sIx]
  | some i =>
   simp only [sliceBounds,HT.sIx,Option.getD_none,show (1:Int)>0 by decide,if_true]
   by_cases h:i<0
   ·simp only [h,if_true]<;>omega
   ·simp only [h,if_false]<;>omega
theorem lW (its:List Value) (lo hi:Option Int):slicePick its.toArray lo hi none=((its.drop (HT.sIx its.length 0 lo)).take (HT.sIx its.length its.length hi - HT.sIx its.length 0 lo)).toArray:=by
 obtain ⟨h1,h2,h3⟩:=m6 lo hi its.toArray.size
 unfold slicePick;rw [h1,h2,h3];simp only [sliceRange_one,pick_run,aZ]<;>rfl
def rSlL (K:Fg_):V→Option Int→Option Int→Hp→VK→Prop:=fun x lo hi H Q=>∃ a xs,x = .ref a∧SqL K H a xs∧∀ p,H p=none→Q (.ref p) (upd H p (.lst (sM xs lo hi)))
theorem kr:SlR X (rSlL X.K):=by
 intro pins s σ H x v vl vu lo hi sl Q I rx hs pl pu h;obtain ⟨a,xs,rfl,hx,q⟩:=h
 cases rx;obtain ⟨its,r,ht,hz⟩:=I.list hx
 have hlen:=r.length
 refine ⟨"list",_,slot_list_getitem.lookup,ht.isList.typeIs,?_⟩
 refine wpAny_getItem_list_slice ht.isList hs pl pu .none (by simp) ?_ (by rw [aZ]<;>omega)
 rw [lW,←hlen];refine ⟨.ref s.heap.objs.size,_,I.laid (t':=s.toks) (o:=.lst (sM xs lo hi)) (fun b ob q=>aK _ q) (aI _) ?_,rfl,q _ (I.hok.fresh (aI _))⟩
 exact ⟨bH (pj xs lo hi) hz,_,0,(r.drop (HT.sIx xs.length 0 lo)).take (HT.sIx xs.length xs.length hi - HT.sIx xs.length 0 lo),aW _ rfl⟩
def jF:V→Bool
 | .non=>true
 | .bl _=>true
 | .int _=>true
 | .str _=>true
 | _=>false
def eqV:V→V→Bool
 | .non,.non=>true
 | .bl a,.bl b=>a==b
 | .bl a,.int b=>(if a then 1 else 0)==b
 | .int a,.bl b=>a==(if b then 1 else 0)
 | .int a,.int b=>a==b
 | .str a,.str b=>a==b
 | _,_=>false
theorem yL {A:Around} {s:Shared} {y x:V} {u v:Value} (ry:b7 y u) (rx:b7 x v) (fy:jF y=true) (fx:jF x=true):SeqAt.EqAt A s u v (eqV y x):=by
 cases y with
 | non =>
  cases ry;cases x with
  | non=>cases rx;exact SeqAt.EqAt.same _
  | bl b=>cases rx;exact SeqAt.EqAt.none_bool b
  | int b=>obtain ⟨t,rfl⟩:=rx;exact SeqAt.EqAt.none_int b t
  | str b=>obtain ⟨t,rfl⟩:=rx;exact SeqAt.EqAt.none_str b t
  | _=>exact aP (show false=true from fx) aS
 | bl a =>
  cases ry;cases x with
  | non=>cases rx;exact SeqAt.EqAt.bool_none a
  | bl b=>cases rx;exact SeqAt.EqAt.bool_bool a b
  | int b=>obtain ⟨t,rfl⟩:=rx;exact SeqAt.EqAt.bool_int a b t
  | str b=>obtain ⟨t,rfl⟩:=rx;exact SeqAt.EqAt.bool_str a b t
  | _=>exact aP (show false=true from fx) aS
 | int a =>
  obtain ⟨t',rfl⟩:=ry
  cases x with
  | non=>cases rx;exact SeqAt.EqAt.int_none a t'
  | bl b=>cases rx;exact SeqAt.EqAt.int_bool a t' b
  | int b=>obtain ⟨t,rfl⟩:=rx;exact SeqAt.EqAt.int_int a t' b t
  | str b=>obtain ⟨t,rfl⟩:=rx;exact SeqAt.EqAt.int_str a t' b t
  | _=>exact aP (show false=true from fx) aS
 | str a =>
  obtain ⟨t',rfl⟩:=ry
  cases x with
  | non=>cases rx;exact SeqAt.EqAt.str_none a t'
  | bl b=>cases rx;exact SeqAt.EqAt.str_bool a t' b
  | int b=>obtain ⟨t,rfl⟩:=rx;exact SeqAt.EqAt.str_int a t' b t
  | str b=>obtain ⟨t,rfl⟩:=rx;exact SeqAt.EqAt.str_str a t' b t
  | _=>exact aP (show false=true from fx) aS
 | _=>exact aP (show false=true from fy) aS
def eqU (x:V) (u:Value):Bool:=match u with
 | .none=>eqV .non x
 | .bool b=>eqV (.bl b) x
 | .int i _=>eqV (.int i) x
 | .str z _=>eqV (.str z) x
 | _=>false
theorem uG {x y:V} {u:Value} (r:b7 y u) (f:jF y=true):eqU x u=eqV y x:=by
 cases y with
 | non=>cases r;rfl
 | bl b=>cases r;rfl
 | int i=>obtain ⟨t,rfl⟩:=r;rfl
 | str z=>obtain ⟨t,rfl⟩:=r;rfl
 | _=>exact aP (show false=true from f) aS
theorem nY {x:V}:∀ {xs:List V} {us:List Value},cg xs us→xs.all jF=true→us.any (eqU x)=xs.any fun y=>eqV y x
 | _,_,.nil,_=>rfl
 | y::xs,u::us,.cons r t,f=>by
  rw [f9,bb] at f;rw [f7,f7,uG r f.1,nY t f.2]
theorem ly {A:Around} {s:Shared} {x:V} {v:Value} (rx:b7 x v) (fx:jF x=true):∀ {xs:List V} {us:List Value},cg xs us→xs.all jF=true→∀ u∈us,SeqAt.EqAt A s u v (eqU x u)
 | _,_,.nil,_=>fun u hu=>by cases hu
 | y::xs,u::us,.cons r t,f=>fun u' hu=>by
  rw [f9,bb] at f;rcases aF.mp hu with rfl | hu
  ·rw [uG r f.1];exact yL r rx f.1 fx
  ·exact ly rx fx t f.2 u' hu
def inV (x:V) (xs:List V):Bool:=xs.any fun y=>eqV y x
def rIn (K:Fg_) (neg:Bool):R2:=fun x y H Q=>∃ p xs,y = .ref p∧(SqL K H p xs∨SqT K H p xs)∧jF x=true∧xs.all jF=true∧Q (.bl (if neg then !inV x xs else inV x xs)) H
theorem i9:OpR X (compareOp .In) (rIn X.K false):=by
 intro pins s σ H x y v u Q I rx ry h;obtain ⟨p,xs,rfl,hq,fx,fs,q⟩:=h
 cases ry;rcases hq with hq | hq
 ·obtain ⟨its,r,pl,hz⟩:=I.list hq
  refine SeqAt.in_listAt (eqU x) pl.isList (fun w hw=>ly rx fx r fs w (by simpa using hw)) ⟨.bl _,H,I,rfl,?_⟩
  rw [show its.toArray.any (eqU x)=its.any (eqU x) by simp,nY r fs]
  exact q
 ·obtain ⟨its,r,pl,hz⟩:=I.tuple hq
  refine SeqAt.in_tupleAt (eqU x) pl (fun w hw=>ly rx fx r fs w (by simpa using hw)) ⟨.bl _,H,I,rfl,?_⟩
  rw [show its.toArray.any (eqU x)=its.any (eqU x) by simp,nY r fs]
  exact q
theorem nR:jg X (.builtin "len") (fun xs H Q=>∃ p ys,xs=[.ref p]∧(SqL X.K H p ys∨SqT X.K H p ys)∧Q (.int ys.length) H):=by
 intro pins s σ H xs us Q I r h;obtain ⟨p,ys,rfl,hq,q⟩:=h
 obtain ⟨u,rfl,rx⟩:=og r
 cases rx;have hn:=jT
 rcases hq with hq | hq
 ·obtain ⟨its,r',pl,hz⟩:=I.list hq
  have hlen:=r'.length
  exact Calls.call_len_list pl.isList (by simp only [aZ]<;>omega) ⟨.int ys.length,H,I.tok _,⟨s.toks+1,by rw [aZ,hlen]⟩,q⟩
 ·obtain ⟨its,r',pl,hz⟩:=I.tuple hq
  have hlen:=r'.length
  exact len_tuple pl (by simp only [aZ]<;>omega) ⟨.int ys.length,H,I.tok _,⟨s.toks+1,by rw [aZ,hlen]⟩,q⟩
theorem gY:jg X (.type "tuple") (fun xs H Q=>∃ p ys,xs=[.ref p]∧((SqL X.K H p ys∧∀ l,H l=none→Q (.ref l) (upd H l (.tup ys)))∨(SqT X.K H p ys∧Q (.ref p) H))):=by
 intro pins s σ H xs us Q I r h;obtain ⟨p,ys,rfl,h⟩:=h
 obtain ⟨u,rfl,rx⟩:=og r
 cases rx;rcases h with ⟨hq,q⟩ | ⟨hq,q⟩
 ·obtain ⟨its,r',pl,hz⟩:=I.list hq
  have hlen:=r'.length
  refine call_tuple_list pl.isList (fun h' kp=>?_) (by simp only [aZ]<;>omega)
  have I1:Inv X pins σ H { s with heap:=h' }:=I.kept (t':=s.toks) kp
  have I2:Inv X pins σ (upd H h'.objs.size (.tup ys)) { s with heap:=h'.push { cls:=.type "tuple",data:=.seq its.toArray } } :=
   I1.laid (t':=s.toks) (fun b o e=>aK _ e) (aI _) (show du X.prog X.w _ _ _ (.tup ys) from ⟨hz,its,r',IsTup.new _ _⟩)
  exact ⟨.ref h'.objs.size,_,I2,rfl,q _ (I1.hok.fresh (aI _))⟩
 ·obtain ⟨its,r',pl,hz⟩:=I.tuple hq
  exact call_tuple_same pl ⟨.ref p,H,I,rfl,q⟩
def tyV (K:Fg_) (T:String) (x:V) (H:Hp):Prop:=match x with
 | .str _=>T = "str"
 | .int _=>T = "int"
 | .ref p=>(T = "list"∧∃ xs,SqL K H p xs)∨(T = "tuple"∧∃ o,K.lookup p=some o∧o.cls = .type "tuple"∧o.dict=none) ∨
   (T = "dict"∧((∃ kvs,H p=some (.dK kvs))∨∃ kvs,H p=some (.dT kvs)))∨(T = "set"∧∃ S n,H p=some (.set S n))
 | _=>False
theorem tm {pins:List (Addr×Obj)} {σ:St} {H:Hp} {s:Shared} {T:String} {x:V} {v:Value} (I:Inv X pins σ H s) (r:b7 x v) (ty:tyV X.K T x H) :
  s.TypeIs v T∧∀ a,v = .ref a→∃ ob,s.heap.get? a=some ob∧ob.dict=none:=by
 cases x with
 | str z =>
  obtain ⟨t,rfl⟩:=r
  cases (show T = "str" from ty)
  exact ⟨typeIs_str s z t,fun _ e=>nomatch e⟩
 | int i =>
  obtain ⟨t,rfl⟩:=r
  cases (show T = "int" from ty)
  exact ⟨typeIs_int s i t,fun _ e=>nomatch e⟩
 | ref p =>
  cases r;rcases ty with ⟨rfl,xs,hq⟩ | ⟨rfl,o,hk,hc,hd⟩ | ⟨rfl,hk⟩ | ⟨rfl,S,n,hk⟩
  ·obtain ⟨its,_,pl,_⟩:=I.list hq
   refine ⟨pl.isList.typeIs,fun a e=>?_⟩
   cases e;obtain ⟨o,n,e,c,hd,_⟩:=pl
   exact ⟨o,e,hd⟩
  ·refine ⟨⟨o,I.kIn p o hk,hc⟩,fun a e=>?_⟩
   cases e;exact ⟨o,I.kIn _ o hk,hd⟩
  ·have z:∃ o,s.heap.get? p=some o∧o.ExactDict:=by
    rcases hk with ⟨kvs,hk⟩ | ⟨kvs,hk⟩
    ·obtain ⟨_,_,_,_,o,_,_,e,ex,_⟩:=I.hok p _ hk
     exact ⟨o,e,ex⟩
    ·obtain ⟨_,_,_,_,o,_,_,e,ex,_⟩:=I.hok p _ hk
     exact ⟨o,e,ex⟩
   obtain ⟨o,e,ex⟩:=z
   refine ⟨⟨o,e,ex.1⟩,fun a e2=>?_⟩
   cases e2;exact ⟨o,e,ex.2.1⟩
  ·obtain ⟨o,_,_,_,e,ex,_⟩:=I.hok p _ hk
   refine ⟨⟨o,e,ex.1⟩,fun a e2=>?_⟩
   cases e2;exact ⟨o,e,ex.2.1⟩
 | _=>exact False.elim ty
def tBM0 (K:Fg_) (T:String) (r:V→List V→Hp→VK→Prop) (to:TE):TE:=fun σ H Q=>to σ H fun x H1=>tyV K T x H1∧r x [] H1 Q
def tBM (K:Fg_) (T:String) (r:V→List V→Hp→VK→Prop) (to:TE) (t:TA):TE:=fun σ H Q=>to σ H fun x H1=>tyV K T x H1∧t σ H1 fun xs H2=>r x xs H2 Q
variable {o e:Expr} {es:List Expr} {to:TE} {t:TA} {name:Str} {apos cpos:Pos} {T id:String} {r:V→List V→Hp→VK→Prop}
theorem jk (pa:PlainAttrs T) (slot:Slot T name id) (hty:typeOf (.builtin id)=pure (.type "method_descriptor")) (hm:MtR X id r) (ho:PE X o to)
  (hbase:attributeBase o name X.env (eval o X.env)=eval o X.env:=by rfl) (hline:(apos.endLine==cpos.line)=true:=by rfl):PE X (.Call (.Attribute o name apos) [] [] cpos) (tBM0 X.K T r to):=by
 intro pins s σ H Q I h;refine wpAny_Call_method0_late hbase hline (thn (ho pins s σ H _ I h) fun v s1 ⟨x,H1,I1,r1,ty,q1⟩=>?_)
 obtain ⟨h1,h2⟩:=tm I1 r1 ty
 exact ⟨T,id,pa,slot,hty,h1,h2,Calls.callWith_builtin rfl (PySem.evalArgs_none (hm pins s1 σ H1 x [] v [] Q I1 r1 .nil q1))⟩
theorem g8 (pa:PlainAttrs T) (slot:Slot T name id) (hty:typeOf (.builtin id)=pure (.type "method_descriptor")) (hm:MtR X id r) (ho:PE X o to) (ha:PA X (e::es) t)
  (hbase:attributeBase o name X.env (eval o X.env)=eval o X.env:=by rfl)
  (hfew:((backTo cpos (starEach (e::es) X.env)).all (fun x=>!x.1)&&(backToKw cpos (keywordEach [] X.env)).all (fun x=>x.1.isSome)
   && decide ((e::es).length+([]:List Keyword).length+(if ([]:List Keyword).isEmpty then 0 else 1)<30))=true:=by rfl)
  (hline:(apos.endLine==cpos.line)=true:=by rfl) (hs:starEach (e::es) X.env=(false,eval e X.env)::starEach es X.env:=by rfl) (hplain:(backTo cpos (starEach es X.env)).any (·.1)=false:=by rfl) :
  PE X (.Call (.Attribute o name apos) (e::es) [] cpos) (tBM X.K T r to t):=by
 intro pins s σ H Q I h;refine wpAny_Call_method_late hbase hfew hline rfl (thn (ho pins s σ H _ I h) fun v s1 ⟨x,H1,I1,r1,ty,q1⟩=>?_)
 obtain ⟨h1,h2⟩:=tm I1 r1 ty
 refine ⟨T,id,pa,slot,hty,h1,h2,?_⟩
 have hA:=ha cpos pins s1 σ H1 _ I1 q1
 rw [hs] at hA ⊢;refine Calls.callWith_builtin (by show (false||(backTo cpos (starEach es X.env)).any (·.1))=false;rw [hplain]<;>rfl) (Calls.evalArgs_plain ?_)
 exact thn hA fun us s2 ⟨vs,H2,I2,r2,q2⟩=>hm pins s2 σ H2 x vs v us Q I2 r1 r2 q2
end
def MtM (X:Cx) (id:String) (r:V→List V→Hp→VK→Prop):Prop :=
 ∀ (pins:List (Addr×Obj)) (s:Shared) (σ:St) (H:Hp) (x:V) (xs:List V) (v:Value) (us:List Value) (Q:VK),Inv X pins σ H s→b7 x v→cg xs us→r x xs H Q →
  wpAny (model X.prog X.w) X.A (call (.builtin id) (v::us)) (EP X pins σ Q) X.xe s
theorem cg.one:∀ {x:V} {us:List Value},cg [x] us→∃ u,us=[u]∧b7 x u
 | _,_,.cons r .nil=>⟨_,rfl,r⟩
theorem cg.zero:∀ {us:List Value},cg [] us→us=[]
 | _,.nil=>rfl
theorem cg.dropLast {xs:List V} {us:List Value} (h:cg xs us):cg xs.dropLast us.dropLast:=by
 induction h with
 | nil=>exact .nil
 | cons r t ih =>
  cases t with
  | nil=>exact .nil
  | cons q t'=>exact .cons r ih
theorem cg.reverse {xs:List V} {us:List Value} (h:cg xs us):cg xs.reverse us.reverse:=by
 induction h with
 | nil=>exact .nil
 | cons r t ih=>rw [cE,cE];exact cg.append ih (.cons r .nil)
theorem qr {α:Type} (l:List α):l.eraseIdx (l.length - 1)=l.dropLast:=by
 induction l with
 | nil=>rfl
 | cons a r ih =>
  cases r with
  | nil=>rfl
  | cons b r =>
   have e:(a::b::r).length - 1=((b::r).length - 1)+1:=by
    have h1:(a::b::r).length=r.length+2:=rfl
    have h2:(b::r).length=r.length+1:=rfl
    omega
   rw [e,List.eraseIdx_cons_succ,ih];all_goals rfl
section
variable {X:Cx} {pins:List (Addr×Obj)} {σ:St} {H:Hp} {s:Shared} {l b:Addr} {xs ys zs:List V}
theorem Inv.lset {its its':List Value} {n:Nat} {f:Array Value→Array Value} {t':Nat} (I:Inv X pins σ H s) (hH:H l=some (.lst xs))
  (e:s.heap.get? l=some { cls:=.type "list",data:=.seq its.toArray n }) (hf:f its.toArray=its'.toArray) (hv:cg ys its') (hz:ys.length≤sizeLine) :
  Inv X pins σ (upd H l (.lst ys)) { s with heap:=s.heap.update l (Obj.mapSeq f),toks:=t' }:=by
 have q:=PySem.IsL.update e f
 rw [hf] at q;refine I.write (x:=l) (e:=l) (by rw [hH];exact trivial) (.inl rfl) (fun b' u hb hu=>(Heap.get?_update_other s.heap (Obj.mapSeq f) (aN hb)).trans hu) ⟨_,q⟩ ?_
 exact ⟨hz,its',_,hv,q⟩
theorem Inv.lnew {its:List Value} {t':Nat} (I:Inv X pins σ H s) (hv:cg ys its) (hz:ys.length≤sizeLine) :
  Inv X pins σ (upd H s.heap.objs.size (.lst ys)) { s with heap:=s.heap.push { cls:=.type "list",data:=.seq its.toArray },toks:=t' } :=
 I.laid (fun _ _ q=>aK _ q) (aI _) ⟨hz,its,0,hv,aW _ rfl⟩
theorem Inv.fresh (I:Inv X pins σ H s):H s.heap.objs.size=none:=I.hok.fresh (aI _)
theorem Inv.lstM (I:Inv X pins σ H s) (hH:H l=some (.lst xs)):xs.length≤sizeLine∧∃ (its:List Value) (n:Nat),cg xs its∧xs.length=its.length∧s.heap.get? l=some { cls:=.type "list",data:=.seq its.toArray n }:=by
 obtain ⟨z,its,n,r,e⟩:=I.hok l _ hH
 exact ⟨z,its,n,r,r.length,e⟩
theorem ug {n:Nat} (h:n≤sizeLine):Builtin.List.listTooLong n=false:=by
 unfold Builtin.List.listTooLong;exact ax (by omega)
end
section
variable {X:Cx}
def vE:V→List V→Hp→VK→Prop:=fun x vs H Q=>∃ l xs y,x = .ref l∧vs=[y]∧H l=some (.lst xs)∧xs.length<sizeLine∧Q .non (upd H l (.lst (xs++[y])))
theorem eI:MtM X "list.append" vE:=by
 intro pins s σ H x vs v us Q I rx rv h;obtain ⟨l,xs,y,rfl,rfl,hH,hz,q⟩:=h
 cases rx;obtain ⟨u,rfl,ru⟩:=rv.one
 obtain ⟨z,its,n,r,hl,e⟩:=I.lstM hH
 refine call_meets F.slot_list_append ⟨_,e,rfl⟩ F.entry_list_append (F.args_list_append_2 _ _) (PySem.list_append l its.toArray n u (by rw [aZ];omega)) ⟨e,?_⟩
 refine ⟨.non,_,I.lset (its':=its++[u]) hH e (by simp) (r.append (.cons ru .nil)) ?_,rfl,q⟩
 rw [aG,dJ];omega
def vD:V→List V→Hp→VK→Prop:=fun x vs H Q=>∃ l b xs zs,x = .ref l∧vs=[.ref b]∧H l=some (.lst xs)∧H b=some (.lst zs)∧xs.length+zs.length≤sizeLine∧Q .non (upd H l (.lst (xs++zs)))
theorem jS:MtM X "list.extend" vD:=by
 intro pins s σ H x vs v us Q I rx rv h;obtain ⟨l,b,xs,zs,rfl,rfl,hH,hB,hz,q⟩:=h
 cases rx;obtain ⟨u,rfl,ru⟩:=rv.one
 cases ru;obtain ⟨z,its,n,r,hl,e⟩:=I.lstM hH
 obtain ⟨z2,its2,n2,r2,hl2,e2⟩:=I.lstM hB
 have hsz:its.toArray.size+its2.toArray.size≤sizeLine:=by rw [aZ,aZ];omega
 have hlong:¬(!its.toArray.isEmpty&&Builtin.List.listTooLong (its.toArray.size+its2.toArray.size))=true:=by
  rw [ug hsz,Bool.and_false];exact aS
 refine call_meets F.slot_list_extend ⟨_,e,rfl⟩ F.entry_list_extend (F.args_list_extend_2 _ _)
  (AutoSeq1.list_extend_list_list_0 l its.toArray n b its2.toArray n2 hlong (by rw [aZ];omega) (by omega)) ⟨e,e2,?_⟩
 refine ⟨.non,_,I.lset (its':=its++its2) hH e (by simp) (r.append r2) ?_,rfl,q⟩
 rw [aG];omega
def rPop:V→List V→Hp→VK→Prop:=fun x vs H Q=>∃ l xs y,x = .ref l∧vs=[]∧H l=some (.lst xs)∧xs[xs.length - 1]? = some y∧Q y (upd H l (.lst xs.dropLast))
theorem lu:MtM X "list.pop" rPop:=by
 intro pins s σ H x vs v us Q I rx rv h;obtain ⟨l,xs,y,rfl,rfl,hH,hy,q⟩:=h
 cases rx;have hus:=rv.zero
 subst hus;obtain ⟨z,its,n,r,hl,e⟩:=I.lstM hH
 obtain ⟨u,hu,ru⟩:=r.get hy
 have hy':its.toArray[its.toArray.size - 1]? = some u:=by
  show its.toArray[its.length - 1]? = some u
  rw [←cF,←hl];exact hu
 refine call_meets F.slot_list_pop ⟨_,e,rfl⟩ F.entry_list_pop (F.args_list_pop_1 _) (MeetsSeq.list_pop_last l its.toArray n u hy' (by rw [aZ];omega)) ⟨e,?_⟩
 refine ⟨y,_,I.lset (its':=its.dropLast) hH e ?_ r.dropLast ?_,ru,q⟩
 ·show its.toArray.eraseIdxIfInBounds (its.toArray.size - 1)=its.dropLast.toArray
  rw [aZ,List.eraseIdxIfInBounds_toArray,qr]
 ·rw [List.length_dropLast];omega
end
section
variable {prog:Program} {w:World} {A:Around} {E:Value→Shared→Prop} {s:Shared}
end
section
variable {X:Cx}
end
end L2
namespace Att
open PySem PySem.W PySem.Calls PyProof.Rows
section
variable {prog:Program} {w:World} {A:Around} {E:Value→Shared→Prop} {s:Shared} {K:Frag}
end
end Att
namespace L2
open PySem PySem.Spec PyProof.Rows
def f6 (s:Stmt) (j:Nat):Stmt:=match s with
 | .ClassDef _ _ _ body _ _ _ _ _ _ _=>body.getD j (.Pass ⟨0,0,0,0⟩)
 | _=>.Pass ⟨0,0,0,0⟩
def gq (s:Stmt):Arguments:=match s with
 | .FunctionDef _ a _ _ _ _ _ _ _ _=>a
 | _=>{ posonlyargs:=[],args:=[],vararg:=none,kwonlyargs:=[],kw_defaults:=[],kwarg:=none,defaults:=[] }
def fJ (s:Stmt):List Stmt:=match s with
 | .FunctionDef _ _ b _ _ _ _ _ _ _=>b
 | _=>[]
def a9 (s:Stmt):Scope:=match s with
 | .FunctionDef _ _ _ _ _ _ sc _ _ _=>sc
 | _=>{ kind:=.function,names:=[],isGenerator:=false,isCoroutine:=false }
abbrev CX0:CXT:=fun _ _ _ _ _ _=>False
abbrev E0:XK:=fun _ _ _=>False
theorem cM {X:Cx}:gC CX0 X E0:=fun _ _ _ _ _ _ _ h=>h.elim
structure Fun (K:Fg_) (x qual:Str) (st:Stmt) (f:Addr) (fd:FuncData):Prop where
 ex:∃ (oc:Value) (od:Option Addr) (kV doc pm:Value) (an:Option Addr) (cdv ct:Value) (osl:Array (Option Value)),
  fd=PySem.W.fnOf x qual (gq st) (fJ st) (a9 st) .none kV doc pm an cdv ct∧K.lookup f=some ⟨oc,od,.func fd,osl⟩∧PySem.W.codeIn K cdv qual=true
 kp:PySem.W.keepIn K (.ref f)=true
section
variable {P:Program} {w:World} {K:Fg_} {mg:Str→Option Value} {base:Heap}
theorem Fun.ok {x qual:Str} {st:Stmt} {f:Addr} {fd:FuncData} {N ps:List Str} {k:Nat} {sp:Sp} (F:Fun K x qual st f fd) (S:bw N ps (a9 st)) (len:∀ vs H Q E,sp vs H Q E→vs.length=ps.length)
  (hbody:∀ (cdv:Value) (A:Around) (outer:List Env) (s:Shared) (H:Hp) (vs:List V) (Q:VK) (E:XK),cB k (A.deeper (envOfC qual (a9 st) s.heap.objs.size f cdv))→sp vs H Q E →
   ∃ t,PSs (cY CX0 P w K mg base N qual (a9 st) f cdv A outer s H E).nox (fJ st) t∧t { nx:=fun _ H'=>Q .non H',rt:=Q } (start N vs) H):bK P w K mg base CX0 (k+1) f fd ps sp:=by
 obtain ⟨oc,od,kV,doc,pm,an,cdv,ct,osl,rfl,lk,hcd⟩:=F.ex
 refine wG lk hcd S len fun A outer s H vs Q E hr hsp=>?_
 obtain ⟨t,h,q⟩:=hbody cdv A outer s H vs Q E hr hsp
 exact ⟨t,h.nox,q⟩
theorem Fun.binds {x qual:Str} {st:Stmt} {f:Addr} {fd:FuncData} {ps:List Str} (F:Fun K x qual st f fd)
  (h:∀ (kV doc pm:Value) (an:Option Addr) (cdv ct:Value) (us:List Value),us.length=ps.length→bindArgs (PySem.W.fnOf x qual (gq st) (fJ st) (a9 st) .none kV doc pm an cdv ct) ⟨us,[]⟩=pure (ps.zip us)):bT K fd ps []:=by
 obtain ⟨oc,od,kV,doc,pm,an,cdv,ct,osl,rfl,lk,hcd⟩:=F.ex
 exact .all (h kV doc pm an cdv ct)
theorem fun_mk {x qual:Str} {st:Stmt} {f:Addr} {oc:Value} {od an:Option Addr} {osl:Array (Option Value)} {kV doc pm cdv ct:Value} (l:K.lookup f=some ⟨oc,od,.func (PySem.W.fnOf x qual (gq st) (fJ st) (a9 st) .none kV doc pm an cdv ct),osl⟩)
  (c:PySem.W.codeIn K cdv qual=true) (k:PySem.W.keepIn K (.ref f)=true):Fun K x qual st f (PySem.W.fnOf x qual (gq st) (fJ st) (a9 st) .none kV doc pm an cdv ct):=⟨⟨oc,od,kV,doc,pm,an,cdv,ct,osl,rfl,l,c⟩,k⟩
end
section
variable {X:Cx}
theorem pv (i:Nat) {x:Str} {pos:Pos} (hN:X.N[i]? = some x:=by rfl) (hv:Vis X.env.scope x:=by first | exact Or.inl rfl | exact Or.inr (.inl rfl) | exact Or.inr (Or.inr rfl)) (hd:(x==("__debug__" : Str))=false:=by decide)
  (hcd:(x==("__classdict__" : Str))=false:=by decide):PE X (.Name x pos) (pU i):=yo hN hv hd hcd
end
theorem cp {A B:Prop} (h:B):if false=true then A else B:=by
 rw [ah aS];exact h
theorem cq {A B:Prop} (h:A):if true=true then A else B:=by
 rw [ao rfl];exact h
theorem jn {c A B:Prop} [Decidable c] (h1:c→A) (h2:¬c→B):if c then A else B:=by
 by_cases h:c
 ·rw [ao h];exact h1 h
 ·rw [ah h];exact h2 h
def bC (H H':Hp):Prop:=∀ b o,H b=some o→H' b=some o
theorem bC.trans {H H1 H2:Hp} (a:bC H H1) (b:bC H1 H2):bC H H2:=fun c o h=>b c o (a c o h)
theorem bC.free {H H':Hp} (e:bC H H') {l:Addr} (h:H' l=Option.none):H l=Option.none:=by
 cases q:H l with
 | none=>rfl
 | some o =>
  rw [e l o q] at h;cases h
theorem bC.seq {K:Fg_} {H H':Hp} {a:Addr} {xs:List V} (e:bC H H') (h:SqL K H a xs):SqL K H' a xs:=by
 rcases h with (h | ⟨o,h⟩) | h
 ·exact .inl (.inl (e _ _ h))
 ·exact .inl (.inr ⟨o,e _ _ h⟩)
 ·exact .inr h
theorem fK {xs:List V} {z:Int} {j:Nat} {v:V} (e:z=(j:Int)) (h:xs[j]? = some v):atI xs z=some v:=by
 rw [e];exact dR h
theorem bC.made {H H1:Hp} {x dx C:Addr} (nx:H x=Option.none) (nd:H dx=Option.none) (k:∀ b o,(upd (upd H dx (.own x)) x (.ins C dx [])) b=some o→b≠x→H1 b=some o):bC H H1:=fun b o e =>
 k b o (by rw [aa (af e nx),aa (af e nd)];exact e) (af e nx)
open PySem.W (WData Codec OpenSpec Well WellAll ReadsW ReadsAllW)
mutual
inductive Dw (K:Fg_) (H:Hp):V→WData→Prop
 | non:Dw K H .non .none
 | bl (b:Bool):Dw K H (.bl b) (.bool b)
 | int (i:Int):Dw K H (.int i) (.int i)
 | str (x:Str):Dw K H (.str x) (.str x)
 | byt (b:Array UInt8):Dw K H (.byt b) (.bytes b.toList)
 | lst {a:Addr} {xs:List V} {ds:List WData}:SqL K H a xs→DwAll K H xs ds→Dw K H (.ref a) (.list ds)
 | tup {a:Addr} {xs:List V} {ds:List WData}:SqT K H a xs→DwAll K H xs ds→Dw K H (.ref a) (.tuple ds)
inductive DwAll (K:Fg_) (H:Hp):List V→List WData→Prop
 | nil:DwAll K H [] []
 | cons {v:V} {vs:List V} {d:WData} {ds:List WData}:Dw K H v d→DwAll K H vs ds→DwAll K H (v::vs) (d::ds)
end
theorem vX {K:Fg_} {H:Hp}:∀ ns:List Int,DwAll K H (ns.map V.int) (ns.map WData.int)
 | []=>.nil
 | n::r=>.cons (.int n) (vX r)
theorem vS {K:Fg_} {H:Hp}:∀ (ns:List Int) (xs:List V),DwAll K H xs (ns.map WData.int)→xs=ns.map V.int
 | [],xs,h=>by
  cases h;rfl
 | n::r,xs,h=>by
  cases h with
  | cons h1 h2 =>
   cases h1;rw [vS r _ h2]<;>rfl
section
variable {P:Program} {w:World} {K:Fg_} {H:Hp} {h:Heap} {R:PySem.W.WRecords} {cl:Str→Option Addr}
theorem xt {a:Addr} {xs:List V} (hok:HOk P w H h) (KX:K.In h) (q:SqL K H a xs):∃ (its:List Value) (o:Obj) (n:Nat),cg xs its∧h.get? a=some o∧o.cls = .type "list"∧o.data = .seq its.toArray n:=by
 rcases q with q | ⟨o,its,n,e,hc,_,hd,_,hv⟩
 ·obtain ⟨_,its,n,hv,e⟩:=(show du P w H h a (.lst xs) from q.ok hok)
  exact ⟨its,_,n,hv,e,rfl,rfl⟩
 ·exact ⟨its.toList,o,n,hv,KX _ _ e,hc,by simp [hd]⟩
theorem xr {a:Addr} {xs:List V} (hok:HOk P w H h) (KX:K.In h) (q:SqT K H a xs):∃ (its:List Value) (o:Obj) (n:Nat),cg xs its∧h.get? a=some o∧o.cls = .type "tuple"∧o.data = .seq its.toArray n:=by
 rcases q with q | ⟨o,its,n,e,hc,hd,_,hv⟩
 ·obtain ⟨_,its,hv,o,e,hc,n,hd⟩:=(show du P w H h a (.tup xs) from q.ok hok)
  exact ⟨its,o,n,hv,e,hc,hd⟩
 ·exact ⟨its.toList,o,n,hv,KX _ _ e,hc,by simp [hd]⟩
mutual
theorem Dw.reads (hok:HOk P w H h) (KX:K.In h):∀ (d:WData) (v:V) (u:Value),Dw K H v d→b7 v u→∃ as,ReadsW R cl h u d as
 | .none,_,_,x,r=>by
  cases x;cases r;exact ⟨_,ReadsW.none⟩
 | .bool b,_,_,x,r=>by
  cases x;cases r;exact ⟨_,ReadsW.bool b⟩
 | .int i,_,_,x,r=>by
  cases x;obtain ⟨t,rfl⟩:=r
  exact ⟨_,ReadsW.int i t⟩
 | .str s,_,_,x,r=>by
  cases x;obtain ⟨t,rfl⟩:=r
  exact ⟨_,ReadsW.str s t⟩
 | .bytes b,_,_,x,r=>by
  cases x;obtain ⟨t,rfl⟩:=r
  exact ⟨_,ReadsW.bytes _ t⟩
 | .list ds,_,_,x,r=>by
  cases x with
  | lst hs ha =>
   cases r;obtain ⟨its,o,n,rv,ho,hc,hd⟩:=xt hok KX hs
   obtain ⟨as,hr⟩:=Dw.readsAll hok KX ds _ its ha rv
   exact ⟨_,ReadsW.list ho hc hd hr⟩
 | .tuple ds,_,_,x,r=>by
  cases x with
  | tup hs ha =>
   cases r;obtain ⟨its,o,n,rv,ho,hc,hd⟩:=xr hok KX hs
   obtain ⟨as,hr⟩:=Dw.readsAll hok KX ds _ its ha rv
   exact ⟨_,ReadsW.tuple ho hc hd hr⟩
 | .float _,_,_,x,_=>by cases x
 | .dict _,_,_,x,_=>by cases x
 | .bytearray _,_,_,x,_=>by cases x
 | .set _,_,_,x,_=>by cases x
 | .frozenset _,_,_,x,_=>by cases x
 | .obj _ _,_,_,x,_=>by cases x
theorem Dw.readsAll (hok:HOk P w H h) (KX:K.In h):∀ (ds:List WData) (vs:List V) (us:List Value),DwAll K H vs ds→cg vs us→∃ as,ReadsAllW R cl h us ds as
 | [],_,_,x,r=>by
  cases x;cases r;exact ⟨_,ReadsAllW.nil⟩
 | d::ds,_,_,x,r=>by
  cases x with
  | cons h1 h2 =>
   cases r with
   | cons r1 r2 =>
    obtain ⟨as,q1⟩:=Dw.reads hok KX d _ _ h1 r1
    obtain ⟨bs,q2⟩:=Dw.readsAll hok KX ds _ _ h2 r2
    exact ⟨_,ReadsAllW.cons q1 q2⟩
end
end
mutual
noncomputable def plW:WData→Bool
 | .none=>true
 | .bool _=>true
 | .int _=>true
 | .str _=>true
 | .bytes _=>true
 | .list xs=>plWs xs
 | .tuple xs=>plWs xs
 | _=>false
noncomputable def plWs:List WData→Bool
 | []=>true
 | x::r=>plW x&&plWs r
end
theorem oR {α:Type} {f:α→WData} (h:∀ a,plW (f a)=true):∀ l:List α,plWs (l.map f)=true
 | []=>rfl
 | x::r=>by
  show (plW (f x)&&plWs (r.map f))=true
  rw [h x,oR h r]<;>rfl
theorem iI:∀ (c:Codec) (a:c.denote),plW (c.enc a)=true
 | .unit,_=>rfl
 | .bool,_=>rfl
 | .int _ _,_=>rfl
 | .nat _ _,_=>rfl
 | .u8,_=>rfl
 | .bytes _ _,_=>rfl
 | .text _ _ _ _,_=>rfl
 | .list _ _ c,a=>oR (fun x=>iI c x) a
 | .pair c d,a=>by
  show (plW (c.enc a.1)&&(plW (d.enc a.2)&&true))=true
  rw [iI c a.1,iI d a.2]<;>rfl
 | .triple c d e,a=>by
  show (plW (c.enc a.1)&&(plW (d.enc a.2.1)&&(plW (e.enc a.2.2)&&true)))=true
  rw [iI c a.1,iI d a.2.1,iI e a.2.2]<;>rfl
 | .option c,none=>rfl
 | .option c,some x=>iI c x
theorem mi:∀ (cs:List Codec) (a:Codec.denoteAll cs),plWs (Codec.encAll cs a)=true
 | [],_=>rfl
 | c::cs,a=>by
  show (plW (c.enc a.1)&&plWs (Codec.encAll cs a.2))=true
  rw [iI c a.1,mi cs a.2]<;>rfl
theorem jh:∀ {xs:List WData} {d:WData},d∈xs→d.weight≤WData.weightAll xs
 | [],d,h=>aP h (by simp)
 | x::r,d,h=>by
  show d.weight≤x.weight+1+WData.weightAll r
  rcases aF.mp h with e | m
  ·rw [e];omega
  ·have z:=jh m
   omega
def toV:Value→V
 | .none=>.non
 | .bool b=>.bl b
 | .int i _=>.int i
 | .str x _=>.str x
 | .bytes b _=>.byt b
 | .ref a=>.ref a
 | _=>.non
def OkU (A:List Addr):Value→Prop
 | .none=>True
 | .bool _=>True
 | .int _ _=>True
 | .str _ _=>True
 | .bytes _ _=>True
 | .ref a=>a∈A
 | _=>False
theorem OkU.mono {A B:List Addr} (h:∀ a∈A,a∈B):∀ {u:Value},OkU A u→OkU B u:=fun {u} x=>by
 cases u with
 | ref a=>exact h a x
 | none=>trivial
 | bool b=>trivial
 | int i t=>trivial
 | str s t=>trivial
 | bytes b t=>trivial
 | _=>exact False.elim x
theorem tT {A:List Addr} {u:Value} (x:OkU A u):b7 (toV u) u:=by
 cases u with
 | ref a=>rfl
 | none=>rfl
 | bool b=>rfl
 | int i t=>exact ⟨t,rfl⟩
 | str s t=>exact ⟨t,rfl⟩
 | bytes b t=>exact ⟨t,rfl⟩
 | _=>exact False.elim x
theorem gZ {A:List Addr}:∀ {vs:List Value},(∀ u∈vs,OkU A u)→cg (vs.map toV) vs
 | [],_=>.nil
 | u::r,h=>.cons (tT (h u (a6 ..))) (gZ fun x hx=>h x (aR _ hx))
def iE (h:Heap) (A:List Addr) (a:Addr):Prop:=∃ vs:List Value,vs.length≤sizeLine∧(∀ u∈vs,OkU A u) ∧
 (h.get? a=some { cls:=.type "list",data:=.seq vs.toArray }∨h.get? a=some { cls:=.type "tuple",data:=.seq vs.toArray })
theorem iE.mono {h:Heap} {A B:List Addr} {a:Addr} (k:∀ a∈A,a∈B) (x:iE h A a):iE h B a:=by
 obtain ⟨vs,h1,h2,h3⟩:=x
 exact ⟨vs,h1,fun u hu=>(h2 u hu).mono k,h3⟩
theorem gI {P:Params} {h:Heap}:∀ {vs:List Value} {ds:List WData},WellAll P h vs ds→vs.length=ds.length
 | _,_,.nil=>rfl
 | _,_,.cons _ b=>by
  show _+1=_+1
  rw [gI b]
theorem l6 {P:Params} {h:Heap} {v:Value} {ds:List WData} (x:Well P h v (.list ds)):∃ (a:Addr) (vs:List Value),v = .ref a∧h.get? a=some { cls:=.type "list",data:=.seq vs.toArray }∧WellAll P h vs ds:=by
 cases x with
 | list ho hall=>exact ⟨_,_,rfl,ho,hall⟩
theorem kL {P:Params} {h:Heap} {v:Value} {ds:List WData} (x:Well P h v (.tuple ds)):∃ (a:Addr) (vs:List Value),v = .ref a∧h.get? a=some { cls:=.type "tuple",data:=.seq vs.toArray }∧WellAll P h vs ds:=by
 cases x with
 | tuple ho hall=>exact ⟨_,_,rfl,ho,hall⟩
theorem l7 {P:Params} {h:Heap} {us:List Value} {d:WData} {ds:List WData} (x:WellAll P h us (d::ds)):∃ (v:Value) (vs:List Value),us=v::vs∧Well P h v d∧WellAll P h vs ds:=by
 cases x with
 | cons a b=>exact ⟨_,_,rfl,a,b⟩
theorem qQ {n:Nat} (h:n≤1048576):n≤sizeLine:=bH h (by decide)
section
variable {P:Params} {h:Heap}
mutual
theorem uW:∀ (d:WData) (v:Value),Well P h v d→plW d=true→d.weight≤1048576→∃ A:List Addr,OkU A v∧∀ a∈A,iE h A a
 | .none,_,x,_,_=>by
  cases x;exact ⟨[],trivial,fun a m=>aP m (by simp)⟩
 | .bool b,_,x,_,_=>by
  cases x;exact ⟨[],trivial,fun a m=>aP m (by simp)⟩
 | .int i,_,x,_,_=>by
  cases x;exact ⟨[],trivial,fun a m=>aP m (by simp)⟩
 | .str s,_,x,_,_=>by
  cases x;exact ⟨[],trivial,fun a m=>aP m (by simp)⟩
 | .bytes b,_,x,_,_=>by
  cases x;exact ⟨[],trivial,fun a m=>aP m (by simp)⟩
 | .list ds,_,x,p,z=>by
  obtain ⟨a,vs,rfl,ho,hall⟩:=l6 x
  have z2:WData.weightAll ds≤1048576:=z
  obtain ⟨A,h1,h2⟩:=area_all ds _ hall p fun d hd=>bH (jh hd) z2
  have k:∀ b∈A,b∈a::A:=fun b hb=>aR _ hb
  refine ⟨a::A,a6 ..,fun b hb=>?_⟩
  rcases aF.mp hb with e | m
  ·rw [e];exact ⟨vs,qQ (by rw [gI hall];exact bH (PySem.W.length_le_weightAllW ds) z2),fun u hu=>(h1 u hu).mono k,.inl ho⟩
  ·exact (h2 b m).mono k
 | .tuple ds,_,x,p,z=>by
  obtain ⟨a,vs,rfl,ho,hall⟩:=kL x
  have z2:WData.weightAll ds≤1048576:=z
  obtain ⟨A,h1,h2⟩:=area_all ds _ hall p fun d hd=>bH (jh hd) z2
  have k:∀ b∈A,b∈a::A:=fun b hb=>aR _ hb
  refine ⟨a::A,a6 ..,fun b hb=>?_⟩
  rcases aF.mp hb with e | m
  ·rw [e];exact ⟨vs,qQ (by rw [gI hall];exact bH (PySem.W.length_le_weightAllW ds) z2),fun u hu=>(h1 u hu).mono k,.inr ho⟩
  ·exact (h2 b m).mono k
 | .float _,_,_,p,_=>Bool.noConfusion (show false=true from p)
 | .dict _,_,_,p,_=>Bool.noConfusion (show false=true from p)
 | .bytearray _,_,_,p,_=>Bool.noConfusion (show false=true from p)
 | .set _,_,_,p,_=>Bool.noConfusion (show false=true from p)
 | .frozenset _,_,_,p,_=>Bool.noConfusion (show false=true from p)
 | .obj _ _,_,_,p,_=>Bool.noConfusion (show false=true from p)
theorem area_all:∀ (ds:List WData) (vs:List Value),WellAll P h vs ds→plWs ds=true→(∀ d∈ds,d.weight≤1048576)→∃ A:List Addr,(∀ u∈vs,OkU A u)∧∀ a∈A,iE h A a
 | [],_,x,_,_=>by
  cases x;exact ⟨[],fun u m=>aP m (by simp),fun a m=>aP m (by simp)⟩
 | d::ds,_,x,p,z=>by
  obtain ⟨v,vs,rfl,x1,x2⟩:=l7 x
  have q:plW d=true∧plWs ds=true:=Bool.and_eq_true_iff.mp p
  obtain ⟨A,a1,a2⟩:=uW d v x1 q.1 (z d (a6 ..))
  obtain ⟨B,b1,b2⟩:=area_all ds vs x2 q.2 fun e he=>z e (aR _ he)
  have kA:∀ b∈A,b∈A++B:=fun b hb=>aT.mpr (.inl hb)
  have kB:∀ b∈B,b∈A++B:=fun b hb=>aT.mpr (.inr hb)
  refine ⟨A++B,fun u hu=>?_,fun b hb=>?_⟩
  ·rcases aF.mp hu with e | m
   ·rw [e];exact a1.mono kA
   ·exact (b1 u m).mono kB
  ·rcases aT.mp hb with m | m
   ·exact (a2 b m).mono kA
   ·exact (b2 b m).mono kB
end
end
def vT (o:Obj):Option HO:=match o.data with
 | .seq vs _=>if (o.cls==Value.type "list")=true then some (.frz o (.lst (vs.toList.map toV))) else some (.frz o (.tup (vs.toList.map toV)))
 | _=>none
def iw (K:Fg_) (h:Heap) (A:List Addr):Hp:=fun b=>if b∈A then (if (K.lookup b).isNone=true then (h.get? b).bind vT else none) else none
def pF (H:Hp):Prop:=∀ b,H b=none∨∃ o u,H b=some (.frz o u)
theorem o7 (vs:List Value):vT { cls:=.type "list",data:=.seq vs.toArray }=some (.frz { cls:=.type "list",data:=.seq vs.toArray } (.lst (vs.map toV))):=by
 show (if (Value.type "list"==Value.type "list")=true then some (HO.frz { cls:=.type "list",data:=.seq vs.toArray } (.lst (vs.toArray.toList.map toV))) else some (HO.frz { cls:=.type "list",data:=.seq vs.toArray } (.tup (vs.toArray.toList.map toV))))=_
 rw [ao (beq_self_eq_true _)]
theorem o6 (vs:List Value):vT { cls:=.type "tuple",data:=.seq vs.toArray }=some (.frz { cls:=.type "tuple",data:=.seq vs.toArray } (.tup (vs.map toV))):=by
 show (if (Value.type "tuple"==Value.type "list")=true then some (HO.frz { cls:=.type "tuple",data:=.seq vs.toArray } (.lst (vs.toArray.toList.map toV))) else some (HO.frz { cls:=.type "tuple",data:=.seq vs.toArray } (.tup (vs.toArray.toList.map toV))))=_
 rw [ah (by decide)]
section
variable {P:Program} {w:World} {K:Fg_} {h:Heap} {A:List Addr}
theorem kK {b:Addr} {o:Obj} (hb:b∈A) (hk:K.lookup b=none) (e:h.get? b=some o):iw K h A b=vT o:=by
 unfold iw;rw [ao hb,hk,ao (show (none:Option Obj).isNone=true from rfl),e]<;>rfl
theorem vN {b:Addr} {u:HO} (q:iw K h A b=some u):b∈A∧K.lookup b=none:=by
 unfold iw at q;by_cases hb:b∈A
 ·rw [ao hb] at q;cases hk:K.lookup b with
  | none=>exact ⟨hb,rfl⟩
  | some o =>
   rw [hk,ah (by simp)] at q
   cases q
 ·rw [ah hb] at q;cases q
theorem kJ (ar:∀ a∈A,iE h A a) {b:Addr} {u:HO} (q:iw K h A b=some u):K.lookup b=none∧∃ vs:List Value,vs.length≤sizeLine∧(∀ u∈vs,OkU A u) ∧
  ((h.get? b=some { cls:=.type "list",data:=.seq vs.toArray }∧u = .frz { cls:=.type "list",data:=.seq vs.toArray } (.lst (vs.map toV))) ∨
   (h.get? b=some { cls:=.type "tuple",data:=.seq vs.toArray }∧u = .frz { cls:=.type "tuple",data:=.seq vs.toArray } (.tup (vs.map toV)))):=by
 obtain ⟨hb,hk⟩:=vN q
 obtain ⟨vs,h1,h2,h3⟩:=ar b hb
 refine ⟨hk,vs,h1,h2,?_⟩
 rcases h3 with e | e
 ·rw [kK hb hk e,o7] at q;exact .inl ⟨e,(aA q).symm⟩
 ·rw [kK hb hk e,o6] at q;exact .inr ⟨e,(aA q).symm⟩
theorem sQ (ar:∀ a∈A,iE h A a):pF (iw K h A):=fun b=>by
 cases q:iw K h A b with
 | none=>exact .inl rfl
 | some u =>
  obtain ⟨_,vs,_,_,⟨_,e⟩ | ⟨_,e⟩⟩:=kJ ar q
  ·exact .inr ⟨_,_,by rw [e]⟩
  ·exact .inr ⟨_,_,by rw [e]⟩
theorem wb (ar:∀ a∈A,iE h A a):HOk P w (iw K h A) h:=fun b u q=>by
 obtain ⟨_,vs,h1,h2,⟨e,rfl⟩ | ⟨e,rfl⟩⟩:=kJ ar q
 ·exact ⟨e,by rw [ae];exact h1,vs,_,gZ h2,e⟩
 ·exact ⟨e,by rw [ae];exact h1,vs,gZ h2,_,e,rfl,_,rfl⟩
theorem ky {c c':Value} {vs us:List Value} (e:(some { cls:=c,data:=.seq vs.toArray }:Option Obj)=some { cls:=c',data:=.seq us.toArray }):c=c'∧vs=us:=by
 have e1:=aA e
 have e2:c=c':=congrArg Obj.cls e1
 have e3:Data.seq vs.toArray=Data.seq us.toArray:=congrArg Obj.data e1
 injection e3 with e4;refine ⟨e2,?_⟩
 have e5:=congrArg Array.toList e4
 simpa using e5
theorem argL (KX:K.In h) (ar:∀ a∈A,iE h A a) {a:Addr} {vs:List Value} (ha:a∈A) (e:h.get? a=some { cls:=.type "list",data:=.seq vs.toArray }):(∀ u∈vs,OkU A u)∧SqL K (iw K h A) a (vs.map toV):=by
 obtain ⟨us,h1,h2,h3⟩:=ar a ha
 have hu:us=vs:=by
  rcases h3 with q | q
  ·rw [e] at q;exact (ky q).2.symm
  ·rw [e] at q;exact aP (Value.type.inj (ky q).1) (by decide)
 subst hu;refine ⟨h2,?_⟩
 cases hk:K.lookup a with
 | none=>exact .inl (.inr ⟨_,by rw [kK ha hk e,o7]⟩)
 | some o =>
  have e2:=KX a o hk
  rw [e] at e2;obtain rfl:=aA e2
  exact .inr ⟨_,us.toArray,_,hk,rfl,rfl,rfl,by rw [aZ];exact h1,by simpa using gZ h2⟩
theorem argT (KX:K.In h) (ar:∀ a∈A,iE h A a) {a:Addr} {vs:List Value} (ha:a∈A) (e:h.get? a=some { cls:=.type "tuple",data:=.seq vs.toArray }):(∀ u∈vs,OkU A u)∧SqT K (iw K h A) a (vs.map toV):=by
 obtain ⟨us,h1,h2,h3⟩:=ar a ha
 have hu:us=vs:=by
  rcases h3 with q | q
  ·rw [e] at q;exact aP (Value.type.inj (ky q).1) (by decide)
  ·rw [e] at q;exact (ky q).2.symm
 subst hu;refine ⟨h2,?_⟩
 cases hk:K.lookup a with
 | none=>exact .inl (.inr ⟨_,by rw [kK ha hk e,o6]⟩)
 | some o =>
  have e2:=KX a o hk
  rw [e] at e2;obtain rfl:=aA e2
  exact .inr ⟨_,us.toArray,_,hk,rfl,rfl,by rw [aZ];exact h1,by simpa using gZ h2⟩
mutual
theorem yM {Pm:Params} (KX:K.In h) (ar:∀ a∈A,iE h A a):∀ (d:WData) (v:Value),Well Pm h v d→plW d=true→OkU A v→Dw K (iw K h A) (toV v) d
 | .none,_,x,_,_=>by
  cases x;exact .non
 | .bool b,_,x,_,_=>by
  cases x;exact .bl b
 | .int i,_,x,_,_=>by
  cases x;exact .int i
 | .str s,_,x,_,_=>by
  cases x;exact .str s
 | .bytes b,_,x,_,_=>by
  cases x;have z:=Dw.byt (K:=K) (H:=iw K h A) b.toArray
  exact z
 | .list ds,_,x,p,hu=>by
  obtain ⟨a,vs,rfl,ho,hall⟩:=l6 x
  obtain ⟨h2,hs⟩:=argL KX ar hu ho
  exact .lst hs (dw_all KX ar ds _ hall p h2)
 | .tuple ds,_,x,p,hu=>by
  obtain ⟨a,vs,rfl,ho,hall⟩:=kL x
  obtain ⟨h2,hs⟩:=argT KX ar hu ho
  exact .tup hs (dw_all KX ar ds _ hall p h2)
 | .float _,_,_,p,_=>Bool.noConfusion (show false=true from p)
 | .dict _,_,_,p,_=>Bool.noConfusion (show false=true from p)
 | .bytearray _,_,_,p,_=>Bool.noConfusion (show false=true from p)
 | .set _,_,_,p,_=>Bool.noConfusion (show false=true from p)
 | .frozenset _,_,_,p,_=>Bool.noConfusion (show false=true from p)
 | .obj _ _,_,_,p,_=>Bool.noConfusion (show false=true from p)
theorem dw_all {Pm:Params} (KX:K.In h) (ar:∀ a∈A,iE h A a):∀ (ds:List WData) (vs:List Value),WellAll Pm h vs ds→plWs ds=true→(∀ u∈vs,OkU A u)→DwAll K (iw K h A) (vs.map toV) ds
 | [],_,x,_,_=>by
  cases x;exact .nil
 | d::ds,_,x,p,hu=>by
  obtain ⟨v,vs,rfl,x1,x2⟩:=l7 x
  have q:plW d=true∧plWs ds=true:=Bool.and_eq_true_iff.mp p
  exact .cons (yM KX ar d v x1 q.1 (hu _ (a6 ..))) (dw_all KX ar ds vs x2 q.2 fun u m=>hu u (aR _ m))
end
end
theorem rP {P:Program} {w:World} {K:Fg_} {mg mb:Str→Option Value} {CX:CXT} {k:Nat} {fa:Addr} {fd:FuncData} {ps:List Str} {sp:Sp} {s₁:Shared} {vals:List Value} {ds:List WData} {R:PySem.W.WRecords} {cl:Str→Option Addr} {d0:WData}
  (KX:K.In s₁.heap) (hns:s₁.heap.Ns mainGlobals mg) (hb:s₁.heap.Ns builtinsNs mb) (hbb:∀ x:Str,x≠"__name__"→mb x=bootBuiltins x) (hlim:s₁.heap.NoLimit) (hg:s₁.gens=#[])
  (hwl:WellAll w.params s₁.heap vals ds) (hpl:plWs ds=true) (hwt:∀ d∈ds,d.weight≤1048576) (hr:cB k callerA)
  (F:∀ base:Heap,K.In base→base.Ns mainGlobals mg→bK P w K mg base CX k fa fd ps sp) (hbind:∀ (s:Shared) (us:List Value),us.length=ps.length→BindsTo s fd ⟨us,[]⟩ (ps.zip us)) (hlen:ds.length=ps.length)
  (hsp:∀ (H:Hp) (xs:List V),pF H→DwAll K H xs ds→sp xs H (fun v H'=>Dw K H' v d0) fun _ _ _=>False)
  (hCX:∀ H e s',CX [] H s₁ (fun _ _ _=>False) e s'→False) :
  codeAny (model P w) callerA (.call (.ref fa) ⟨vals,[]⟩) (fun r s'=>∃ u as,r = .ok (.ret u)∧ReadsW R cl s'.heap u d0 as∧OldK s₁.heap s'.heap∧s'.os=s₁.os∧AllBare s'.gens) s₁:=by
 obtain ⟨A,ho,ar⟩:=area_all ds vals hwl hpl hwt
 have hO:pF (iw K s₁.heap A):=sQ ar
 have hok:HOk P w (iw K s₁.heap A) s₁.heap:=wb ar
 have hS:=dw_all KX ar ds vals hwl hpl ho
 have hV:=gZ ho
 have hK:∀ b u,iw K s₁.heap A b=some u→K.lookup b=none:=fun b u q=>(kJ ar q).1
 have noA:∀ {b:Addr} {o:Obj} {es:Array DictEntry} {ep:Nat},s₁.heap.get? b=some o→o.data = .dict es ep→iw K s₁.heap A b=none:=fun {b o es ep} e d=>by
  cases q:iw K s₁.heap A b with
  | none=>rfl
  | some u =>
   obtain ⟨_,vs,_,_,⟨e2,_⟩ | ⟨e2,_⟩⟩:=kJ ar q
   ·rw [e2] at e;cases e;have d':Data.seq vs.toArray _=Data.dict es ep:=d
    cases d'
   ·rw [e2] at e;cases e;have d':Data.seq vs.toArray _=Data.dict es ep:=d
    cases d'
 generalize iw K s₁.heap A=H at hO hok hS hK noA;have base_of:∀ {b:Addr} {o:Obj},s₁.heap.get? b=some o→H b=none→(nO s₁.heap H).get? b=some o:=fun e n=>uC e n
 have nsK:∀ {b:Addr} {m:Str→Option Value},s₁.heap.Ns b m→(nO s₁.heap H).Ns b m:=fun {b m} ⟨o,es,ep,e,d,r⟩=>⟨o,es,ep,base_of e (noA e d),d,r⟩
 have nK:∀ b o,K.lookup b=some o→H b=none:=fun b o e=>by
  cases q:H b with
  | none=>rfl
  | some u =>
   rw [hK b u q] at e;cases e
 have hKb:K.In (nO s₁.heap H):=fun b o e=>base_of (KX b o e) (nK b o e)
 have hM:Mod K mg (nO s₁.heap H):=⟨hKb,nsK hns,⟨mb,nsK hb,hbb⟩,let ⟨mc,h1,h2⟩:=hlim;⟨mc,nsK h1,h2⟩⟩
 have e0:qy P w K mg (nO s₁.heap H) callerA [] s₁ H:=⟨rfl,hM,fun b o e=>vM e,iz (sE _ _),trivial,fun b hb=>aP (show b∈([]:List Addr) from hb) (by simp),hok,.of_eq hg⟩
 have hl:vals.length=ps.length:=by rw [gI hwl];exact hlen
 refine codeAny_mono ((F _ hKb (nsK hns)).run callerA [] s₁ H ⟨vals,[]⟩ vals (vals.map toV) _ _ hr e0 (hbind s₁ vals hl) hV (hsp H _ hO hS)) fun r s' x=>?_
 cases r with
 | error e=>exact (hCX H e s' x).elim
 | ok fl =>
  cases fl with
  | next=>exact False.elim x
  | brk=>exact False.elim x
  | cont=>exact False.elim x
  | ret u =>
   obtain ⟨v,H',os,bare,un,hok',r',q⟩:=x
   have kept:∀ b o,s₁.heap.get? b=some o→s'.heap.get? b=some o:=fun b o e=>by
    cases q2:H b with
    | none=>exact un.keep b o e q2 (by intro z;exact aP (show b∈([]:List Addr) from z) (by simp)) (by simp)
    | some u2 =>
     rcases hO b with z | ⟨ob,u3,z⟩
     ·rw [q2] at z;cases z
     ·have z2:=un.frzs b ob _ z
      obtain ⟨e1,_⟩:=hok b _ z
      obtain ⟨e2,_⟩:=hok' b _ z2
      rw [e] at e1;cases e1;exact e2
   have KX':K.In s'.heap:=fun b o e=>kept b o (KX b o e)
   obtain ⟨as,hrd⟩:=Dw.reads (R:=R) (cl:=cl) hok' KX' d0 v u q r'
   exact ⟨u,as,rfl,hrd,OldK.of_keep kept,os,bare⟩
theorem lA {ds:List WData} (h:WData.layableAll ds=true):∀ d∈ds,d.weight≤1048576:=fun d hd =>
 (PySem.W.layableW_iff.mp (dH.mp h d hd)).2.2
theorem lM:∀ (cs:List Codec) (a:Codec.denoteAll cs),(Codec.encAll cs a).length=cs.length
 | [],_=>rfl
 | c::cs,a=>by
  show (Codec.encAll cs a.2).length+1=cs.length+1
  rw [lM cs a.2]
theorem rG {r:OpenSpec} {k:Nat} {q:Program} {loose:List Str} {XP:(Str→Option Value)→Heap→Prop} {YP:World→Heap→Prop} {d:DefRec} {K:Params→Fg_} {CX:World→CXT} {ps:List Str} {sp:World→Sp}
  (hwell:r.wellSaid=true) (hdf:d.params.defaults=[]) (hlen:r.args.length=ps.length) (hr:cB k callerA)
  (hY:∀ (w:World) (h:Heap),YP w h→(K w.params).In h)
  (F:∀ (w:World) (mg:Str→Option Value) (fa:Addr) (h:Heap),YP w h→(K w.params).In h→h.Ns mainGlobals mg→mg d.name=some (.ref fa) →
   ∃ fd:FuncData,(∀ (s:Shared) (us:List Value),us.length=ps.length→BindsTo s fd ⟨us,[]⟩ (ps.zip us)) ∧
    ∀ base:Heap,(K w.params).In base→base.Ns mainGlobals mg→bK r.prog w (K w.params) mg base (CX w) k fa fd ps (sp w))
  (hsp:∀ (w:World) (H:Hp) (xs:List V) (a:Codec.denoteAll r.args),pF H→Codec.withinAll r.args a=true→Codec.app r.args r.asked a=true→DwAll (K w.params) H xs (Codec.encAll r.args a) →
   sp w xs H (fun v H'=>Dw (K w.params) H' v (r.ret.enc (Codec.app r.args r.f a))) fun _ _ _=>False)
  (hCX:∀ (w:World) (H:Hp) (s:Shared) (e:Value) (s':Shared),CX w [] H s (fun _ _ _=>False) e s'→False) :
  PySem.W.WalkOS q loose XP YP r d [] (fun f vs=>PySem.call f vs):=by
 intro w s_0 s₁ mg mb G Y fa o pm cd doc dV kV ho hd hcd hD hmg hg args vals as hpre hlay hrd hwl hlo;obtain ⟨a,e1,e2⟩:=PySem.W.os_pre_some hpre
 obtain ⟨e3,hwi⟩:=Codec.encAll_of_decAll r.args args a e1
 subst e3;have KX:=hY w _ Y
 obtain ⟨fd,hb,hF⟩:=F w mg fa _ Y KX G.T.g hmg
 refine PySem.W.enter_call (codeAny_mono (rP (R:=[]) (cl:=classAt s_0.heap) (d0:=r.ret.enc (Codec.app r.args r.f a)) KX G.T.g G.T.b G.T.builtins G.T.nolimit hg hwl (mi _ _) (lA hlay) hr hF hb (by rw [lM];exact hlen)
  (fun H xs hO hS=>hsp w H xs a hO hwi e2 hS) fun H e s'=>hCX w H s₁ e s') fun r' s' hq=>?_)
 obtain ⟨u,as',rfl,h1,h2,h3,h4⟩:=hq
 exact ⟨.inl ⟨u,_,as',rfl,fun _=>rfl,h1,(OpenSpec.post_iff hwell hwi _ _).mpr rfl,fun z=>Bool.noConfusion (show false=true from z)⟩,h2,h3,h4⟩
theorem wJ {r:OpenSpec} {k:Nat} {q:Program} {loose:List Str} {XP:(Str→Option Value)→Heap→Prop} {YP:World→Heap→Prop} {d:DefRec} {K:Params→Fg_} {CX:CXT} {ps:List Str} {sp:Fg_→Sp}
  (hwell:r.wellSaid=true) (hdf:d.params.defaults=[]) (hlen:r.args.length=ps.length) (hr:cB k callerA)
  (hY:∀ (w:World) (h:Heap),YP w h→(K w.params).In h)
  (F:∀ (w:World) (mg:Str→Option Value) (fa:Addr) (h:Heap),YP w h→(K w.params).In h→h.Ns mainGlobals mg→mg d.name=some (.ref fa) →
   ∃ fd:FuncData,(∀ (s:Shared) (us:List Value),us.length=ps.length→BindsTo s fd ⟨us,[]⟩ (ps.zip us)) ∧
    ∀ base:Heap,(K w.params).In base→base.Ns mainGlobals mg→bK r.prog w (K w.params) mg base CX k fa fd ps (sp (K w.params)))
  (hsp:∀ (K:Fg_) (H:Hp) (xs:List V) (a:Codec.denoteAll r.args),pF H→Codec.withinAll r.args a=true→Codec.app r.args r.asked a=true→DwAll K H xs (Codec.encAll r.args a) →
   sp K xs H (fun v H'=>Dw K H' v (r.ret.enc (Codec.app r.args r.f a))) fun _ _ _=>False)
  (hCX:∀ (H:Hp) (s:Shared) (e:Value) (s':Shared),CX [] H s (fun _ _ _=>False) e s'→False) :
  PySem.W.WalkOS q loose XP YP r d [] (fun f vs=>PySem.call f vs) :=
 rG (K:=K) (CX:=fun _=>CX) (sp:=fun w=>sp (K w.params)) hwell hdf hlen hr hY F (fun w H xs a h1 h2 h3 h4=>hsp (K w.params) H xs a h1 h2 h3 h4) fun _ H s e s'=>hCX H s e s'
end L2
namespace L2.XC
open PySem PySem.Spec PyProof.Rows
open Builtin Builtin.ObjectAttr
abbrev bmE:List Value:=[.type "Exception",.type "BaseException",.type "object"]
section
variable {prog:Program} {w:World} {A:Around} {E:Value→Shared→Prop} {h:Heap} {g:Array GenState} {d:Drawn} {t:Nat} {os:OsState}
variable {nm q:Str} {C N x:Addr} {bs:List Value} {sn:List Str} {sub:List Value} {ab:Bool} {col:Option Bool} {dd:Option Addr}
variable {k0 k1 k2 k3 k5:Option Value} {mN:Str→Option Value} {name:Str} {v:Value} {o:Obj} {ni:String}
theorem rV {tk:Tok} {Q:Fin→Shared→Prop} (hC:h.get? C=some (excClassObj nm q C N bs bmE true sn sub ab col dd k0 k1 k2 k3 k5 ni))
  (hn:h.Ns N mN) (hna:mN name=none) (hB:typeLookup (.type "Exception") name=pure none)
  (hx:h.get? x=some o) (hc:o.cls = .ref C) (hdn:o.dict=none) (hnc:∀ c,o.data≠.cls c)
  (hq:∀ h' tk',h'.get? x=some { o with dict:=some h.objs.size }→h'.Ns1 h.objs.size (fun y=>if y=name then some v else none) →
   (∀ b u,b≠x→h.get? b=some u→h'.get? b=some u)→Q (.done (.ret .none)) ⟨h',g,d,tk',os⟩) :
  wpAny (model prog w) A (Builtin.«object.__setattr__» ⟨[.ref x,.str name tk,v],[]⟩) Q E ⟨h,g,d,t,os⟩:=by
 have SF:=PySem.F.store_Exception
 have hp:=SF.passes (.ref x)
 have hxs:x≠h.objs.size:=bt (aV hx)
 unfold Builtin.«object.__setattr__»
 repeat (first
  | rw [refuse_eq]
  | rw [refuseLoop_ref,hp]
  | (with_reducible refine wpAny_loadPart_at hx ?_;rw [hc])
  | with_reducible refine wpAny_mroOf_exc hC ?_
  | (with_reducible refine wpAny_typeLookup_exc hC hn SF.mro hB ?_;rw [hna])
  | wp_step)
 rw [hdn,ah (by simp [typeHasDict])]
 split
 ·rename_i z
  cases z
 split
 ·rename_i c z
  exact aP z (hnc c)
 ·have hx1:(h.push { cls:=.type "dict",data:=.dict #[] }).get? x=some o:=aK _ hx
  refine ag (wpAny_alloc' (ag (wpAny_update' hx1 (aM ?_))))
  generalize hU:((h.push { cls:=.type "dict",data:=.dict #[] }).update x fun o=>{ cls:=o.cls,dict:=some h.objs.size,data:=o.data,slots:=o.slots })=hh
  have e1:hh.get? h.objs.size=some { cls:=.type "dict",data:=.dict #[] }:=by
   rw [←hU];exact (Heap.get?_update_ne _ _ _ _ hxs.symm).trans (Heap.get?_push_at rfl rfl)
  have e2:hh.get? x=some { o with dict:=some h.objs.size }:=by
   rw [←hU];refine Heap.get?_update_self _ hx1 ?_
   have hfr:=(Heap.get?_some_iff.mp hx).2
   obtain ⟨oc,od,odt,osl⟩:=o
   cases odt<;>first | rfl | exact hfr
  have e3:∀ b u,b≠x→h.get? b=some u→hh.get? b=some u:=fun b u hb hbu=>by
   rw [←hU];exact (Heap.get?_update_ne _ _ _ _ hb).trans (aK _ hbu)
  have e4:hh.Ns h.objs.size (fun _=>none):=⟨_,#[],_,e1,rfl,fun e he=>aP he (by simp),fun _=>rfl⟩
  show wpAny _ _ (storeInDict h.objs.size (.str name tk) name v) _ _ _
  unfold storeInDict newKeyGuard;refine ag (aM (ag (wpAny_nsSet1 (Heap.Ns1.of_empty e4) fun h' n1 sb=>?_)))
  obtain ⟨oD,esD,epD,hoD,hdD,hcD⟩:=n1.count (Within.cons name v Within.nil)
  refine ag (wpAny_lookBehind hoD (by rw [hdD];exact pastItsLine_dict (bH hcD (by rw [aE,dO,sizeLine_eq];omega))) ?_)
  wp_walk
  exact hq h' _ ((sb.2 x hxs).trans e2) n1 fun b u hb hbu=>(sb.2 b (bt (aV hbu))).trans (e3 b u hb hbu)
theorem p6 {tk:Tok} {Q:Fin→Shared→Prop} {dx:Addr} {mA:Str→Option Value} {ns:List Str} (hC:h.get? C=some (excClassObj nm q C N bs bmE true sn sub ab col dd k0 k1 k2 k3 k5 ni))
  (hn:h.Ns N mN) (hna:mN name=none) (hB:typeLookup (.type "Exception") name=pure none)
  (hx:h.get? x=some o) (hc:o.cls = .ref C) (hdn:o.dict=some dx) (hne:dx≠x) (hns:h.Ns1 dx mA) (hw:Within mA ns) (hsz:ns.length≤1000)
  (hq:∀ h' tk',h'.Ns1 dx (fun y=>if y=name then some v else mA y) →
   (∀ b u,b≠dx→h.get? b=some u→h'.get? b=some u)→Q (.done (.ret .none)) ⟨h',g,d,tk',os⟩) :
  wpAny (model prog w) A (Builtin.«object.__setattr__» ⟨[.ref x,.str name tk,v],[]⟩) Q E ⟨h,g,d,t,os⟩:=by
 have SF:=PySem.F.store_Exception
 have hp:=SF.passes (.ref x)
 unfold Builtin.«object.__setattr__»
 repeat (first
  | rw [refuse_eq]
  | rw [refuseLoop_ref,hp]
  | (with_reducible refine wpAny_loadPart_at hx ?_;rw [hc])
  | with_reducible refine wpAny_mroOf_exc hC ?_
  | (with_reducible refine wpAny_typeLookup_exc hC hn SF.mro hB ?_;rw [hna])
  | wp_step)
 rw [hdn];refine aM ?_
 show wpAny _ _ (storeInDict dx (.str name tk) name v) _ _ _
 unfold storeInDict newKeyGuard;refine ag (aM (ag (wpAny_nsSet1 hns fun h' n1 sb=>?_)))
 obtain ⟨oD,esD,epD,hoD,hdD,hcD⟩:=n1.count (Within.cons name v hw)
 refine ag (wpAny_lookBehind hoD (by rw [hdD];exact pastItsLine_dict (bH hcD (by rw [aE,sizeLine_eq];omega))) ?_)
 wp_walk
 exact hq h' _ n1 fun b u hb hbu=>(sb.2 b hb).trans hbu
theorem oO {R:Result→Shared→Prop} {tk:Tok} {B sa owner:String} {bm:List Value} (SF:StoreFacts B bm sa owner) (hC:h.get? C=some (excClassObj nm q C N bs bm true sn sub ab col dd k0 k1 k2 k3 k5 ni))
  (hx:h.get? x=some o) (hc:o.cls = .ref C)
  (hq:∀ (A:Around) (T:Fin→Shared→Prop) (E:Value→Shared→Prop),(∀ s',R (.ok (.ret .none)) s'→T (.done (.ret .none)) s') →
   wpAny (model prog w) A (Builtin.«object.__setattr__» ⟨[.ref x,.str name tk,v],[]⟩) T E ⟨h,g,d,t,os⟩) :
  codeAny (model prog w) A (.call (.builtin sa) ⟨[.ref x,.str name tk,v],[]⟩) R ⟨h,g,d,t,os⟩:=by
 refine codeAny_call_builtin SF.slot.plain SF.entry (wpAny_check_sa SF hC hx hc ?_)
 refine hq _ _ _ ?_
 intro s' z
 exact z
theorem oP {Q:Unit→Shared→Prop} {B sa owner:String} {bm:List Value} (SF:StoreFacts B bm sa owner) (hC:h.get? C=some (excClassObj nm q C N bs bm true sn sub ab col dd k0 k1 k2 k3 k5 ni))
  (hn:h.Ns N mN) (hns:mN "__setattr__" = none) (hx:h.get? x=some o) (hc:o.cls = .ref C)
  (hq:∀ (A:Around) (R:Result→Shared→Prop) (tk t':Nat),(∀ s',Q () s'→R (.ok (.ret .none)) s') →
   codeAny (model prog w) A (.call (.builtin sa) ⟨[.ref x,.str name tk,v],[]⟩) R ⟨h,g,d,t',os⟩) :
  wpAny (model prog w) A (setAttr (.ref x) name v) Q E ⟨h,g,d,t,os⟩:=by
 have f3:=SF.slot.bind (.ref x)
 unfold setAttr callSpecial? specialOf
 repeat (any_goals (first
  | assumption
  | (with_reducible refine wpAny_loadPart_at hx ?_;rw [hc])
  | (with_reducible refine wpAny_typeLookup_exc hC hn SF.mro SF.slot.lookup ?_;rw [hns])
  | wp_step))
 refine hq _ _ _ _ fun s' z=>?_
 obtain ⟨hh,gg,dd',tt,oo⟩:=s'
 repeat (any_goals (first | (with_reducible assumption) | wp_step))
end
open Builtin Builtin.ObjectAttr
section
variable {prog:Program} {w:World} {A:Around} {E:Value→Shared→Prop} {h:Heap} {g:Array GenState} {d:Drawn} {t:Nat} {os:OsState}
variable {nm q:Str} {C N x dx:Addr} {bs:List Value} {sn:List Str} {sub:List Value} {ab:Bool} {col:Option Bool} {dd:Option Addr}
variable {k0 k1 k2 k3 k5:Option Value} {mN mA:Str→Option Value} {name:Str} {v:Value} {o:Obj} {ni:String}
end
def iX (h:Heap) (e C dx:Addr):Prop :=
 ∃ o vs T oT ts,h.get? e=some o∧o.cls = .ref C∧o.dict=some dx∧o.data = .fields vs∧vs[1]? = some (.ref T)∧T≠e∧h.get? T=some oT∧oT.data = .fields ts∧ts[3]? = some .none
def Fresh (h:Heap) (e C dx:Addr):Prop:=∃ o vs,h.get? e=some o∧o.cls = .ref C∧o.dict=some dx∧o.data = .fields vs∧vs[1]? = some .none
def Fly (h:Heap) (e C dx:Addr):Prop:=Fresh h e C dx∨iX h e C dx
structure wk (fs:List Addr) (e:Addr) (h h':Heap):Prop where
 keep:∀ b o,b∉fs→b≠e→h.get? b=some o→h'.get? b=some o
 slot:∀ b o,b∈fs→h.get? b=some o→∃ sl,h'.get? b=some { o with slots:=sl }
section
variable {M:Model} {A:Around} {E E':Value→Shared→Prop} {s:Shared}
theorem lL {base:Heap} {env:Env} {outer:List Env} {L e C dx:Addr} {o:Obj} {vs:Array Value} {head:Value} {had:Bool} {Q:Unit→Shared→Prop}
  (hfr:A.frames=some (env::outer)) (hl:s.heap.FunFrames base (env::outer)) (hf:env.frame=some L)
  (he:s.heap.get? e=some o) (hc:o.cls = .ref C) (hdx:o.dict=some dx) (hd:o.data = .fields vs) (hsz:1<vs.size)
  (h:∀ h',iX h' e C dx→wk (frs (env::outer)) e s.heap h'→Q () { s with heap:=h' }) :
  wpAny M A (do
   let fo ←frameOf env
   let pl ←entryPlaceOf L had
   let b ←EntryCells.newEntry head fo .none (rawInt L) .none pl
   setField (.ref e) 1 b) (fun _ s'=>wpAny M A (setFlight (.ref e) none) Q E s') E' s:=by
 have nfr:e∉frs (env::outer):=fun hm=>by
  obtain ⟨_,ob,ho,hnf⟩:=hl.mem hm
  rw [he] at ho;cases ho;exact hnf vs hd
 refine ag (wpAny_frameOf_fun hfr hl hf fun h1 hs=>?_)
 refine ag (wpAny_entryPlaceOf fun pl hpl=>?_)
 unfold EntryCells.newEntry newFields;refine ag (wpAny_newObj_type ?_ (hpl.sizeOk5 _ _ _ _ _))
 generalize hX:({ cls:=.type "traceback",dict:=none,data:=.fields ([head,.ref L,.none,rawInt L,.none]++(if pl.isEmpty then List.replicate 6 Value.none else pl)).toArray }:Obj)=X
 have e1:h1.get? e=some o:=(hs.2.1 e nfr).trans he
 have e2:(h1.push X).get? e=some o:=aK _ e1
 refine wpAny_setField e2 hd hsz ?_
 have nT:h1.objs.size≠e:=fN (aV e1)
 have d3:=Obj.data_mapFields hd (·.setIfInBounds 1 (Value.ref h1.objs.size))
 have e3:=Heap.get?_update_self (Obj.mapFields (·.setIfInBounds 1 (Value.ref h1.objs.size))) e2 (Obj.isFreed_of_fields d3)
 have xf:∃ ts:Array Value,X.data = .fields ts∧3<ts.size:=by
  rw [←hX];exact ⟨_,rfl,by simp only [aZ,aG,aE,dO];omega⟩
 obtain ⟨ts,xd,x3⟩:=xf
 have xn:X.isFreed=false:=Obj.isFreed_of_fields xd
 have t3:((h1.push X).update e (Obj.mapFields (·.setIfInBounds 1 (Value.ref h1.objs.size)))).get? h1.objs.size=some X :=
  (Heap.get?_update_other _ _ (aN nT)).trans (aW h1 xn)
 unfold setFlight;refine ag (wpAny_field e3 d3 (x:=.ref h1.objs.size) (by simp [hsz]) ?_)
 rw [ao (show (Value.ref h1.objs.size != Value.none)=true from by simp)]
 refine wpAny_setField t3 xd x3 (h _ ?_ ⟨fun b ob nb ne hb=>?_,fun b ob nb hb=>?_⟩)
 ·refine ⟨_,_,h1.objs.size,_,_,(Heap.get?_update_other _ _ nT).trans e3,?_,?_,d3,by simp [hsz],nT,Heap.get?_update_self _ t3 (Obj.isFreed_of_fields (Obj.data_mapFields xd _)),Obj.data_mapFields xd _,?_⟩
  ·rw [Obj.cls_mapFields];exact hc
  ·obtain ⟨c1,c2,c3,c4⟩:=o
   cases hd;exact hdx
  ·simp [x3]
 ·have q:h1.get? b=some ob:=(hs.2.1 b nb).trans hb
  rw [Heap.get?_update_other _ _ (fN (aV q)),Heap.get?_update_other _ _ (aN ne)];exact aK _ q
 ·obtain ⟨sl,q⟩:=hs.2.2 b ob hb
  have ne:b≠e:=fun z=>nfr (z▸nb)
  refine ⟨sl,?_⟩
  rw [Heap.get?_update_other _ _ (fN (aV q)),Heap.get?_update_other _ _ (aN ne)];exact aK _ q
theorem pb {base:Heap} {env:Env} {outer:List Env} {L e C dx:Addr} {Q:Unit→Shared→Prop}
  (hfr:A.frames=some (env::outer)) (hl:s.heap.FunFrames base (env::outer)) (hf:env.frame=some L) (x:Fly s.heap e C dx)
  (h:∀ h',iX h' e C dx→wk (frs (env::outer)) e s.heap h'→Q () { s with heap:=h' }) :
  wpAny M A (noteFrame (.ref e) env) (fun _ s'=>wpAny M A (setFlight (.ref e) none) Q E s') E' s:=by
 unfold noteFrame;simp only [hf];rcases x with ⟨o,vs,he,hc,hdx,hd,h1⟩ | ⟨o,vs,T,oT,ts,he,hc,hdx,hd,h1,hTe,hT,hdT,h3⟩
 ·refine ag (wpAny_field he hd h1 ?_)
  rw [ah (by decide)]
  exact lL hfr hl hf he hc hdx hd (bu.mp h1).1 h
 ·refine ag (wpAny_field he hd h1 ?_)
  rw [ao (show (Value.ref T != Value.none)=true from by simp)]
  refine ag (wpAny_field hT hdT h3 ?_)
  rw [ah (show ¬((Value.none==rawInt L)=true) from by simp [rawInt])]
  refine ag (wpAny_setField hT hdT (bu.mp h3).1 ?_)
  rw [Heap.update_setField_same s.heap T oT ts 3 .none hT hdT h3];exact lL hfr hl hf he hc hdx hd (bu.mp h1).1 h
theorem sI {base:Heap} {env:Env} {outer:List Env} {L e C dx:Addr} {Q:Unit→Shared→Prop}
  (hfr:A.frames=some (env::outer)) (hl:s.heap.FunFrames base (env::outer)) (hf:env.frame=some L) (x:Fly s.heap e C dx)
  (h:∀ h',iX h' e C dx→wk (frs (env::outer)) e s.heap h'→Q () { s with heap:=h' }):wpAny M A (leaving env (.ref e)) Q E s:=by
 unfold leaving;exact ag (pb hfr hl hf x h)
theorem jD {e C dx:Addr} {Q:Unit→Shared→Prop} (x:iX s.heap e C dx) (h:Q () s):wpAny M A (setFlight (.ref e) none) Q E s:=by
 obtain ⟨o,vs,T,oT,ts,he,hc,hdx,hd,h1,hTe,hT,hdT,h3⟩:=x
 unfold setFlight;refine ag (wpAny_field he hd h1 ?_)
 rw [ao (show (Value.ref T != Value.none)=true from by simp)]
 refine wpAny_setField hT hdT (bu.mp h3).1 ?_
 show Q () { s with heap:=s.heap.update T (Obj.mapFields (·.setIfInBounds 3 Value.none)) }
 rw [Heap.update_setField_same s.heap T oT ts 3 .none hT hdT h3];exact h
end
def XE (e C:Addr) (d:Option Addr):HO:=.ext fun h=>∃ o vs,h.get? e=some o∧o.cls = .ref C∧o.dict=d∧o.data = .fields vs∧vs[1]? = some .none
def XL (e C dx:Addr):HO:=.ext fun h=>∃ o vs,h.get? e=some o∧o.cls = .ref C∧o.dict=some dx∧o.data = .fields vs
def XD (dx:Addr) (fs:List (Str×V)):HO:=.ext fun h=>∃ mA,h.Ns1 dx mA∧(∀ f,gc (fs.lookup f) (mA f))∧PySem.Within mA (fs.map (·.1))
theorem qz {P:Program} {w:World} {H:Hp} {h:Heap} {e C:Addr} {d:Option Addr} {o:Obj} {vs:Array Value} (h1:h.get? e=some o) (h2:o.cls = .ref C) (h3:o.dict=d) (h4:o.data = .fields vs) (h5:vs[1]? = some .none):du P w H h e (XE e C d) :=
 ⟨⟨o,vs,h1,h2,h3,h4,h5⟩,⟨o,h1⟩,fun _ _ ⟨o,vs,a,b⟩ k=>⟨o,vs,k o a,b⟩⟩
theorem xl_ok {P:Program} {w:World} {H:Hp} {h:Heap} {e C dx:Addr} {o:Obj} {vs:Array Value} (h1:h.get? e=some o) (h2:o.cls = .ref C) (h3:o.dict=some dx) (h4:o.data = .fields vs):du P w H h e (XL e C dx) :=
 ⟨⟨o,vs,h1,h2,h3,h4⟩,⟨o,h1⟩,fun _ _ ⟨o,vs,a,b⟩ k=>⟨o,vs,k o a,b⟩⟩
theorem sS {P:Program} {w:World} {H:Hp} {h:Heap} {dx:Addr} {fs:List (Str×V)} {mA:Str→Option Value} (h1:h.Ns1 dx mA) (h2:∀ f,gc (fs.lookup f) (mA f)) (h3:PySem.Within mA (fs.map (·.1))):du P w H h dx (XD dx fs) :=
 ⟨⟨mA,h1,h2,h3⟩,(let ⟨o,_,_,q,_⟩:=h1;⟨o,q⟩),fun _ _ ⟨mA,n,r⟩ k=>⟨mA,n.at fun o q=>k o q,r⟩⟩
theorem oa {P:Program} {w:World} {H:Hp} {h:Heap} {e C:Addr} {d:Option Addr} (x:HOk P w H h) (q:H e=some (XE e C d)):∃ o vs,h.get? e=some o∧o.cls = .ref C∧o.dict=d∧o.data = .fields vs∧vs[1]? = some .none:=(x e _ q).1
theorem xl_of {P:Program} {w:World} {H:Hp} {h:Heap} {e C dx:Addr} (x:HOk P w H h) (q:H e=some (XL e C dx)):∃ o vs,h.get? e=some o∧o.cls = .ref C∧o.dict=some dx∧o.data = .fields vs:=(x e _ q).1
theorem wo {P:Program} {w:World} {H:Hp} {h:Heap} {dx:Addr} {fs:List (Str×V)} (x:HOk P w H h) (q:H dx=some (XD dx fs)):∃ mA,h.Ns1 dx mA∧(∀ f,gc (fs.lookup f) (mA f))∧PySem.Within mA (fs.map (·.1)):=(x dx _ q).1
def lV (H:Hp) (e:Addr):Hp:=fun b=>if b=e then none else H b
theorem iZ {H:Hp} {e:Addr}:lV H e e=none:=by unfold lV;rw [ao rfl]
theorem fY {H:Hp} {e b:Addr} (h:b≠e):lV H e b=H b:=by unfold lV;rw [ah h]
theorem i7 {H:Hp} {e b:Addr} (h:H b=none):lV H e b=none:=by
 by_cases q:b=e
 ·rw [q];exact iZ
 ·rw [fY q];exact h
theorem u5 {P:Program} {w:World} {H:Hp} {h:Heap} {e:Addr} {φ:Heap→Prop} (x:HOk P w H h) (he:H e=some (.ext φ)):HOk P w (lV H e) h:=fun a o q=>by
 by_cases z:a=e
 ·rw [z,iZ] at q;cases q
 ·rw [fY z] at q;refine (x a o q).stay (fun _ _ _ r=>r) (fun b r=>?_) fun b xs r=>?_
  ·rw [fY (fb r he (by intro y;cases y))];exact r
  ·rw [fY (fb r he (by intro y;cases y))];exact r
theorem we {fs ex:List Addr} {H H':Hp} {h h':Heap} {e:Addr} {φ:Heap→Prop} (u:Un fs ex H H' h h') (he:H' e=some (.ext φ)):Un fs ex H (lV H' e) h h' :=
 ⟨u.keep,u.slot,fun b o q n hx=>i7 (u.free b o q n hx),u.there,
  fun b xs q=>by rw [fY (fb (u.tups b xs q) he (by intro y;cases y))];exact u.tups b xs q,
  fun b o xs q=>by rw [fY (fb (u.frzs b o xs q) he (by intro y;cases y))];exact u.frzs b o xs q,
  fun b ps q=>by
   obtain ⟨m,r⟩:=u.tbls b ps q
   exact ⟨m,by rw [fY (fb r he (by intro y;cases y))];exact r⟩⟩
section
variable {X:Cx} {pins:List (Addr×Obj)} {σ:St} {H H':Hp} {s:Shared}
theorem pG {e:Addr} {φ:Heap→Prop} (I:Inv X pins σ H s) (he:H e=some (.ext φ)):Inv X pins σ (lV H e) s :=
 ⟨I.ok,I.os,I.bare,we I.base he,I.loc,I.cell,i7 I.free,fun x c q=>i7 (I.freeC x c q),
  fun p hp=>let ⟨a,b,c⟩:=I.pin p hp;⟨a,i7 b,c⟩,u5 I.hok he,I.len⟩
structure kl (X:Cx) (pins:List (Addr×Obj)) (e:Addr):Prop where
 new:X.s_0.heap.get? e=none
 loc:e≠X.env.locals
 cel:∀ x c,X.env.cells.lookup x=some c→c≠e
 pin:∀ p∈X.pn++pins,p.1≠e
 out:e∉X.fs
theorem j8 {e:Addr} (I:Inv X pins σ H s) (hx:X.ex=[]) (he:s.heap.get? e=none):kl X pins e:=by
 refine ⟨?_,?_,fun x c q z=>?_,fun p hp z=>?_,fun z=>?_⟩
 ·cases q:X.s_0.heap.get? e with
  | none=>rfl
  | some o =>
   obtain ⟨o',r⟩:=I.base.there e o q (by rw [hx];simp)
   rw [he] at r;cases r
 ·intro z;obtain ⟨m,⟨o,_,_,ho,_⟩,_⟩:=I.loc
  rw [←z,he] at ho;cases ho
 ·obtain ⟨v,o,ho,_⟩:=I.cell x c q
  rw [z,he] at ho;cases ho
 ·obtain ⟨a,_⟩:=I.pin p hp
  rw [z,he] at a;cases a
 ·obtain ⟨_,o,ho,_⟩:=I.funs.mem z
  rw [he] at ho;cases ho
theorem j9 {e:Addr} {o:HO} (I:Inv X pins σ H s) (y:kl X pins e) (hn:H e=none) (ok:du X.prog X.w (upd H e o) s.heap e o):Inv X pins σ (upd H e o) s:=by
 refine ⟨I.ok,I.os,I.bare,⟨I.base.keep,I.base.slot,fun b u q n hx=>?_,I.base.there,fun b xs q=>?_,fun b u xs q=>?_,fun b ps q=>?_⟩,I.loc,I.cell,?_,fun x c q=>?_,fun p hp=>?_,fun b u q=>?_,I.len⟩
 ·rw [aa (fun z=>by rw [z,y.new] at q;cases q)]
  exact I.base.free b u q n hx
 ·rw [aa (af (I.base.tups b xs q) hn)];exact I.base.tups b xs q
 ·rw [aa (af (I.base.frzs b u xs q) hn)];exact I.base.frzs b u xs q
 ·obtain ⟨m,r⟩:=I.base.tbls b ps q
  exact ⟨m,by rw [aa (af r hn)];exact r⟩
 ·rw [aa (aN y.loc)];exact I.free
 ·rw [aa (y.cel x c q)];exact I.freeC x c q
 ·obtain ⟨a,b,c⟩:=I.pin p hp
  exact ⟨a,by rw [aa (y.pin p hp)];exact b,c⟩
 ·by_cases z:b=e
  ·subst z;rw [au] at q;cases q;exact ok
  ·rw [aa z] at q;exact (I.hok b u q).stay (fun _ _ _ r=>r) (fun c r=>by rw [aa (af r hn)];exact r) fun c xs r=>by rw [aa (af r hn)];exact r
theorem pH {e:Addr} {h':Heap} (I:Inv X pins σ H s) (hn:H e=none) (y:kl X pins e) (k:wk (frs X.stack) e s.heap h'):Inv X pins σ H { s with heap:=h' }:=by
 have nst:e∉frs X.stack:=fun z=>by
  rcases aF.mp (I.stkSub e z) with q | q
  ·exact y.loc q
  ·exact y.out q
 obtain ⟨m,⟨o,es,ep,ho,r⟩,_⟩:=id I.loc
 have up:∀ b u,b≠e→s.heap.get? b=some u→∃ sl,h'.get? b=some { u with slots:=sl }:=fun b u hb q=>by
  by_cases z:b∈frs X.stack
  ·exact k.slot b u z q
  ·exact ⟨u.slots,k.keep b u z hb q⟩
 have nH:∀ b u,H b=some u→b∉frs X.stack:=fun b u q z=>by rw [I.stkFree b z] at q;cases q
 have n0:∀ b u,X.s_0.heap.get? b=some u→b≠e:=fun b u q z=>by rw [z,y.new] at q;cases q
 have nl:∀ b u,X.s_0.heap.get? b=some u→b≠X.env.locals:=fun b u q=>bt (bc (aV q) I.ok.above)
 have cl:∀ x c v,X.env.cells.lookup x=some c→s.heap.IsCell c v→h'.IsCell c v:=fun x c v q ⟨u,hu,hd⟩=>by
  obtain ⟨sl,z⟩:=up c u (y.cel x c q) hu
  exact ⟨_,z,hd⟩
 refine ⟨I.ok,I.os,I.bare,⟨fun b u q n hb hx=>?_,fun b u q n hb hx=>?_,I.base.free,fun b u q hx=>?_,I.base.tups,I.base.frzs,I.base.tbls⟩,?_,fun x c q=>?_,I.free,I.freeC,fun p hp=>?_,fun b u q=>?_,I.len⟩
 ·exact k.keep b u (fun z=>(aF.mp (I.stkSub b z)).elim (nl b u q) hb) (n0 b u q) (I.base.keep b u q n hb hx)
 ·obtain ⟨sl,z⟩:=I.base.slot b u q n hb hx
  obtain ⟨sl',z'⟩:=up b _ (n0 b u q) z
  exact ⟨sl',z'⟩
 ·obtain ⟨u',z⟩:=I.base.there b u q hx
  obtain ⟨sl,z'⟩:=up b _ (n0 b u q) z
  exact ⟨_,z'⟩
 ·obtain ⟨m',hm,hl⟩:=I.loc
  refine ⟨m',?_,fun i x v e1 e2 e3=>?_⟩
  ·obtain ⟨o',es',ep',ho',r'⟩:=hm
   obtain ⟨sl,z⟩:=up _ o' (aN y.loc) ho'
   exact ⟨_,es',ep',z,r'⟩
  ·obtain ⟨u,ru,l⟩:=hl i x v e1 e2 e3
   refine ⟨u,ru,?_⟩
   rcases l with l | ⟨kk,c,ec,z⟩
   ·exact .inl l
   ·exact .inr ⟨kk,c,ec,cl x c _ ec z⟩
 ·obtain ⟨v,z⟩:=I.cell x c q
  exact ⟨v,cl x c v q z⟩
 ·obtain ⟨a1,a2,a3,a4,a5⟩:=I.pin p hp
  exact ⟨k.keep p.1 p.2 (fun z=>(aF.mp (I.stkSub p.1 z)).elim a3 a4) (y.pin p hp) a1,a2,a3,a4,a5⟩
 ·refine (I.hok b u q).stay (fun c v hc r'=>k.keep c v ?_ ?_ r') (fun _ z=>z) fun _ _ z=>z
  ·rcases hc with z | z
   ·rw [z];exact nH b u q
   ·exact nH c _ z
  ·rcases hc with z | z
   ·rw [z];exact af q hn
   ·exact af z hn
end
def CXF (P:Program) (w:World):CXT:=fun outer H s E x s'=>∃ e C dx H',x = .ref e∧s'.os=s.os∧AllBare s'.gens∧Un (frs outer) [] H H' s.heap s'.heap∧HOk P w H' s'.heap ∧
 iX s'.heap e C dx∧s.heap.get? e=none∧H' e=none∧E (.ref C) (some dx) H'
def lU (X:Cx) (E:XK):Prop:=∀ (pins:List (Addr×Obj)) (σ:St) (H:Hp) (s:Shared) (e C dx:Addr),Inv X pins σ H s→Fly s.heap e C dx→H e=none→kl X pins e→E (.ref C) (some dx) H→X.xe (.ref e) s
theorem ck {P:Program} {w:World} {K:Fg_} {mg:Str→Option Value} {base:Heap} {N:List Str} {qual:Str} {scope:Scope} {f:Addr} {cd:Value} {A:Around} {outer:List Env} {s:Shared} {H:Hp} {E:XK} :
  lU (cY (CXF P w) P w K mg base N qual scope f cd A outer s H E) E:=by
 intro pins σ H1 s1 e C dx I fl hn y q;refine sI (outer:=outer) (L:=s.heap.objs.size) I.ok.frames I.stack rfl fl fun h' ld k=>?_
 have I':=pH I hn y k
 exact ⟨e,C,dx,H1,rfl,I'.os,I'.bare,I'.base,I'.hok,ld,y.new,hn,q⟩
theorem jP {X:Cx} {E:XK} (hf:lU X E) (hx:X.ex=[]):gC (CXF X.prog X.w) X E:=by
 rintro pins σ H s e s' I ⟨e',C,dx,H',rfl,os,bare,un,hok,ld,new,hn,q⟩
 exact hf pins σ H' s' e' C dx (I.call' os un hok bare (ch:=[]) fun b z=>aP z (by simp)) (.inr ld) hn (j8 I hx new) q
section
variable {P:Program} {w:World} {K:Fg_} {mg:Str→Option Value} {base:Heap}
theorem okX {x qual:Str} {st:Stmt} {f:Addr} {fd:FuncData} {N ps:List Str} {k:Nat} {sp:Sp} (F:Fun K x qual st f fd) (S:bw N ps (a9 st)) (len:∀ vs H Q E,sp vs H Q E→vs.length=ps.length)
  (hbody:∀ (cdv:Value) (A:Around) (outer:List Env) (s:Shared) (H:Hp) (vs:List V) (Q:VK) (E:XK),cB k (A.deeper (envOfC qual (a9 st) s.heap.objs.size f cdv))→sp vs H Q E →
   ∃ t,PSs (cY (CXF P w) P w K mg base N qual (a9 st) f cdv A outer s H E) (fJ st) t∧t { nx:=fun _ H'=>Q .non H',rt:=Q } (start N vs) H):bK P w K mg base (CXF P w) (k+1) f fd ps sp:=by
 obtain ⟨oc,od,kV,doc,pm,an,cdv,ct,osl,rfl,lk,hcd⟩:=F.ex
 exact wG lk hcd S len fun A outer s H vs Q E hr hsp=>hbody cdv A outer s H vs Q E hr hsp
theorem dC {N:List Str} {qual:Str} {scope:Scope} {f:Addr} {cd:Value} {A:Around} {outer:List Env} {s:Shared} {H:Hp} {E:XK} :
  gC (CXF P w) (cY (CXF P w) P w K mg base N qual scope f cd A outer s H E) E:=jP ck rfl
end
def uv (o:Obj):Bool:=match o.data with
 | .dict es _=>es.all fun e=>match e.key with | .str _ _=>true | _=>false
 | _=>false
structure j6 (K:Fg_) (C fI:Addr):Prop where
 ex:∃ (nm q:Str) (N:Addr) (bs:List Value) (sn:List Str) (sub:List Value) (ab:Bool) (col:Option Bool) (dd:Option Addr) (k0 k1 k2 k3 k5:Option Value) (oN:Obj),
  K.lookup C=some (excClassObj nm q C N bs bmE true sn sub ab col dd k0 k1 k2 k3 k5 "Exception.__new__")∧K.lookup N=some oN∧uv oN=true ∧
  PySem.W.nsIn K N "__init__" = some (some (.ref fI))∧PySem.W.nsIn K N "__setattr__" = some none∧PySem.W.nsIn K N "__getattribute__" = some none∧PySem.W.nsIn K N "__getattr__" = some none ∧
  PySem.W.nsIn K N "kind" = some none∧PySem.W.nsIn K N "place" = some none
 fn:PySem.W.isFn K (.ref fI)=true
 kp:PySem.W.keepIn K (.ref C)=true
theorem qd {K:Fg_} {h:Heap} {N:Addr} {m:Str→Option Value} {n:Str} {v:Value} (X:K.In h) (G:h.Ns N m) (e:PySem.W.nsIn K N n=some (some v)):m n=some v:=by
 obtain ⟨o,es,ep,ho,hd,_,hf⟩:=G
 unfold PySem.W.nsIn at e;split at e
 ·rename_i c d es' n' sl q
  have z:=X _ _ q
  rw [ho] at z;cases z;cases hd;split at e
  ·rename_i en he
   cases e;rw [←hf];unfold nsFind findBy;rw [←Array.find?_toList,he];rfl
  ·split at e<;>cases e
 ·cases e
structure XAt (h:Heap) (C fI:Addr) (N:Addr) (mN:Str→Option Value):Prop where
 obj:∃ (nm q:Str) (bs:List Value) (sn:List Str) (sub:List Value) (ab:Bool) (col:Option Bool) (dd:Option Addr) (k0 k1 k2 k3 k5:Option Value),
  h.get? C=some (excClassObj nm q C N bs bmE true sn sub ab col dd k0 k1 k2 k3 k5 "Exception.__new__")
 ns:h.Ns N mN
 ini:mN "__init__" = some (.ref fI)
 sa:mN "__setattr__" = none
 ga:mN "__getattribute__" = none
 gr:mN "__getattr__" = none
 kd:mN "kind" = none
 pl:mN "place" = none
theorem j6.at_ {K:Fg_} {C fI:Addr} {h:Heap} (x:j6 K C fI) (KX:K.In h):∃ N mN,XAt h C fI N mN:=by
 obtain ⟨nm,q,N,bs,sn,sub,ab,col,dd,k0,k1,k2,k3,k5,oN,l1,l2,ko,i1,i2,i3,i4,i5,i6⟩:=x.ex
 have hn:h.isNs N=true:=by
  unfold Heap.isNs;rw [KX _ _ l2];unfold uv at ko;exact ko
 have G:h.Ns N (h.nsMap N):=.of_isNs hn
 exact ⟨N,h.nsMap N,⟨nm,q,bs,sn,sub,ab,col,dd,k0,k1,k2,k3,k5,KX _ _ l1⟩,G,qd KX G i1,eB KX G i2,eB KX G i3,eB KX G i4,eB KX G i5,eB KX G i6⟩
theorem vO:typeLookup (.type "Exception") "kind" = pure none:=by rw [typeLookup_type,builtinLookup_eq_fast];kernel_rfl
theorem uu:typeLookup (.type "Exception") "place" = pure none:=by rw [typeLookup_type,builtinLookup_eq_fast];kernel_rfl
def Fld (f:Str):Prop:=f = "kind"∨f = "place"
theorem Fld.lk {f:Str} (h:Fld f):typeLookup (.type "Exception") f=pure none:=by
 rcases h with rfl | rfl
 ·exact vO
 ·exact uu
theorem Fld.no {f:Str} (h:Fld f) {hp:Heap} {C fI N:Addr} {mN:Str→Option Value} (x:XAt hp C fI N mN):mN f=none:=by
 rcases h with rfl | rfl
 ·exact x.kd
 ·exact x.pl
section
variable {X:Cx} {pins:List (Addr×Obj)} {σ:St} {H:Hp} {s:Shared} {e C fI dx:Addr} {f:Str} {v:V} {u:Value} {E:Value→Shared→Prop} {A:Around}
theorem oy {Q:Unit→Shared→Prop} (I:Inv X pins σ H s) (c:j6 X.K C fI) (hf:Fld f) (he:H e=some (XE e C none)) (rv:b7 v u)
  (h:∀ dx s',H dx=none→dx≠e→Inv X pins σ (upd (upd H dx (XD dx [(f,v)])) e (XE e C (some dx))) s'→Q () s'):wpAny (model X.prog X.w) A (setAttr (.ref e) f u) Q E s:=by
 obtain ⟨N,mN,x⟩:=c.at_ I.kIn
 obtain ⟨nm,q,bs,sn,sub,ab,col,dd,k0,k1,k2,k3,k5,hC⟩:=x.obj
 obtain ⟨o,vs,ho,hc,hd,hdat,h1⟩:=oa I.hok he
 have hnc:∀ c,o.data≠.cls c:=fun c z=>by rw [hdat] at z;cases z
 obtain ⟨hh,gg,dr,tt,oo⟩:=s
 refine oP PySem.F.store_Exception hC x.ns x.sa ho hc fun A R tk t' hR=>?_
 refine oO PySem.F.store_Exception hC ho hc fun A T E' hT=>?_
 refine rV hC x.ns (hf.no x) hf.lk ho hc hd hnc fun h' tk' e1 e2 e3=>hT _ (hR _ ?_)
 have hfr:H hh.objs.size=none:=I.hok.fresh (aI _)
 have nes:hh.objs.size≠e:=fun z=>by rw [z,he] at hfr;cases hfr
 refine h hh.objs.size _ hfr nes ?_
 have nE:∀ b w,H b=some w→(∀ φ,w≠.ext φ)→b≠e:=fun b w q nw=>fb q he (nw _)
 have nS:∀ b w,H b=some w→b≠hh.objs.size:=fun b w q=>af q hfr
 have at_:∀ b w,H b=some w→(∀ φ,w≠.ext φ)→upd (upd H hh.objs.size (XD hh.objs.size [(f,v)])) e (XE e C (some hh.objs.size)) b=some w:=fun b w q nw=>by
  rw [aa (nE b w q nw),aa (nS b w q)];exact q
 have un:Un X.fs [] H (upd (upd H hh.objs.size (XD hh.objs.size [(f,v)])) e (XE e C (some hh.objs.size))) hh h':=by
  refine ⟨fun b w q n _ _=>e3 b w (fun z=>by rw [z,he] at n;cases n) q,fun b w q n _ _=>⟨w.slots,e3 b w (fun z=>by rw [z,he] at n;cases n) q⟩,fun b w q n _=>?_,fun b w q _=>?_,
   fun b xs q=>at_ b _ q (fun _ z=>nomatch z),fun b w xs q=>at_ b _ q (fun _ z=>nomatch z),fun b ps q=>⟨#[],by rw [at_ b _ q (fun _ z=>nomatch z)];simp⟩⟩
  ·rw [aa (fun z=>by rw [z,he] at n;cases n),aa (bt (aV q))];exact n
  ·by_cases z:b=e
   ·exact ⟨_,by rw [z];exact e1⟩
   ·exact ⟨w,e3 b w z q⟩
 refine I.un (h':=h') un fun b w q=>?_
 by_cases z:b=e
 ·subst z;rw [au] at q;cases q;exact qz e1 hc rfl hdat h1
 ·rw [aa z] at q;by_cases z2:b=hh.objs.size
  ·subst z2;rw [au] at q;cases q;refine sS e2 (fun g=>?_) fun g hg=>?_
   ·show gc (List.lookup g [(f,v)]) (if g=f then some u else none)
    by_cases y:g=f
    ·have hb:(g==f)=true:=beq_iff_eq.mpr y
     simp only [List.lookup,hb,ao y];exact rv
    ·have hb:(g==f)=false:=aQ.mpr y
     simp only [List.lookup,hb,ah y];trivial
   ·by_cases y:g=f
    ·simp [y]
    ·exact aP (show (if g=f then some u else none)=none from ah y) hg
  ·rw [aa z2] at q;refine (I.hok b w q).stay (fun b' v' hc' r=>e3 b' v' ?_ r) (fun b' r=>at_ b' _ r (fun _ z=>nomatch z)) fun b' xs r=>at_ b' _ r (fun _ z=>nomatch z)
   rcases hc' with y | y
   ·rw [y];exact z
   ·exact nE b' _ y (fun _ z=>nomatch z)
theorem pV {Q:Unit→Shared→Prop} {fs:List (Str×V)} (I:Inv X pins σ H s) (c:j6 X.K C fI) (hf:Fld f) (he:H e=some (XE e C (some dx))) (hd:H dx=some (XD dx fs)) (hne:dx≠e) (hl:fs.length≤1000) (rv:b7 v u)
  (h:∀ s',Inv X pins σ (upd H dx (XD dx (eX f v fs))) s'→Q () s'):wpAny (model X.prog X.w) A (setAttr (.ref e) f u) Q E s:=by
 obtain ⟨N,mN,x⟩:=c.at_ I.kIn
 obtain ⟨nm,q,bs,sn,sub,ab,col,dd,k0,k1,k2,k3,k5,hC⟩:=x.obj
 obtain ⟨o,vs,ho,hc,hdo,hdat,h1⟩:=oa I.hok he
 obtain ⟨mA,n1,rl,wi⟩:=wo I.hok hd
 obtain ⟨hh,gg,dr,tt,oo⟩:=s
 refine oP PySem.F.store_Exception hC x.ns x.sa ho hc fun A R tk t' hR=>?_
 refine oO PySem.F.store_Exception hC ho hc fun A T E' hT=>?_
 refine p6 hC x.ns (hf.no x) hf.lk ho hc hdo hne n1 wi (by rw [ae];exact hl) fun h' tk' e1 e3=>hT _ (hR _ (h _ ?_))
 have hex:∃ z,h'.get? dx=some z:=let ⟨z,_,_,r,_⟩:=e1;⟨z,r⟩
 refine I.write (h':=h') (x:=dx) (e:=dx) (by rw [hd];exact True.intro) (.inl rfl) (fun b w hb r=>e3 b w hb r) hex ?_
 refine sS e1 (fun g=>?_) fun g hg=>?_
 ·show gc ((eX f v fs).lookup g) (if g=f then some u else mA g)
  rw [iP];by_cases y:g=f
  ·rw [ao y,ao y];exact rv
  ·rw [ah y,ah y];exact rl g
 ·by_cases y:g=f
  ·rw [y];exact (hW f v fs).1
  ·refine (hW f v fs).2 g (wi g fun z=>hg ?_)
   show (if g=f then some u else mA g)=none
   rw [ah y];exact z
end
section
variable {M:Model} {A:Around} {E:Value→Shared→Prop} {env:Env}
variable {nm q:Str} {C N:Addr} {bs:List Value} {sn:List Str} {sub:List Value} {ab:Bool} {col:Option Bool} {dd:Option Addr} {k0 k1 k2 k3 k5:Option Value} {ni:String}
theorem tW {s:Shared} {x:Sem Value} {Q:Flow→Shared→Prop} (hh:A.handled=none)
  (h:wpAny M A x (fun v s1=>∃ (e:Addr) (nm q:Str) (N:Addr) (bs:List Value) (sn:List Str) (sub:List Value) (ab:Bool) (col:Option Bool) (dd:Option Addr) (k0 k1 k2 k3 k5:Option Value) (o:Obj) (vs:Array Value),
   v = .ref e∧s1.heap.get? C=some (excClassObj nm q C N bs bmE true sn sub ab col dd k0 k1 k2 k3 k5 "Exception.__new__") ∧
   s1.heap.get? e=some o∧o.cls = .ref C∧o.data = .fields vs∧vs[1]? = some .none∧E (.ref e) s1) E s) :
  wpAny M A (raiseStmt env (some x) none) Q E s:=by
 have hcB:∀ C:Addr,(Value.ref C::bmE).contains (.type "BaseException")=true:=fun C=>by rw [c5,show bmE.contains (.type "BaseException")=true from by decide +kernel,Bool.or_true]
 unfold raiseStmt;refine ag (wpAny_mono h (fun v s1 h1=>?_) fun _ _ z=>z)
 obtain ⟨e,nm,q,N,bs,sn,sub,ab,col,dd,k0,k1,k2,k3,k5,o,vs,rfl,hC,he,hc,hd,hv,hE⟩:=h1
 obtain ⟨hp,g,d,tk,os⟩:=s1
 repeat (first
  | (with_reducible refine wpAny_loadPart_at he ?_;rw [hc])
  | (with_reducible refine wpAny_loadPart_at he ?_)
  | with_reducible refine wpAny_loadPart_at hC ?_
  | (with_reducible refine wpAny_isSubtype_exc hC ?_;rw [hcB])
  | with_reducible refine wpAny_field he hd hv ?_
  | wp_step)
 exact wpAny_raiseNew_none hh hE
end
section
variable {X:Cx} {C fI:Addr} {o value e:Expr} {f:Str} {pos pos':Pos} {ta tv:TE}
def sX1 (C:Addr) (ta tv:TE) (f:Str):TS:=fun D σ H=>tv σ H fun y H1=>ta σ H1 fun x H2=>∃ e,x = .ref e∧H2 e=some (XE e C none)∧∀ dx,H2 dx=none→dx≠e→D.nx σ (upd (upd H2 dx (XD dx [(f,y)])) e (XE e C (some dx)))
def sX2 (C:Addr) (ta tv:TE) (f:Str):TS:=fun D σ H=>tv σ H fun y H1=>ta σ H1 fun x H2=>∃ e dx fs,x = .ref e∧H2 e=some (XE e C (some dx))∧H2 dx=some (XD dx fs)∧dx≠e∧fs.length≤1000∧D.nx σ (upd H2 dx (XD dx (eX f y fs)))
theorem ps_x1 (c:j6 X.K C fI) (hf:Fld f) (ha:PE X o ta) (hv:PE X value tv) (hs:swapsWith value (some (.Attribute o f pos')) pos.line X.env=pure false):PS X (.Assign [.Attribute o f pos'] value pos) (sX1 C ta tv f):=by
 intro pins s σ H D I h;refine plainObj_wpAny_Assign_Attribute (thn (hv pins s σ H _ I h) fun u s1 ⟨y,H1,I1,ry,q⟩=>thn (ha pins s1 σ H1 _ I1 q) fun ov s2 ⟨x,H2,I2,rx,a,ex,ea,q2⟩=>?_) hs
 subst ex;obtain rfl:ov=Value.ref a:=rx
 exact oy I2 c hf ea ry fun dx s3 n ne I3=>⟨σ,_,I3,q2 dx n ne⟩
theorem ps_x2 (c:j6 X.K C fI) (hf:Fld f) (ha:PE X o ta) (hv:PE X value tv) (hs:swapsWith value (some (.Attribute o f pos')) pos.line X.env=pure false):PS X (.Assign [.Attribute o f pos'] value pos) (sX2 C ta tv f):=by
 intro pins s σ H D I h;refine plainObj_wpAny_Assign_Attribute (thn (hv pins s σ H _ I h) fun u s1 ⟨y,H1,I1,ry,q⟩=>thn (ha pins s1 σ H1 _ I1 q) fun ov s2 ⟨x,H2,I2,rx,a,dx,fs,ex,ea,ed,ne,l,q2⟩=>?_) hs
 subst ex;obtain rfl:ov=Value.ref a:=rx
 exact pV I2 c hf ea ed ne l ry fun s3 I3=>⟨σ,_,I3,q2⟩
end
def kp (k p:V):List (Str×V):=[("kind",k),("place",p)]
def jK (C:Addr):Sp:=fun vs H Q _=>∃ (e:Addr) (k p:V),vs=[.ref e,k,p]∧H e=some (XE e C none)∧∀ dx H',dx≠e→H' e=some (XE e C (some dx))→H' dx=some (XD dx (kp k p))→Q .non H'
theorem jr {P:Program} {w:World} {H:Hp} {h:Heap} {a:Addr} {o:HO} (x:du P w H h a o):∃ ob,h.get? a=some ob:=by
 cases o with
 | lst xs=>obtain ⟨_,_,_,_,e⟩:=x;exact ⟨_,e⟩
 | tup xs=>obtain ⟨_,_,_,_,e,_⟩:=x;exact ⟨_,e⟩
 | dK kvs=>obtain ⟨_,_,_,_,o,_,_,e,_⟩:=x;exact ⟨_,e⟩
 | dT kvs=>obtain ⟨_,_,_,_,o,_,_,e,_⟩:=x;exact ⟨_,e⟩
 | set S n=>obtain ⟨o,_,_,_,e,_⟩:=x;exact ⟨_,e⟩
 | ins C dx fs=>obtain ⟨_,_,_,e,_⟩:=x;exact ⟨_,e⟩
 | own y=>obtain ⟨_,e⟩:=x;exact ⟨_,e⟩
 | xd fs=>obtain ⟨_,⟨_,_,_,e,_⟩,_⟩:=x;exact ⟨_,e⟩
 | rng lo hi=>obtain ⟨_,_,_,e⟩:=x;exact ⟨_,e⟩
 | frz ob u=>obtain ⟨e,_⟩:=x;exact ⟨_,e⟩
 | tbl ps=>exact ⟨_,x⟩
 | met f y=>exact ⟨_,x⟩
 | ext φ=>obtain ⟨_,e,_⟩:=x;exact e
def Err (E:XK) (C:Addr) (k p:V):Prop:=∀ H' dx,H' dx=some (XD dx (kp k p))→E (.ref C) (some dx) H'
def yh (C:Addr) (E:XK) (t:TA):TS:=fun _ σ H=>t σ H fun vs _=>∃ k p,vs=[k,p]∧Err E C k p
section
variable {X:Cx} {C fI:Addr} {fd:FuncData} {x:Str} {np cpos pos:Pos} {a b:Expr} {E:XK} {t:TA} {k:Nat}
theorem dQ (c:j6 X.K C fI) (F:bK X.prog X.w X.K X.mg X.base CX0 k fI fd ["self","kind","place"] (jK C)) (hbi:bT X.K fd ["self","kind","place"] []) (hr:cB (k+1) X.A) (hfl:lU X E) (hxx:X.ex=[]) (hg:Gl X x) (hm:X.mg x=some (.ref C))
  (ha:PA X [a,b] t) (hdb:(x==("__debug__" : Str))=false:=by decide) (hst:starEach [a,b] X.env=(false,eval a X.env)::starEach [b] X.env:=by rfl) (hpl:(backTo cpos (starEach [b] X.env)).any (·.1)=false:=by rfl) :
  PS X (.Raise (some (.Call (.Name x np) [a,b] [] cpos)) none pos) (yh C E t):=by
 intro pins s σ H D I h;rw [arm_exec_Raise];refine ag (wpAny_standAt (tW (C:=C) hr.hd (ag (m:=eval (.Call (.Name x np) [a,b] [] cpos) X.env) ?_)))
 refine wpAny_Call_Name_kw (gL I hg hm ?_ hdb)
 refine PySem.W.callWith_K (h₀:=X.base) I.ok.mod.kin c.kp (thn (ha cpos pins s σ H _ I h) fun us s1 ⟨vs,H1,I1,r,kv,pv,ev,q⟩=>⟨I1.kIn,?_⟩) hst hpl
 subst ev;cases r with
 | @cons _ u1 _ r1 rv1 rr1 =>
 cases rr1 with
 | @cons _ u2 _ r2 rv2 rr2 =>
 cases rr2;obtain ⟨N,mN,xa⟩:=c.at_ I1.kIn
 obtain ⟨nm,q',bs,sn,sub,ab,col,dd,k0,k1,k2,k3,k5,hC⟩:=xa.obj
 have fn:=c.fn
 unfold PySem.W.isFn at fn;have fn2:=beq_iff_eq.mp fn
 unfold PySem.W.typeIn at fn2;obtain ⟨oI,hoI,hcI⟩:=fL.mp fn2
 obtain ⟨hh,gg,dr,tt,oo⟩:=s1
 refine wpAny_call_exc_init PySem.F.excBase_Exception hC xa.ns xa.ini (I1.kIn _ _ hoI) hcI (fun h' e md=>?_) (by show 2≤sizeLine;decide)
 obtain ⟨tu,e1,e2,e3⟩:=md.there
 have he:H1 e=none:=by
  cases z:H1 e with
  | none=>rfl
  | some w =>
   obtain ⟨oz,hz⟩:=jr (I1.hok e w z)
   rw [md.new] at hz;cases hz
 have y:kl X pins e:=j8 I1 hxx md.new
 have I2:Inv X pins σ (upd H1 e (XE e C none)) ⟨h',gg,dr,tt,oo⟩ :=
  j9 (I1.kept (h':=h') (t':=tt) md.keeps) y he (qz e1 rfl rfl rfl rfl)
 have hsp:jK C [.ref e,kv,pv] (upd H1 e (XE e C none)) (fun v H'=>v = .non∧∃ dx,dx≠e∧H' e=some (XE e C (some dx))∧H' dx=some (XD dx (kp kv pv))) E0 :=
  ⟨e,kv,pv,rfl,au,fun dx H' z1 z2 z3=>⟨rfl,dx,z1,z2,z3⟩⟩
 refine wpAny_call (codeAny_mono (F.run _ X.stack _ _ ⟨[.ref e,u1,u2],[]⟩ [.ref e,u1,u2] [.ref e,kv,pv] _ _ (hr.make C [u1,u2] []) (I2.env0.make C [u1,u2] []) ?_ (.cons rfl (.cons rv1 (.cons rv2 .nil))) hsp) fun r s' hq=>?_)
 ·exact hbi _ [.ref e,u1,u2] I2.kIn rfl
 ·cases r with
  | error x=>exact hq.elim
  | ok fl =>
   cases fl with
   | next=>exact False.elim hq
   | brk=>exact False.elim hq
   | cont=>exact False.elim hq
   | ret u =>
    obtain ⟨v,H',I3,rv,ev,dx,z1,z2,z3⟩:=I2.after hq
    subst ev;refine ⟨rv,ag (wpAny_standAt (aM ?_))⟩
    obtain ⟨N3,mN3,xa3⟩:=c.at_ I3.kIn
    obtain ⟨nm3,q3,bs3,sn3,sub3,ab3,col3,dd3,j0,j1,j2,j3,j5,hC3⟩:=xa3.obj
    obtain ⟨o,vs,ho,hc,hd,hdat,h1⟩:=oa I3.hok z2
    refine ⟨e,nm3,q3,N3,bs3,sn3,sub3,ab3,col3,dd3,j0,j1,j2,j3,j5,o,vs,rfl,hC3,ho,hc,hdat,h1,?_⟩
    exact hfl pins σ (lV H' e) s' e C dx (pG I3 z2) (.inl ⟨o,vs,ho,hc,hd,hdat,h1⟩) iZ y (q _ dx (by rw [fY z1];exact z3))
end
abbrev Xm (X:Cx) (v:Value) (xe:Value→Shared→Prop):Cx:={ X with A:=X.A.mark (some v),calm:=false,xe:=xe }
section
variable {X:Cx} {pins:List (Addr×Obj)} {σ:St} {H:Hp} {s:Shared} {v:Value} {xe:Value→Shared→Prop}
theorem ok_in (ok:X.Ok):(Xm X v xe).Ok :=
 ⟨ok.mod,ok.kind,ok.glob,ok.blt,ok.above,ok.inj,ok.has,ok.cab,fun z=>Bool.noConfusion z,ok.frames,ok.stk,ok.exf,ok.bs,ok.bsz,ok.noex,ok.exfs,ok.funs,ok.frf⟩
theorem nL (I:Inv X pins σ H s):Inv (Xm X v xe) pins σ H s:=⟨ok_in I.ok,I.os,I.bare,I.base,I.loc,I.cell,I.free,I.freeC,I.pin,I.hok,I.len⟩
theorem qW (ok:X.Ok) (I:Inv (Xm X v xe) pins σ H s):Inv X pins σ H s:=⟨ok,I.os,I.bare,I.base,I.loc,I.cell,I.free,I.freeC,I.pin,I.hok,I.len⟩
def gh (X:Cx):St:=List.replicate X.N.length none
theorem qk (I:Inv X pins σ H s):Inv X pins (gh X) H s:=I.weak (by unfold gh;rw [cu,I.len]) fun i v e=>by
 unfold gh at e;rw [cx] at e;split at e<;>cases e
theorem qj {h':Heap} {m':Str→Option Value} {t':Nat} (I:Inv X pins σ H s) (hn:h'.Ns X.env.locals m') (hs:Heap.SameBut X.env.locals s.heap h'):Inv X pins (gh X) H { s with heap:=h',toks:=t' }:=by
 have nl:∀ b o,X.s_0.heap.get? b=some o→b≠X.env.locals:=fun b o q=>bt (bc (aV q) I.ok.above)
 refine ⟨I.ok,I.os,I.bare,⟨fun b o e n hb hx=>?_,fun b o e n hb hx=>?_,I.base.free,fun b o e hx=>?_,I.base.tups,I.base.frzs,I.base.tbls⟩,⟨m',hn,fun j y v' e1 e2 e3=>?_⟩,fun y c e=>?_,I.free,I.freeC,fun p hp=>?_,fun b o e=>?_,by unfold gh;rw [cu]⟩
 ·exact (hs.2 b (nl b o e)).trans (I.base.keep b o e n hb hx)
 ·obtain ⟨sl,q⟩:=I.base.slot b o e n hb hx
  exact ⟨sl,(hs.2 b (nl b o e)).trans q⟩
 ·obtain ⟨o',q⟩:=I.base.there b o e hx
  exact ⟨o',(hs.2 b (nl b o e)).trans q⟩
 ·unfold gh at e2;rw [cx] at e2;split at e2<;>cases e2
 ·obtain ⟨w',z⟩:=I.cell y c e
  exact ⟨w',z.sameBut hs (I.cne y c e)⟩
 ·obtain ⟨e,n,ne,nf,d⟩:=I.pin p hp
  exact ⟨(hs.2 p.1 ne).trans e,n,ne,nf,d⟩
 ·refine (I.hok b o e).stay (fun c w' hc q=>(hs.2 c ?_).trans q) (fun _ q=>q) fun _ _ q=>q
  rintro rfl
  rcases hc with z | hc
  ·rw [←z,I.free] at e;cases e
  ·rw [I.free] at hc;cases hc
end
abbrev Xt (X:Cx) (pn:List (Addr×Obj)) (xe:Value→Shared→Prop):Cx:={ X with pn:=pn,xe:=xe }
section
variable {X:Cx} {pins pins':List (Addr×Obj)} {σ:St} {H:Hp} {s:Shared} {xe:Value→Shared→Prop}
theorem ok_t (ok:X.Ok) {pn:List (Addr×Obj)}:(Xt X pn xe).Ok :=
 ⟨ok.mod,ok.kind,ok.glob,ok.blt,ok.above,ok.inj,ok.has,ok.cab,ok.hd,ok.frames,ok.stk,ok.exf,ok.bs,ok.bsz,ok.noex,ok.exfs,ok.funs,ok.frf⟩
theorem ok_u {pn:List (Addr×Obj)} (ok:(Xt X pn xe).Ok):X.Ok :=
 ⟨ok.mod,ok.kind,ok.glob,ok.blt,ok.above,ok.inj,ok.has,ok.cab,ok.hd,ok.frames,ok.stk,ok.exf,ok.bs,ok.bsz,ok.noex,ok.exfs,ok.funs,ok.frf⟩
theorem uy (I:Inv X pins σ H s):Inv (Xt X (X.pn++pins) xe) [] σ H s :=
 ⟨ok_t I.ok,I.os,I.bare,I.base,I.loc,I.cell,I.free,I.freeC,fun p hp=>I.pin p (by simpa using hp),I.hok,I.len⟩
theorem iR (I:Inv (Xt X (X.pn++pins) xe) pins' σ H s):Inv X pins σ H s :=
 ⟨ok_u I.ok,I.os,I.bare,I.base,I.loc,I.cell,I.free,I.freeC,fun p hp=>I.pin p (cz _ hp),I.hok,I.len⟩
theorem pJ {e:Addr} (y:kl (Xt X (X.pn++pins) xe) pins' e):kl X pins e:=⟨y.new,y.loc,y.cel,fun p hp=>y.pin p (cz _ hp),y.out⟩
theorem uO {D:ie} {f:Flow} (ok:X.Ok) (h:SP (Xt X (X.pn++pins) xe) pins' D f s):SP X pins D f s:=by
 cases f with
 | next=>obtain ⟨σ',H',I,q⟩:=h;exact ⟨σ',H',iR I,q⟩
 | brk=>obtain ⟨σ',H',I,q⟩:=h;exact ⟨σ',H',iR I,q⟩
 | cont=>obtain ⟨σ',H',I,q⟩:=h;exact ⟨σ',H',iR I,q⟩
 | ret u=>obtain ⟨v,σ',H',I,r,q⟩:=h;exact ⟨v,σ',H',iR I,r,q⟩
end
def txe (X:Cx) (pins:List (Addr×Obj)) (D:ie) (hs:List ExceptHandler):Value→Shared→Prop:=fun e s1 =>
 wpAny (model X.prog X.w) X.A (noteFrame e X.env) (fun _ s2=>wpAny (model X.prog X.w) X.A (setFlight e none) (fun _ s3=>wpAny (model X.prog X.w) X.A (handleBy e X.env hs) (SP X pins D) X.xe s3) X.xe s2) X.xe s1
def Rt (D:ie):ie:={ nx:=fun _ _=>False,rt:=D.rt }
theorem rO {X:Cx} {pins:List (Addr×Obj)} {v:Value} {xe:Value→Shared→Prop} {D:ie} {f:Flow} {s:Shared} (ok:X.Ok) (h:SP (Xm X v xe) pins (Rt D) f s):SP X pins D f s:=by
 cases f with
 | next=>obtain ⟨_,_,_,q⟩:=h;exact q.elim
 | brk=>obtain ⟨_,_,_,q⟩:=h;exact q.elim
 | cont=>obtain ⟨_,_,_,q⟩:=h;exact q.elim
 | ret u=>obtain ⟨v,σ',H',I,r,q⟩:=h;exact ⟨v,σ',H',qW ok I,r,q⟩
section
variable {X:Cx} {C fI:Addr} {x n:Str} {np hpos pos:Pos} {body:List Stmt} {b0:Stmt} {suite:List Stmt} {tb:XK→TS} {ts:TS} {i:Nat}
theorem tD {e dx:Addr} {pins:List (Addr×Obj)} {σ:St} {H:Hp} {s:Shared} {R:Result→Shared→Prop} (c:j6 X.K C fI) (hg:Gl X x) (hm:X.mg x=some (.ref C)) (hdb:(x==("__debug__" : Str))=false)
  (I:Inv X pins σ H s) (ld:iX s.heap e C dx) (h:R (.ok .brk) s):codeAny (model X.prog X.w) (X.A.mark (some (.ref e))) (.handlers (.ref e) [.ExceptHandler (some (.Name x np)) none [] hpos] X.env) R s:=by
 refine codeAny_handlers_test (gL (X:=Xm X (.ref e) fun _ _=>False) (nL I) hg hm ?_ hdb)
 obtain ⟨N,mN,xa⟩:=c.at_ I.kIn
 obtain ⟨nm,q',bs,sn,sub,ab,col,dd,k0,k1,k2,k3,k5,hC⟩:=xa.obj
 obtain ⟨o,vs,T,oT,tss,he,hc,hdx,hd,h1,hTe,hT,hdT,h3⟩:=ld
 obtain ⟨hh,gg,dr,tt,oo⟩:=s
 exact wpAny_excMatches_sub_self hC he hc (by decide +kernel) h
end
end L2.XC
namespace L2
open PySem PySem.Spec PyProof.Rows
theorem iV:bootBuiltins "reversed" = some (.type "reversed"):=by decide +kernel
section
variable {X:Cx}
theorem m9 {tg:Expr} {pins:List (Addr×Obj)} {σ:St} {H:Hp} {s:Shared} {R:It→Hp→Prop} {J:It} {tn:Nat→Heap→Prop} {tk:Nat} (I:Inv X pins σ H s) (o:Obj)
  (T:Turn X.prog X.w X.K tg J [s.heap.objs.size] s.heap.objs.size tn) (st:tn 0 (s.heap.push o)) (q:R J H):PIE X pins σ tg R (.ref s.heap.objs.size) { s with heap:=s.heap.push o,toks:=tk }:=by
 refine ⟨s.heap.objs.size,[s.heap.objs.size],tn,J,H,rfl,I.kept fun b ob e=>aK _ e,T,st,fun b hb=>?_,q⟩
 have e:b=s.heap.objs.size:=by simpa using hb
 subst e;exact I.fpOk (aI _) (I.hok.fresh (aI _))
end
def Itv (K:Fg_) (a:Addr) (n:Nat):It :=
 ⟨fun i H=>i<n∧∃ (xs:List V) (x:V),SqL K H a xs∧xs[n - 1 - i]? = some x,fun i H x H'=>H'=H∧∀ xs,SqL K H a xs→xs[n - 1 - i]? = some x,fun i _=>n≤i⟩
theorem tq {P:Program} {w:World} {K:Fg_} {tg:Expr} (a it:Addr) (n:Nat):Turn P w K tg (Itv K a n) [it] it (fun i h=>i≤n∧h.IsRevIter it a ((n:Int) - 1 - (i:Nat))) where
 mem:=by simp
 obj:=fun i h st b hb=>by
  have e:b=it:=by simpa using hb
  subst e;obtain ⟨_,o,e,c,d⟩:=st
  exact ⟨o,e,fun v z=>by rw [d] at z;cases z⟩
 keep:=fun i h h' st k=>⟨st.1,st.2.at fun o e=>k it (by simp) o e⟩
 item:=by
  intro X hP hw hK hc i pins s σ H E I hf st hg;subst hP hw hK;obtain ⟨hin,xs,x,hq,hx⟩:=hg
  obtain ⟨its,rv,p,hz⟩:=I.list hq
  obtain ⟨u,hu,ru⟩:=rv.get hx
  obtain ⟨f0,f1,f2,f3,f4,f5⟩:=hf it (by simp)
  obtain ⟨_,hit⟩:=st
  have e1:(n:Int) - 1 - ((i:Nat):Int)=((n - 1 - i:Nat):Int):=by omega
  rw [e1] at hit;refine wpAny_pyNext_rev_item hit p.isList (x:=u) (by simpa using hu) fun h' st' sb=>?_
  have e2:((n - 1 - i:Nat):Int) - 1=(n:Int) - 1 - ((i+1:Nat):Int):=by omega
  rw [e2] at st'
  have I1:Inv X pins σ H { s with heap:=h' }:=I.turned (t':=s.toks) (fun b o hb e=>(sb.2 b hb).trans e) f0 f1 f3 f4 f5
  obtain ⟨o,e,c,d⟩:=id st'
  exact ⟨u,rfl,mE (s:={ s with heap:=h' }) e c d (by decide) ⟨x,H,I1,ru,⟨rfl,fun ys hy=>by rw [I.list_inj hy hq];exact hx⟩,⟨hin,st'⟩,fun b hb=>(hf b hb).1⟩⟩
 done:=by
  intro X hP hw hK hc i pins s σ H E I hf st hg;subst hP hw hK;obtain ⟨f0,f1,f2,f3,f4,f5⟩:=hf it (by simp)
  obtain ⟨hin,hit⟩:=st
  have hge:n≤i:=hg
  have e1:(n:Int) - 1 - ((i:Nat):Int) = -1:=by omega
  rw [e1] at hit;exact wpAny_pyNext_rev_end (I.ok.hd hc) hit fun h' eb=>⟨rfl,I.turned (t':=s.toks) (fun b o hb e=>eb b o hb e) f0 f1 f3 f4 f5⟩
 self:=fun A i s Q E st h=>wpAny_pyIter_revIter st.2 h
def iRev (K:Fg_) (ta:TA):TI:=fun σ H R=>ta σ H fun vs H1=>∃ (a:Addr) (xs:List V),vs=[.ref a]∧SqL K H1 a xs∧R (Itv K a xs.length) H1
section
variable {X:Cx} {tg:Expr}
theorem kc {e:Expr} {ta:TA} {p pos:Pos} (hg:Gl X "reversed") (hm:X.mg "reversed" = none) (ha:PA X [e] ta) (hs:starEach [e] X.env=[(false,eval e X.env)]:=by rfl):PI X tg (.Call (.Name "reversed" p) [e] [] pos) (iRev X.K ta):=by
 intro pins s σ H R I h;refine Call_ (iQ I hg hm iV (PyProof.Rows.callWith_type1 (thn (ha pos pins s σ H _ I h) fun us s1 ⟨vs,H1,I1,r1,q1⟩=>?_) hs rfl))
 obtain ⟨a,xs,e,hq,q⟩:=q1
 subst e;cases r1 with
 | cons r rr =>
  cases rr;cases r;obtain ⟨its,rv,p',hz⟩:=I1.list hq
  have hl:=rv.length
  have e1:((its.toArray.size:Nat):Int) - 1=(xs.length:Int) - 1 - ((0:Nat):Int):=by simp only [aZ];omega
  refine call_reversed_list p'.isList (wpAny_pyIter_revIter (l:=a) (i:=((its.toArray.size:Nat):Int) - 1) ⟨_,aW _ rfl,rfl,rfl⟩ ?_)
  refine m9 (tk:=s1.toks) I1 _ (tq a _ xs.length) ⟨a8 _,?_⟩ q
  rw [←e1];exact ⟨_,aW _ rfl,rfl,rfl⟩
end
theorem rk {K:Fg_} {a:Addr} {xs:List V} {g:TG} {tb:TS} {D:ie} {σ:St} {H:Hp} (Pv:Nat→St→Hp→Prop) (h0:Pv 0 σ H) (hl:∀ i σ H,i≤xs.length→Pv i σ H→SqL K H a xs)
  (hs:∀ i x σ H,i<xs.length→xs[xs.length - 1 - i]? = some x→Pv i σ H→g x σ H fun σ2 H2=>tb { D with nx:=Pv (i+1),ct:=Pv (i+1),bk:=D.nx } σ2 H2) (hd:∀ σ H,Pv xs.length σ H→D.nx σ H) :
  ∃ W:Nat→Nat→St→Hp→Prop,(∃ m,W 0 m σ H)∧∀ i m σ H,W i m σ H →
   ((Itv K a xs.length).stop i H∧D.nx σ H)∨((Itv K a xs.length).go i H∧∃ N:St→Hp→Prop,(∀ σ' H',N σ' H'→∃ m',m'<m∧W (i+1) m' σ' H')∧∀ x H',(Itv K a xs.length).yld i H x H'→g x σ H' fun σ2 H2=>tb { D with nx:=N,ct:=N,bk:=D.nx } σ2 H2):=by
 refine ⟨fun i m σ H=>m=xs.length - i∧i≤xs.length∧Pv i σ H,⟨xs.length,by simp,a8 _,h0⟩,?_⟩
 rintro i m σ H ⟨rfl,hi,p⟩
 have q:=hl i σ H hi p
 by_cases hlt:i<xs.length
 ·refine .inr ⟨⟨hlt,xs,xs[xs.length - 1 - i],q,aB _⟩,Pv (i+1),fun σ' H' p'=>⟨xs.length - (i+1),by omega,rfl,hlt,p'⟩,fun x H' y=>?_⟩
  obtain ⟨e,y⟩:=y
  subst e;exact hs i x σ _ hlt (y xs q) p
 ·have e:i=xs.length:=by omega
  subst e;exact .inl ⟨aI _,hd σ H p⟩
end L2
namespace HT
open PySem PyProof.Rows
open PySem.AutoSeq1 (wpAny_loadPart')
open PySem.MeetsSeq PySem.MeetsSeq2 PySem.MeetsSeq3
def lexLe:List Int→List Int→Bool
 | [],_=>true
 | _::_,[]=>false
 | x::xs,y::ys=>if x=y then lexLe xs ys else decide (x≤y)
theorem tV (A:Around) (s:Shared) (a:Int) (t:Tok) (c:Int) (u:Tok) (prog:Program) (w:World) (E:Value→Shared→Prop) (Q:Value→Shared→Prop) (h:Q (.bool (decide (a≤c))) s) :
  wpAny (model prog w) A (richCompare .LtE (.int a t) (.int c u)) Q E s :=
 (PyProof.Rows.le_int h:wpAny (model prog w) A (compareOp .LtE (.int a t) (.int c u)) Q E s)
theorem nM:∀ {vs:List Value} {ns:List Int} {i:Nat},IntsAre vs ns→i<ns.length→∃ t,vs[i]? = some (.int (ns[i]?.getD 0) t)
 | _,_,0,.cons n t _,_=>⟨t,by simp⟩
 | _,_,i+1,.cons n t r,h=>by
  obtain ⟨u,e⟩:=nM (i:=i) r (by simpa using h)
  exact ⟨u,by simpa using e⟩
theorem vP (l b:Addr) (items items2:Array Value) (n n2:Nat) (ns ms:List Int) (hi:IntsAre items.toList ns) (hj:IntsAre items2.toList ms) (k:Nat) :
  ∀ i:Nat,i≤ns.length→i≤ms.length→ns.length - i=k→Meets (Builtin.«list.__eq__.loop» ⟨[.ref l,.ref b,rawInt i,rawInt 1],[]⟩)
   (fun _ R s=>s.heap.get? l=some { cls:=.type "list",dict:=none,data:=.seq items n,slots:=#[] }∧s.heap.get? b=some { cls:=.type "list",dict:=none,data:=.seq items2 n2,slots:=#[] } ∧
    R (.ok (.ret (.bool (lexLe (ns.drop i) (ms.drop i))))) s):=by
 have z1:items.size=ns.length:=by rw [←hi.length];simp
 have z2:items2.size=ms.length:=by rw [←hj.length];simp
 induction k with
 | zero =>
  intro i b1 b2 hk prog w A R s h;obtain ⟨hp,g,d,tk,os⟩:=s
  obtain ⟨hl,hb,h⟩:=h
  have e0:i=ns.length:=by omega
  subst e0;wp_walk using wpAny_loadPart' hl,wpAny_loadPart' hb
  have hi1:items[((ns.length:Nat):Int).toNat]? = none:=by simp;omega
  rw [hi1];wp_walk using wpAny_loadPart' hl,wpAny_loadPart' hb
  show R (.ok (.ret (.bool (decide (items.size≤items2.size))))) _
  rw [aq (by omega)]
  rw [eV] at h;exact h
 | succ k ih =>
  intro i b1 b2 hk prog w A R s h;obtain ⟨hp,g,d,tk,os⟩:=s
  obtain ⟨hl,hb,h⟩:=h
  have l1:i<ns.length:=by omega
  obtain ⟨t,e1⟩:=nM hi l1
  have f1:items[((i:Nat):Int).toNat]? = some (.int (ns[i]?.getD 0) t):=by
   rw [dv,←cF];exact e1
  have d1:ns.drop i=ns[i]?.getD 0::ns.drop (i+1):=by rw [bz l1,aB l1];rfl
  wp_walk using wpAny_loadPart' hl,wpAny_loadPart' hb
  rw [f1];by_cases l2:i<ms.length
  ·obtain ⟨u,e2⟩:=nM hj l2
   have f2:items2[((i:Nat):Int).toNat]? = some (.int (ms[i]?.getD 0) u):=by
    rw [dv,←cF];exact e2
   have d2:ms.drop i=ms[i]?.getD 0::ms.drop (i+1):=by rw [bz l2,aB l2];rfl
   rw [d1,d2] at h;rw [f2];generalize ns[i]?.getD 0=a at h f1;generalize ms[i]?.getD 0=c at h f2;have hc:((i:Int)+1)=((i+1:Nat):Int):=by push_cast;rfl
   obtain ⟨e,he,hiff⟩:=uH A.in1 ⟨hp,g,d,tk,os⟩ a t c u
   refine ag (he prog w _ _ ?_)
   cases e with
   | true =>
    have hac:a=c:=hiff.mp rfl
    have h':R (.ok (.ret (.bool (lexLe (ns.drop (i+1)) (ms.drop (i+1)))))) ⟨hp,g,d,tk,os⟩:=by
     simpa [lexLe,hac] using h
    wp_walk
    rw [hc];exact ⟨plainId_quiet plain_eq_loop _,codeAny_builtin entry_eq_loop (by
     rw [Around.under_plainId plain_eq_loop _];exact ih (i+1) (by omega) (by omega) (by omega) prog w A R _ ⟨hl,hb,h'⟩)⟩
   | false =>
    have hac:¬a=c:=fun q=>aP (hiff.mpr q) aS
    have h':R (.ok (.ret (.bool (decide (a≤c))))) ⟨hp,g,d,tk,os⟩:=by
     simpa [lexLe,hac] using h
    have hri:=tV A.in1 ⟨hp,g,d,tk,os⟩ a t c u prog w
    wp_walk using wpAny_loadPart' hl,wpAny_loadPart' hb
    rw [f1,f2];wp_walk using hri
    exact h'
  ·have e2:i=ms.length:=by omega
   have hi2:items2[((i:Nat):Int).toNat]? = none:=by simp;omega
   rw [hi2];wp_walk using wpAny_loadPart' hl,wpAny_loadPart' hb
   show R (.ok (.ret (.bool (decide (items.size≤items2.size))))) _
   rw [ax (by omega)]
   rw [d1,e2,eV] at h;exact h
theorem list_le_ints (l b:Addr) (items items2:Array Value) (n n2:Nat) (ns ms:List Int) (hi:IntsAre items.toList ns) (hj:IntsAre items2.toList ms) :
  Meets (Builtin.«list.__le__» ⟨[.ref l,.ref b],[]⟩)
   (fun _ R s=>s.heap.get? l=some { cls:=.type "list",dict:=none,data:=.seq items n,slots:=#[] }∧s.heap.get? b=some { cls:=.type "list",dict:=none,data:=.seq items2 n2,slots:=#[] } ∧
    R (.ok (.ret (.bool (lexLe ns ms)))) s):=by
 intro prog w A R s h;obtain ⟨hp,g,d,tk,os⟩:=s
 obtain ⟨hl,hb,h⟩:=h
 have f3:=AutoSeq1.sub_list_list
 wp_walk using wpAny_loadPart' hl,wpAny_loadPart' hb
 exact ⟨plainId_quiet plain_eq_loop _,codeAny_builtin entry_eq_loop (by
  rw [Around.under_plainId plain_eq_loop _];exact vP l b items items2 n n2 ns ms hi hj _ 0 (a8 _) (a8 _) rfl prog w A R _ ⟨hl,hb,by simpa using h⟩)⟩
end HT
namespace L2
open PySem PySem.Spec PyProof.Rows
section
variable {X:Cx}
def rLeL:R2:=fun x y H Q=>∃ a b ns ms,x = .ref a∧y = .ref b∧H a=some (.lst (ns.map V.int))∧H b=some (.lst (ms.map V.int))∧Q (.bl (HT.lexLe ns ms)) H
theorem yt (hu:X.A.units<cLine):OpR X (compareOp .LtE) rLeL:=by
 intro pins s σ H x y v u Q I rx ry h;obtain ⟨a,b,ns,ms,rfl,rfl,ha,hb,q⟩:=h
 cases rx;cases ry;obtain ⟨z,its,n,r,hl,e⟩:=I.lstM ha
 obtain ⟨z2,its2,n2,r2,hl2,e2⟩:=I.lstM hb
 have i1:IntsAre its.toArray.toList ns:=lE r
 have i2:IntsAre its2.toArray.toList ms:=lE r2
 show wpAny (model X.prog X.w) X.A (richCompare .LtE (.ref a) (.ref b)) _ _ s
 exact richCompare_meets_room (op:=.LtE) ⟨_,e,rfl⟩ ⟨_,e2,rfl⟩ PySem.F.slot_list_le PySem.F.entry_list_le (PySem.F.args_list_le_2 _ _) (HT.list_le_ints a b its.toArray its2.toArray n n2 ns ms i1 i2)
  ⟨e,e2,(fun z=>nomatch z),⟨.bl (HT.lexLe ns ms),H,I,rfl,q⟩⟩ hu
end
def Its (x:Str):It:=⟨fun i _=>i<x.cps.size,fun i H v H'=>H'=H∧∃ c,x.cps[i]? = some c∧v = .str ⟨#[c]⟩,fun i _=>x.cps.size≤i⟩
theorem ou {P:Program} {w:World} {K:Fg_} {tg:Expr} (it:Addr) (x:Str) (t:Tok) (ty:String) (hty:ty = "str_ascii_iterator"∨ty = "str_iterator") :
  Turn P w K tg (Its x) [it] it (fun i h=>h.IsStrIter it ty x t i) where
 mem:=by simp
 obj:=fun i h st b hb=>by
  have e:b=it:=by simpa using hb
  subst e;obtain ⟨o,e,c,d⟩:=st
  exact ⟨o,e,fun v z=>by rw [d] at z;cases z⟩
 keep:=fun i h h' st k=>let ⟨o,ho,r⟩:=st;⟨o,k it (by simp) o ho,r⟩
 item:=by
  intro X hP hw hK hc i pins s σ H E I hf st hg;subst hP hw hK;obtain ⟨f0,f1,f2,f3,f4,f5⟩:=hf it (by simp)
  have W:Walks X.prog X.w X.A it [it] [it] x.cps.size (SignAt x) (fun i h=>h.IsStrIter it ty x t i):=by
   rcases hty with e | e
   ·rw [e];exact Walks.strAscii (I.ok.hd hc) it x t
   ·rw [e];exact Walks.strWide (I.ok.hd hc) it x t
  have hno:["enumerate","zip","dict_itemiterator","dict_reverseitemiterator","odict_iterator","itertools.zip_longest","itertools.pairwise"].contains ty=false:=by
   rcases hty with e | e
   ·rw [e];decide
   ·rw [e];decide
  refine W.item i s _ _ hg st fun v h' tk hv st' kk=>?_
  obtain ⟨c,u,hcx,rfl⟩:=hv
  have I1:Inv X pins σ H { s with heap:=h',toks:=tk }:=I.turned (fun b o hb e=>kk b o (by simpa using hb) e) f0 f1 f3 f4 f5
  obtain ⟨oi,e,cc,dd⟩:=id st'
  exact ⟨_,rfl,mE (s:={ s with heap:=h',toks:=tk }) e cc dd hno ⟨.str ⟨#[c]⟩,H,I1,⟨u,rfl⟩,⟨rfl,c,hcx,rfl⟩,st',fun b hb=>(hf b hb).1⟩⟩
 done:=by
  intro X hP hw hK hc i pins s σ H E I hf st hg;subst hP hw hK;obtain ⟨f0,f1,f2,f3,f4,f5⟩:=hf it (by simp)
  have hx:x.cps[i]? = none:=fS hg
  rcases hty with e | e
  ·rw [e] at st;exact wpAny_pyNext_ascii_end (I.ok.hd hc) st hx fun h' eb=>⟨rfl,I.turned (t':=s.toks) (fun b o hb e=>eb b o hb e) f0 f1 f3 f4 f5⟩
  ·rw [e] at st;exact wpAny_pyNext_wide_end (I.ok.hd hc) st hx fun h' eb=>⟨rfl,I.turned (t':=s.toks) (fun b o hb e=>eb b o hb e) f0 f1 f3 f4 f5⟩
 self:=fun A i s Q E st h=>by
  rcases hty with e | e
  ·rw [e] at st;exact wpAny_pyIter_striter_ascii st h
  ·rw [e] at st;exact wpAny_pyIter_striter_wide st h
def iStr (te:TE):TI:=fun σ H R=>te σ H fun v H1=>∃ x,v = .str x∧R (Its x) H1
theorem ym {X:Cx} {tg e:Expr} {te:TE} (he:PE X e te):PI X tg e (iStr te):=by
 intro pins s σ H R I h;refine thn (he pins s σ H _ I h) fun v s1 ⟨y,H1,I1,r1,x,ex,q⟩=>?_
 subst ex;obtain ⟨t,rfl⟩:=r1
 cases ha:x.cps.all (· < 128)
 ·exact wpAny_pyIter_wide ha (m9 (tk:=s1.toks) I1 _ (ou _ x t "str_iterator" (.inr rfl)) ⟨_,aW _ rfl,rfl,rfl⟩ q)
 ·exact wpAny_pyIter_ascii ha (m9 (tk:=s1.toks) I1 _ (ou _ x t "str_ascii_iterator" (.inl rfl)) ⟨_,aW _ rfl,rfl,rfl⟩ q)
abbrev u7 (h:Heap) (c:Addr) (v:Option Value):Prop:=h.IsCell c v
def relS (scope sc:Scope):Scope :=
 { scope with names:=scope.names.map fun (n,k)=>if (k==.free&&sc.kind==.function&&sc.names.lookup n==some .cell) then (n,.cell) else (n,k) }
def de (cells:List (Str×Addr)):List (Str×NameKind)→List (Str×Addr)→List (Str×Addr)
 | [],acc=>acc
 | (n,k)::r,acc=>if k==.free then de cells r ((n,(cells.lookup n).getD 0)::acc) else de cells r acc
theorem jG (env:Env) (f:Str×NameKind→List (Str×Addr)→Sem (ForInStep (List (Str×Addr))))
  (hf:∀ n k c,f (n,k) c=if k==.free then (do let a ←cellOf env n;pure (.yield ((n,a)::c))) else pure (.yield c)) :
  ∀ (names:List (Str×NameKind)) (acc:List (Str×Addr)),(∀ y∈names,y.2 = .free→∃ c,env.cells.lookup y.1=some c)→forIn names acc f=pure (de env.cells names acc)
 | [],acc,_=>by rw [List.forIn_nil];rfl
 | (n,k)::r,acc,h=>by
  rw [List.forIn_cons,hf];have ih:=fun acc=>jG env f hf r acc fun y hy=>h y (aR _ hy)
  unfold de;by_cases hk:(k==NameKind.free)=true
  ·rw [ao hk,ao hk];obtain ⟨c,hc⟩:=h (n,k) a6 (by simpa using hk)
   have e:cellOf env n=pure c:=by unfold cellOf;rw [hc]
   rw [e];have e2:(env.cells.lookup n).getD 0=c:=by rw [hc];rfl
   rw [e2];exact ih _
  ·rw [ah hk,ah hk];exact ih _
theorem qt {scope:Scope} {env:Env} (h:∀ y∈scope.names,y.2 = .free→∃ c,env.cells.lookup y.1=some c):closureFor scope env=pure (de env.cells scope.names []):=by
 simp only [closureFor];rw [jG env _ (fun n k c=>rfl) scope.names [] h]
 rfl
theorem jm {α:Type}:∀ {l:List (Str×α)} {n:Str} {c:α},(n,c)∈l→∃ c',l.lookup n=some c'
 | (k,v)::r,n,c,h=>by
  rw [dG];cases hb:n==k with
  | true=>exact ⟨_,rfl⟩
  | false =>
   rcases aF.mp h with e | h
   ·cases e;simp at hb
   ·exact jm h
theorem gQ {cells:List (Str×Addr)}:∀ {names:List (Str×NameKind)} {acc:List (Str×Addr)} {n:Str} {c:Addr},(n,c)∈de cells names acc→(n,c)∈acc∨((n,.free)∈names∧c=(cells.lookup n).getD 0)
 | [],_,_,_,h=>.inl h
 | (m,k)::r,acc,n,c,h=>by
  unfold de at h;split at h
  ·rename_i hk
   have hk:k = .free:=by simpa using hk
   rcases gQ h with h | ⟨h1,h2⟩
   ·rcases aF.mp h with e | h
    ·cases e;exact .inr ⟨hk▸a6,rfl⟩
    ·exact .inl h
   ·exact .inr ⟨aR _ h1,h2⟩
  ·rcases gQ h with h | ⟨h1,h2⟩
   ·exact .inl h
   ·exact .inr ⟨aR _ h1,h2⟩
theorem iU {cells:List (Str×Addr)}:∀ {names:List (Str×NameKind)} {acc:List (Str×Addr)} {p:Str×Addr},p∈acc→p∈de cells names acc
 | [],_,_,h=>h
 | (m,k)::r,acc,p,h=>by
  unfold de;split
  ·exact iU (aR _ h)
  ·exact iU h
theorem iT {cells:List (Str×Addr)}:∀ {names:List (Str×NameKind)} {acc:List (Str×Addr)} {n:Str},(n,.free)∈names→(n,(cells.lookup n).getD 0)∈de cells names acc
 | (m,k)::r,acc,n,h=>by
  unfold de;rcases aF.mp h with e | h
  ·cases e;exact iU a6
  ·split
   ·exact iT h
   ·exact iT h
theorem ib:∀ {names:List (Str×NameKind)} {h:Heap} {acc:List (Str×Addr)} {x:Str} {c:Addr},(x,c)∈cellsFrom h.objs.size names acc →
  (x,c)∈acc∨((x,.cell)∈names∧h.objs.size≤c∧u7 (pushCells h names) c none)
 | [],_,_,_,_,h=>.inl h
 | (n,k)::r,h,acc,x,c,hm=>by
  unfold cellsFrom at hm;unfold pushCells;split at hm
  ·rename_i hk
   rw [ao hk];have hk:k = .cell:=by simpa using hk
   rw [←Heap.size_push h { cls:=.type "cell",data:=.cell none }] at hm
   rcases ib hm with hm | ⟨h1,h2,h3⟩
   ·rcases aF.mp hm with e | hm
    ·cases e;exact .inr ⟨hk▸a6,aI _,_,pushCells_keeps r _ _ _ (aW _ rfl),rfl⟩
    ·exact .inl hm
   ·rw [Heap.size_push] at h2;exact .inr ⟨aR _ h1,fO h2,h3⟩
  ·rename_i hk
   rw [ah hk];rcases ib hm with hm | ⟨h1,h2,h3⟩
   ·exact .inl hm
   ·exact .inr ⟨aR _ h1,h2,h3⟩
theorem jb:∀ {names:List (Str×NameKind)} {n:Nat} {acc:List (Str×Addr)} {p:Str×Addr},p∈acc→p∈cellsFrom n names acc
 | [],_,_,_,h=>h
 | (m,k)::r,n,acc,p,h=>by
  unfold cellsFrom;split
  ·exact jb (aR _ h)
  ·exact jb h
theorem jY:∀ {names:List (Str×NameKind)} {n:Nat} {acc:List (Str×Addr)} {x:Str},(x,.cell)∈names→∃ c,(x,c)∈cellsFrom n names acc
 | (m,k)::r,n,acc,x,h=>by
  unfold cellsFrom;rcases aF.mp h with e | h
  ·cases e;exact ⟨n,jb a6⟩
  ·split
   ·exact jY h
   ·exact jY h
theorem jX:∀ {names:List (Str×NameKind)} {h:Heap} {acc:List (Str×Addr)} {x y:Str} {c:Addr},(∀ p∈acc,p.2<h.objs.size)→(∀ x y c,(x,c)∈acc→(y,c)∈acc→x=y) →
  (x,c)∈cellsFrom h.objs.size names acc→(y,c)∈cellsFrom h.objs.size names acc→x=y
 | [],_,_,_,_,_,_,hi,h1,h2=>hi _ _ _ h1 h2
 | (n,k)::r,h,acc,x,y,c,hl,hi,h1,h2=>by
  unfold cellsFrom at h1 h2;split at h1
  ·rename_i hk
   rw [ao hk] at h2;rw [←Heap.size_push h { cls:=.type "cell",data:=.cell none }] at h1 h2
   refine jX (h:=h.push _) (fun p hp=>?_) (fun x y c a b=>?_) h1 h2
   ·rw [Heap.size_push];rcases aF.mp hp with rfl | hp
    ·exact ig _
    ·exact gT (hl p hp)
   ·rcases aF.mp a with e | a<;>rcases aF.mp b with e' | b
    ·cases e;cases e';rfl
    ·cases e;exact aP (hl _ b) (b4 _)
    ·cases e';exact aP (hl _ a) (b4 _)
    ·exact hi _ _ _ a b
  ·rename_i hk
   rw [ah hk] at h2;exact jX hl hi h1 h2
theorem oZ {M:Model} {A:Around} {E:Value→Shared→Prop} {s:Shared} {scope:Scope} {globals:Addr} {closure:List (Str×Addr)} {qual:Str} {func:Option Addr} {code:Value} {around:Env} {builtins:Addr} {Q:Env→Shared→Prop}
  (h:Q (newEnv scope s.heap.objs.size globals (cellsFrom (s.heap.objs.size+1) scope.names closure) qual func code (some around) builtins)
   { s with heap:=pushCells (s.heap.push { cls:=.type "dict",data:=.dict #[] }) scope.names }) :
  wpAny M A (newFunctionEnv scope globals closure [] qual func code (some around) builtins) Q E s:=by
 simp only [newFunctionEnv,Option.isSome_some,if_true];refine ag (wpAny_alloc ?_)
 refine ag (wpAny_layCells _ (fun n k c=>rfl) scope.names closure _ _ ?_)
 rw [show ({ s with heap:=s.heap.push { cls:=.type "dict",data:=.dict #[] } }:Shared).heap.objs.size=s.heap.objs.size+1 from Heap.size_push ..]
 rw [List.forIn_nil];exact ag (aM (aM h))
theorem iO {sc:Scope}:∀ {names:List (Str×NameKind)} {x:Str} {k:NameKind},
  (names.map fun (n,k)=>if (k==NameKind.free&&sc.kind==.function&&sc.names.lookup n==some .cell) then (n,NameKind.cell) else (n,k)).lookup x=some k →
  ∃ k',names.lookup x=some k'∧(k=k'∨(k' = .free∧k = .cell))
 | [],_,_,h=>by simp at h
 | (n,k₀)::r,x,k,h=>by
  have ih:=@iO sc r x k
  have h':List.lookup x ((if (k₀==NameKind.free&&sc.kind==.function&&sc.names.lookup n==some .cell)=true then (n,NameKind.cell) else (n,k₀))::(r.map _))=some k:=h
  cases hx:x==n with
  | true =>
   simp only [dG,hx];by_cases hc:(k₀==NameKind.free&&sc.kind==.function&&sc.names.lookup n==some .cell)=true
   ·rw [ao hc] at h'
    simp only [dG,hx] at h';cases h'
    simp only [bb,beq_iff_eq] at hc;exact ⟨k₀,rfl,.inr ⟨hc.1.1,rfl⟩⟩
   ·rw [ah hc] at h'
    simp only [dG,hx] at h';cases h'
    exact ⟨_,rfl,.inl rfl⟩
  | false =>
   simp only [dG,hx];by_cases hc:(k₀==NameKind.free&&sc.kind==.function&&sc.names.lookup n==some .cell)=true
   ·rw [ao hc] at h'
    simp only [dG,hx] at h';exact ih h'
   ·rw [ah hc] at h'
    simp only [dG,hx] at h';exact ih h'
structure pI (N:List Str) (sc scope:Scope) (own:List (Str×Nat)):Prop where
 kind:scope.kind = .function
 uniq:∀ y∈scope.names,scope.names.lookup y.1=some y.2
 ix:∀ p∈own,N[p.2]? = some p.1
 free:∀ y∈scope.names,y.2 = .free→sc.names.lookup y.1=some .cell∨sc.names.lookup y.1=some .free
 own:∀ y∈scope.names,y.2 = .local∨y.2 = .cell→y.1∈own.map (·.1)∨y.1∉N
def fj (σ:St):List Nat→St
 | []=>σ
 | v::vs=>(fj σ vs).set v none
theorem iH (σ:St):∀ vs:List Nat,(fj σ vs).length=σ.length
 | []=>rfl
 | v::vs=>by unfold fj;rw [cV,iH σ vs]
theorem jI {σ:St} {i:Nat} {x:V}:∀ {vs:List Nat},(fj σ vs)[i]? = some (some x)→σ[i]? = some (some x)∧i∉vs
 | [],h=>⟨h,by simp⟩
 | v::vs,h=>by
  unfold fj at h;by_cases hi:v=i
  ·subst hi;by_cases hv:v<(fj σ vs).length
   ·rw [fR hv] at h;cases h
   ·rw [fU (by simpa using hv)] at h;cases h
  ·rw [gd hi] at h;obtain ⟨h1,h2⟩:=jI h
   exact ⟨h1,by simp only [aF,not_or];exact ⟨fun e=>hi e.symm,h2⟩⟩
abbrev Cx.blk (X:Cx) (s:Shared) (H:Hp) (scope:Scope) (cenv:Env) (fp:List Addr):Cx:={ X with s_0:=s,H_0:=H,env:=cenv,outer:=X.stack,ex:=fp,fn:=fun x=>scope.names.lookup x==some .cell,pn:=[],xe:=fun _ _=>False }
section
variable {X:Cx} {pins:List (Addr×Obj)} {σ:St} {H:Hp} {s:Shared}
theorem pA {scope:Scope} {own:List (Str×Nat)} {fp:List Addr} (I:Inv X pins σ H s) (ok:pI X.N X.env.scope scope own) (hN:X.N.Nodup) (hfp:∀ b∈fp,lT X pins H b∧b<s.heap.objs.size) :
  Inv (X.blk s H scope (compEnvC scope (cellsFrom (s.heap.objs.size+1) scope.names (de X.env.cells scope.names [])) s.heap.objs.size X.env) fp) [] (fj σ (own.map (·.2))) H { s with heap:=pushCells (s.heap.push { cls:=.type "dict",data:=.dict #[] }) scope.names }:=by
 have hfree:∀ y∈scope.names,y.2 = .free→∃ c,X.env.cells.lookup y.1=some c:=fun y hy e=>by
  rcases ok.free y hy e with k | k
  ·exact I.ok.has _ (.inl k)
  ·exact I.ok.has _ (.inr k)
 generalize hcenv:compEnvC scope (cellsFrom (s.heap.objs.size+1) scope.names (de X.env.cells scope.names [])) s.heap.objs.size X.env=cenv;have kp:∀ b o,s.heap.get? b=some o→(pushCells (s.heap.push { cls:=.type "dict",data:=.dict #[] }) scope.names).get? b=some o:=fun b o e=>pushCells_keeps _ _ _ _ (aK _ e)
 have hL:cenv.locals=s.heap.objs.size:=by rw [←hcenv];rfl
 have hcl:cenv.cells=cellsFrom (s.heap.objs.size+1) scope.names (de X.env.cells scope.names []):=by rw [←hcenv];rfl
 have hsc:cenv.scope=relS scope X.env.scope:=by rw [←hcenv];rfl
 rw [←Heap.size_push s.heap { cls:=.type "dict",data:=.dict #[] }] at hcl
 have cm:∀ {y c},(y,c)∈de X.env.cells scope.names []→X.env.cells.lookup y=some c∧c<s.heap.objs.size:=fun {y c} hm=>by
  rcases gQ hm with hm | ⟨h1,rfl⟩
  ·cases hm
  ·obtain ⟨c,hc⟩:=hfree _ h1 rfl
   rw [hc];obtain ⟨w,z⟩:=I.cell _ _ hc
   exact ⟨rfl,z.lt⟩
 have mem:∀ {y c},cenv.cells.lookup y=some c→(X.env.cells.lookup y=some c∧c<s.heap.objs.size)∨(s.heap.objs.size+1≤c∧u7 (pushCells (s.heap.push { cls:=.type "dict",data:=.dict #[] }) scope.names) c none):=fun {y c} e=>by
  rw [hcl] at e;rcases ib (bx e) with hm | ⟨_,h2,h3⟩
  ·exact .inl (cm hm)
  ·rw [Heap.size_push] at h2;exact .inr ⟨h2,h3⟩
 have look:∀ {y},scope.names.lookup y=some .free→∃ c,cenv.cells.lookup y=some c∧X.env.cells.lookup y=some c:=fun {y} hl=>by
  have hy:(y,NameKind.free)∈scope.names:=bx hl
  obtain ⟨c',e'⟩:=jm (jb (names:=scope.names) (n:=(s.heap.push { cls:=.type "dict",data:=.dict #[] }).objs.size) (iT (cells:=X.env.cells) (acc:=[]) hy))
  rw [←hcl] at e'
  refine ⟨c',e',?_⟩
  rw [hcl] at e'
  rcases ib (bx e') with hm | ⟨h1,_,_⟩
  ·exact (cm hm).1
  ·have:=ok.uniq _ h1
   rw [hl] at this;cases this
 have okB:(X.blk s H scope cenv fp).Ok:=by
  refine ⟨I.ok.mod,by show cenv.scope.kind=_;rw [hsc];exact ok.kind,by show cenv.globals=_;rw [←hcenv];exact I.ok.glob,by show cenv.builtins=_;rw [←hcenv];exact I.ok.blt,by show s.heap.objs.size≤cenv.locals;rw [hL];exact aI _,
   fun y z c e1 e2=>?_,fun y hy=>?_,fun y c z e=>?_,I.ok.hd,I.ok.frames,.inl rfl,fun b hb=>⟨?_,fun y c e z=>?_⟩,I.bs,bH I.ok.bsz I.sz,fun b o e hb=>?_,fun b hb z=>?_,I.stack,I.stkFree⟩
  ·have e1:cenv.cells.lookup y=some c:=e1
   have e2:cenv.cells.lookup z=some c:=e2
   rw [hcl] at e1 e2;refine jX (fun p hp=>?_) (fun y z c a b=>I.ok.inj y z c (cm a).1 (cm b).1) (bx e1) (bx e2)
   rw [Heap.size_push];exact gT (cm (y:=p.1) (c:=p.2) hp).2
  ·show ∃ c,cenv.cells.lookup y=some c
   have key:∀ k,cenv.kindOf y=some k→(k = .cell∨k = .free)→∃ c,cenv.cells.lookup y=some c:=fun k hk hk'=>by
    unfold Env.kindOf at hk;rw [hsc] at hk;obtain ⟨k',e,r⟩:=iO hk
    have:k' = .cell∨k' = .free:=by
     rcases r with rfl | ⟨rfl,_⟩
     ·exact hk'
     ·exact .inr rfl
    rcases this with rfl | rfl
    ·obtain ⟨c,hm⟩:=jY (n:=(s.heap.push { cls:=.type "dict",data:=.dict #[] }).objs.size) (acc:=de X.env.cells scope.names []) (bx e)
     obtain ⟨c',e'⟩:=jm hm
     exact ⟨c',by rw [hcl];exact e'⟩
    ·obtain ⟨c,h1,_⟩:=look e
     exact ⟨c,h1⟩
   rcases hy with hy | hy
   ·exact key _ hy (.inl rfl)
   ·exact key _ hy (.inr rfl)
  ·have z:(scope.names.lookup y==some NameKind.cell)=true:=z
   have z:scope.names.lookup y=some .cell:=by simpa using z
   have e:cenv.cells.lookup y=some c:=e
   rw [hcl] at e;rcases ib (bx e) with hm | ⟨_,h2,_⟩
   ·rcases gQ hm with hm | ⟨h1,_⟩
    ·cases hm
    ·have q:=ok.uniq _ h1
     rw [z] at q;cases q
   ·rw [Heap.size_push] at h2;exact fO h2
  ·show b≠cenv.locals
   rw [hL];exact bt (hfp b hb).2
  ·have e:cenv.cells.lookup y=some c:=e
   rcases mem e with ⟨h1,_⟩ | ⟨h1,_⟩
   ·exact (hfp b hb).1.2.2.2.2.1 y c h1 z
   ·have h2:s.heap.objs.size+1≤b:=by rw [←z];exact h1
    exact aP (bc (hfp b hb).2 (fO h2)) (b4 _)
  ·rcases (hfp b hb).1.2.2.2.1 with z | z
   ·exact I.ok.noex b o e z
   ·exact aP (bc (aV e) (bH I.ok.bsz z)) (b4 _)
  ·rcases aF.mp (I.stkSub b z) with z | z
   ·exact (hfp b hb).1.2.1 z
   ·exact (hfp b hb).1.2.2.1 z
 refine ⟨okB,rfl,I.bare,Un.kept kp,⟨fun _=>none,?_,fun i y av e1 e2 e3=>?_⟩,fun y c e=>?_,?_,fun y c e=>?_,fun p hp=>?_,I.hok.kept kp,by rw [iH];exact I.len⟩
 ·show Heap.Ns _ cenv.locals _
  rw [hL];exact Heap.Ns.keeps (Heap.Ns.new ..) fun b o e=>pushCells_keeps _ _ _ _ e
 ·obtain ⟨e2,hne⟩:=jI e2
  have hfr:scope.names.lookup y=some .free∧(cenv.kindOf y=some .cell∨cenv.kindOf y=some .free):=by
   have key:∀ k,cenv.scope.names.lookup y=some k→k = .local∨k = .cell∨k = .free→scope.names.lookup y=some .free∧(cenv.kindOf y=some .cell∨cenv.kindOf y=some .free):=fun k hk hk'=>by
    have hk0:=hk
    rw [hsc] at hk;obtain ⟨k',e,r⟩:=iO hk
    have no:¬(k' = .local∨k' = .cell):=fun hh=>by
     rcases ok.own _ (bx e) hh with e' | e'
     ·obtain ⟨p,hp,hpy⟩:=gv.mp e'
      have e3:=ok.ix p hp
      have:p.1=y:=hpy
      rw [this] at e3;exact hne (gv.mpr ⟨p,hp,lq hN e3 e1⟩)
     ·exact e' (bj e1)
    rcases r with rfl | ⟨rfl,rfl⟩
    ·rcases hk' with rfl | rfl | rfl
     ·exact aP (.inl rfl) no
     ·exact aP (.inr rfl) no
     ·exact ⟨e,.inr hk0⟩
    ·exact ⟨e,.inl hk0⟩
   have e3:Vis cenv.scope y:=e3
   rcases e3 with e3 | e3 | e3
   ·exact key _ e3 (.inl rfl)
   ·exact key _ e3 (.inr (.inl rfl))
   ·exact key _ e3 (.inr (.inr rfl))
  obtain ⟨m,hn,hl⟩:=I.loc
  have hvis:Vis X.env.scope y:=(ok.free _ (bx hfr.1) rfl).elim (fun k=>.inr (.inl k)) (fun k=>.inr (.inr k))
  obtain ⟨w,r,q⟩:=hl i y av e1 e2 hvis
  refine ⟨w,r,.inr ⟨hfr.2,?_⟩⟩
  obtain ⟨c,h1,h2⟩:=look hfr.1
  rcases q with ⟨k,_⟩ | ⟨_,c',e',z⟩
  ·have k:X.env.scope.names.lookup y=some .local:=k
   rcases ok.free _ (bx hfr.1) rfl with k' | k'<;>rw [show X.env.scope.names.lookup y=_ from k'] at k<;>cases k
  ·rw [h2] at e';cases e'
   exact ⟨c,h1,z.keeps kp⟩
 ·have e:cenv.cells.lookup y=some c:=e
  rcases mem e with ⟨h1,_⟩ | ⟨_,z⟩
  ·obtain ⟨w,z⟩:=I.cell y c h1
   exact ⟨w,z.keeps kp⟩
  ·exact ⟨_,z⟩
 ·show H cenv.locals=none
  rw [hL];exact I.hok.fresh (aI _)
 ·have e:cenv.cells.lookup y=some c:=e
  rcases mem e with ⟨h1,_⟩ | ⟨h1,_⟩
  ·exact I.freeC y c h1
  ·exact I.hok.fresh (fO h1)
 ·exact aP (show p∈([]:List (Addr×Obj))++[] from hp) (by simp)
theorem yS {E:Value→Shared→Prop} {D:Addr} {xs:List V} {y:V} {v:Value} {Q:Value→Shared→Prop} (I:Inv X pins σ H s) (hD:H D=some (.lst xs)) (hz:xs.length<sizeLine) (r:b7 y v)
  (h:∀ s',Inv X pins σ (upd H D (.lst (xs++[y]))) s'→Q .none s'):wpAny (model X.prog X.w) X.A (call (.builtin "list.append") [.ref D,v]) Q E s:=by
 obtain ⟨hz',its,n,ri,e⟩:=I.hok D _ hD
 have hl:=ri.length
 refine append_at (hsz:=by rw [aZ];omega) e fun h' sb ho'=>?_
 refine h { s with heap:=h' } (I.write (t':=s.toks) (by rw [hD];trivial) (.inl rfl) (fun b u hb q=>(sb.2 b hb).trans q) ⟨_,ho'⟩ ⟨by rw [aG];exact hz,its++[v],n+1,ri.append (.cons r .nil),?_⟩)
 rw [ho'];simp
def PTs (X:Cx) (ifs:List Expr) (t:TT):Prop :=
 ∀ (pins:List (Addr×Obj)) (s:Shared) (σ:St) (H:Hp) (Q:Bool→Hp→Prop),Inv X pins σ H s→t σ H Q →
  wpAny (model X.prog X.w) X.A (forIn ifs true fun c r=>if r=true then do let ok ←isTrue c X.env (eval c X.env);pure (ForInStep.yield ok) else pure (ForInStep.yield r)) (TP X pins σ Q) X.xe s
def tYes:TT:=fun _ H Q=>Q true H
theorem fZ:PTs X [] tYes:=fun _ _ _ H _ I h=>wpAny_tests_nil ⟨H,I,h⟩
end
theorem rL {α:Type} {t:Sem α} {Q Q':α→Shared→Prop} {M:Model} {A:Around} {E:Value→Shared→Prop} {s:Shared} (h:wpAny M A t Q (fun _ _=>False) s) (hQ:∀ a s,Q a s→Q' a s):wpAny M A t Q' E s:=wpAny_mono h hQ fun _ _ z=>False.elim z
theorem nQ {prog:Program} {w:World} {A:Around} {R:Result→Shared→Prop} {s:Shared} {elt target iter:Expr} {ifs:List Expr} {scope:Scope} {pos:Pos} {it acc:Value} {env:Env} (I:Nat→Shared→Prop)
  (turn:∀ n s,I n s→wpAny (model prog w) A (pyNext it) (fun r s₁=>match r with
   | none=>R (.ok .next) s₁
   | some v=>wpAny (model prog w) A (letOwnedTupleGo target it v) (fun _ s₁'=>wpAny (model prog w) A (assign target env v) (fun _ s₂ =>
     wpAny (model prog w) A (forIn ifs true fun c r=>if r=true then do let ok ←isTrue c env (eval c env);pure (ForInStep.yield ok) else pure (ForInStep.yield r)) (fun ok s₃ =>
      if ok=true then wpAny (model prog w) A (eval elt env) (fun x s₄ =>
       wpAny (model prog w) A (call (.builtin "list.append") [acc,x]) (fun _ s₅=>∃ m,m<n∧I m s₅) (notedBy (model prog w) A env fun e s'=>R (.error e) s') s₄) (notedBy (model prog w) A env fun e s'=>R (.error e) s') s₃
      else ∃ m,m<n∧I m s₃) (notedBy (model prog w) A env fun e s'=>R (.error e) s') s₂) (notedBy (model prog w) A env fun e s'=>R (.error e) s') s₁') (notedBy (model prog w) A env fun e s'=>R (.error e) s') s₁) (notedBy (model prog w) A env fun e s'=>R (.error e) s') s)
  (n:Nat) (h:I n s) :
  codeAny (model prog w) A (.compLoop (.ListComp elt [⟨target,iter,ifs,0⟩] scope pos) 0 it acc env) R s:=by
 refine codeAny_loop rfl I (fun n s hI=>?_) n h
 show wpAny _ A ((compTurn (.ListComp elt [⟨target,iter,ifs,0⟩] scope pos) 0 it acc env).onRaise (fun x=>do noteFrame x env;theTreesLotGoes x)) _ _ s
 refine wpAny_noted ?_
 rw [compTurn_list];refine ag (wpAny_standAt (ag (wpAny_mono (turn n s hI) (fun r s₁ h₁=>?_) fun _ _ h'=>h')))
 cases r with
 | none=>exact aM h₁
 | some v =>
  refine ag (wpAny_mono h₁ (fun _ s₁' h₁'=>?_) fun _ _ h'=>h')
  refine ag (wpAny_mono h₁' (fun _ s₂ h₂=>ag (wpAny_mono h₂ (fun ok s₃ h₃=>?_) fun _ _ h'=>h')) fun _ _ h'=>h')
  cases ok with
  | false=>exact aM ⟨rfl,h₃⟩
  | true =>
   exact ag (ag (wpAny_mono h₃ (fun x s₄ h₄=>ag (wpAny_mono h₄ (fun _ s₅ h₅=>aM (aM ⟨rfl,h₅⟩)) fun _ _ h'=>h')) fun _ _ h'=>h'))
section
variable {X:Cx}
def tLc (wi:TI) (g:TG) (tt:TT) (te:TE) (vs:List Nat):TE:=fun σ H Q=>wi σ H fun J H1=>∀ D,H1 D=none→∃ W:Nat→Nat→Hp→Prop,(∃ m,W 0 m (upd H1 D (.lst [])))∧∀ i m H,W i m H →
 (J.stop i H∧Q (.ref D) H)∨(J.go i H∧∃ Nx:Hp→Prop,(∀ H',Nx H'→∃ m',m'<m∧W (i+1) m' H')∧∀ x H',J.yld i H x H'→g x (fj σ vs) H' fun σ2 H2=>fj σ2 vs=fj σ vs∧tt σ2 H2 fun b H3 =>
  if b=true then te σ2 H3 fun y H4=>∃ acc,H4 D=some (.lst acc)∧acc.length<sizeLine∧Nx (upd H4 D (.lst (acc++[y]))) else Nx H3)
theorem qS {pins:List (Addr×Obj)} {s:Shared} {σ:St} {H:Hp} {Q:VK} {elt tg iter:Expr} {ifs:List Expr} {scope:Scope} {own:List (Str×Nat)} {pos pos':Pos} {wi:TI} {g:TG} {tt:TT} {te:TE} {use:Option (Value→Sem Unit)} {Qf:Value→Shared→Prop}
  (hc:X.calm=true) (hN:X.N.Nodup) (I:Inv X pins σ H s) (hi:PI X tg iter wi) (ok:pI X.N X.env.scope scope own)
  (hg:∀ (s:Shared) (H:Hp) (C:Addr) (cl:List (Str×Addr)) (fp:List Addr),PG (X.blk s H scope (compEnvC scope cl C X.env) fp) tg g) (ht:∀ (s:Shared) (H:Hp) (C:Addr) (cl:List (Str×Addr)) (fp:List Addr),PTs (X.blk s H scope (compEnvC scope cl C X.env) fp) ifs tt)
  (he:∀ (s:Shared) (H:Hp) (C:Addr) (cl:List (Str×Addr)) (fp:List Addr),PE (X.blk s H scope (compEnvC scope cl C X.env) fp) elt te) (hs:∀ x,foldedSetIterable iter X.env x=pure x)
  (h:tLc wi g tt te (own.map (·.2)) σ H Q)
  (hRR:∀ D C s' m H',Inv X pins σ H' s'→Q (.ref D) H'→s'.heap.Ns C m→lT X pins H' C→compPost (model X.prog X.w) X.A X.xe use Qf (.ref D) C (.ok .next) s') :
  wpAny (model X.prog X.w) X.A (comprehension (.ListComp elt [⟨tg,iter,ifs,0⟩] scope pos) scope X.env pos' (newList []) false (eval iter X.env) use) Qf X.xe s:=by
 have hfree:∀ y∈scope.names,y.2 = .free→∃ c,X.env.cells.lookup y.1=some c:=fun y hy e=>by
  rcases ok.free y hy e with k | k
  ·exact I.ok.has _ (.inl k)
  ·exact I.ok.has _ (.inr k)
 refine wpAny_comprehension_free (use:=use) rfl hs (qt hfree) ok.kind (fun y hy e=>by rw [ok.uniq y hy,e])
  (thn (hi pins s σ H _ I h) fun xv s1 hx=>thn hx fun itv s2 h2=>?_)
 obtain ⟨it,fp,tn,J,H2,e,I2,T,st2,f2,q⟩:=h2
 subst e;refine wpAny_newObj_type (oZ ?_) (by show 0≤sizeLine;decide)
 generalize hD:s2.heap.objs.size=D;have hDn:H2 D=none:=I2.hok.fresh (iz hD)
 obtain ⟨W,⟨m0,w0⟩,turn⟩:=q D hDn
 generalize hs3:({ s2 with heap:=s2.heap.push { cls:=.type "list",data:=.seq ([]:List Value).toArray } }:Shared)=s3
 have I3:Inv X pins σ (upd H2 D (.lst [])) s3:=by
  rw [←hs3];refine I2.laid (t':=s2.toks) (fun b o e=>aK _ e) (iz hD) ⟨a8 _,[],0,.nil,?_⟩
  rw [←hD];exact aW _ rfl
 have h3:s3.heap=s2.heap.push { cls:=.type "list",data:=.seq ([]:List Value).toArray }:=by rw [←hs3]
 have sz:∀ b∈fp,b<s2.heap.objs.size:=fun b hb=>by
  obtain ⟨o,e,_⟩:=T.obj _ _ st2 b hb
  exact aV e
 have f3:∀ b∈fp,lT X pins (upd H2 D (.lst [])) b∧b<s3.heap.objs.size:=fun b hb=>by
  have hlt:=sz b hb
  refine ⟨⟨?_,(f2 b hb).2⟩,by rw [h3,Heap.size_push];exact gT hlt⟩
  rw [aa (by rw [←hD];exact bt hlt)]
  exact (f2 b hb).1
 have st3:tn 0 s3.heap:=T.keep _ _ _ st2 fun b _ o e=>by rw [h3];exact aK _ e
 have I4:=pA I3 ok hN f3
 have pg:=hg s3 (upd H2 D (.lst [])) s3.heap.objs.size (cellsFrom (s3.heap.objs.size+1) scope.names (de X.env.cells scope.names [])) fp
 have pt:=ht s3 (upd H2 D (.lst [])) s3.heap.objs.size (cellsFrom (s3.heap.objs.size+1) scope.names (de X.env.cells scope.names [])) fp
 have pe:=he s3 (upd H2 D (.lst [])) s3.heap.objs.size (cellsFrom (s3.heap.objs.size+1) scope.names (de X.env.cells scope.names [])) fp
 show codeAny _ _ (.compStart (.ListComp elt [⟨tg,iter,ifs,0⟩] scope pos) 0 (.ref it) (.ref D) (compEnvC scope (cellsFrom (s3.heap.objs.size+1) scope.names (de X.env.cells scope.names [])) s3.heap.objs.size X.env)) (compPost (model X.prog X.w) X.A X.xe use Qf (.ref D) s3.heap.objs.size) { s3 with heap:=pushCells (s3.heap.push { cls:=.type "dict",data:=.dict #[] }) scope.names }
 have nfp:∀ b∈fp,(upd H2 D (.lst [])) b=none:=fun b hb=>(f3 b hb).1.1
 generalize hce:compEnvC scope (cellsFrom (s3.heap.objs.size+1) scope.names (de X.env.cells scope.names [])) s3.heap.objs.size X.env=ce at I4 pg pt pe ⊢;have cL:ce.locals=s3.heap.objs.size:=by subst hce;rfl
 generalize hH3:upd H2 D (.lst [])=H3 at I3 I4 pg pt pe w0 nfp f3;generalize hs4:({ s3 with heap:=pushCells (s3.heap.push { cls:=.type "dict",data:=.dict #[] }) scope.names }:Shared)=s4 at I4 ⊢
 have st4:tn 0 s4.heap:=T.keep _ _ _ st3 fun b _ o e=>by rw [←hs4];exact pushCells_keeps _ _ _ _ (aK _ e)
 have stat:∀ {σ':St} {H':Hp} {s':Shared},Inv (X.blk s3 H3 scope ce fp) [] σ' H' s'→(∀ b∈fp,H' b=none)→∀ b∈fp,lT (X.blk s3 H3 scope ce fp) [] H' b:=fun {σ' H' s'} I' hn b hb =>
  ⟨hn b hb,(I'.ok.exf b hb).1,I'.ok.exfs b hb,.inl hb,fun x c e=>(I'.ok.exf b hb).2 x c e,fun p hp=>aP (show p∈([]:List (Addr×Obj))++[] from hp) (by simp)⟩
 have loop:codeAny (model X.prog X.w) X.A (.compLoop (.ListComp elt [⟨tg,iter,ifs,0⟩] scope pos) 0 (.ref it) (.ref D) ce) (compPost (model X.prog X.w) X.A X.xe use Qf (.ref D) s3.heap.objs.size) s4:=by
  refine nQ (fun n s'=>∃ i H',Inv (X.blk s3 H3 scope ce fp) [] (fj σ (own.map (·.2))) H' s'∧tn i s'.heap∧(∀ b∈fp,H' b=none)∧W i n H') ?_ m0 ⟨0,H3,I4,st4,nfp,w0⟩
  rintro n s5 ⟨i,H5,I5,st5,n5,w5⟩
  rcases turn i n H5 w5 with ⟨stop,qq⟩ | ⟨go,Nx,hNx,step⟩
  ·have td:=T.done (X.blk s3 H3 scope ce fp) rfl rfl rfl hc i [] s5 _ H5 (fun _ _=>False) I5 (stat I5 n5) st5 stop
   refine rL td fun r s6 ⟨hr,I6⟩=>?_
   subst hr;have I7:Inv X pins σ H5 s6:=I3.call' (ch:=fp) I6.os I6.base I6.hok I6.bare fun b hb=>⟨(f3 b hb).1.2.2.2.1,(f3 b hb).1.2.1,(f3 b hb).1.2.2.2.2.1,(f3 b hb).1.2.2.2.2.2⟩
   have nC:H5 s3.heap.objs.size=none:=by
    have z:H5 ce.locals=none:=I6.free
    rw [cL] at z;exact z
   obtain ⟨m,hn,_⟩:=I6.loc
   have hn:s6.heap.Ns ce.locals m:=hn
   rw [cL] at hn;exact hRR D s3.heap.objs.size s6 m H5 I7 qq hn (I3.fpOk (aI _) nC)
  ·have ti:=T.item (X.blk s3 H3 scope ce fp) rfl rfl rfl hc i [] s5 _ H5 (fun _ _=>False) I5 (stat I5 n5) st5 go
   refine rL ti fun r s6 ⟨u,hr,h6⟩=>?_
   subst hr;refine rL h6 fun _ s7 ⟨x,H7,I7,r7,y7,st7,n7⟩=>?_
   have I7':=I7.pinned (stat I7 n7) (T.obj _ _ st7)
   refine rL (pg _ s7 _ H7 x u _ I7' r7 (step x H7 y7)) fun _ s8 ⟨σ8,H8,I8,hw8,q8⟩=>?_
   refine rL (pt _ s8 σ8 H8 _ I8 q8) fun b s9 ⟨H9,I9,q9⟩=>?_
   have fin:∀ {s':Shared} {H':Hp},Inv (X.blk s3 H3 scope ce fp) ([]++kY fp s7.heap) σ8 H' s'→Nx H'→∃ m,m<n∧∃ i H',Inv (X.blk s3 H3 scope ce fp) [] (fj σ (own.map (·.2))) H' s'∧tn i s'.heap∧(∀ b∈fp,H' b=none)∧W i m H':=fun {s' H'} I' nx=>by
    obtain ⟨m',hm,w'⟩:=hNx H' nx
    have pin':∀ b∈fp,∀ o,s7.heap.get? b=some o→s'.heap.get? b=some o∧H' b=none:=fun b hb o e =>
     let z:=I'.pin (b,o) (bX _ (bX _ (jl hb e)))
     ⟨z.1,z.2.1⟩
    have hl:(fj σ (own.map (·.2))).length=σ8.length:=by rw [←hw8,iH]
    refine ⟨m',hm,i+1,H',(I'.unpinned (pins:=[])).weak hl (fun j v e=>?_),T.keep _ _ _ st7 fun b hb o e=>(pin' b hb o e).1,fun b hb=>?_,w'⟩
    ·rw [←hw8] at e;exact (jI e).1
    ·obtain ⟨o,e,_⟩:=T.obj _ _ st7 b hb
     exact (pin' b hb o e).2
   cases b with
   | false =>
    simp only [b5,if_false] at q9 ⊢;exact fin I9 q9
   | true =>
    simp only [if_true] at q9 ⊢;refine rL (pe _ s9 σ8 H9 _ I9 q9) fun z s10 ⟨yv,H10,I10,r10,acc,hD10,hz10,nx⟩=>?_
    exact yS (X:=X.blk s3 H3 scope ce fp) I10 hD10 hz10 r10 fun s11 I11=>fin I11 nx
 exact codeAny_compStart_list loop (T.self X.A 0 _ _ _ st4 loop)
theorem la {elt tg iter:Expr} {ifs:List Expr} {scope:Scope} {own:List (Str×Nat)} {pos:Pos} {wi:TI} {g:TG} {tt:TT} {te:TE} (hc:X.calm=true) (hN:X.N.Nodup) (hi:PI X tg iter wi) (ok:pI X.N X.env.scope scope own)
  (hg:∀ (s:Shared) (H:Hp) (C:Addr) (cl:List (Str×Addr)) (fp:List Addr),PG (X.blk s H scope (compEnvC scope cl C X.env) fp) tg g) (ht:∀ (s:Shared) (H:Hp) (C:Addr) (cl:List (Str×Addr)) (fp:List Addr),PTs (X.blk s H scope (compEnvC scope cl C X.env) fp) ifs tt)
  (he:∀ (s:Shared) (H:Hp) (C:Addr) (cl:List (Str×Addr)) (fp:List Addr),PE (X.blk s H scope (compEnvC scope cl C X.env) fp) elt te) (hs:∀ x,foldedSetIterable iter X.env x=pure x:=by intro _;rfl) :
  PE X (.ListComp elt [⟨tg,iter,ifs,0⟩] scope pos) (tLc wi g tt te (own.map (·.2))):=by
 intro pins s σ H Q I h;rw [eval_ListComp];refine qS hc hN I hi ok hg ht he hs h fun D C s' m H' I' q hn f=>⟨m,hn,fun h'' sb=>?_⟩
 obtain ⟨f0,f1,f2,f3,f4,f5⟩:=f
 exact ⟨.ref D,H',I'.turned (t':=s'.toks) (fun b o hb e=>(sb.2 b hb).trans e) f0 f1 f3 f4 f5,rfl,q⟩
theorem kX {i:Nat} {y:Str} {py:Pos} {elt tg iter:Expr} {ifs:List Expr} {scope:Scope} {own:List (Str×Nat)} {pos spos:Pos} {wi:TI} {g:TG} {tt:TT} {te:TE} (hc:X.calm=true) (hN:X.N.Nodup) (hy:X.N[i]? = some y) (hyl:X.env.scope.names.lookup y=some .local)
  (hsw:swapsWith (.ListComp elt [⟨tg,iter,ifs,0⟩] scope pos) (some (.Name y py)) spos.line X.env=pure true) (hi:PI X tg iter wi) (ok:pI X.N X.env.scope scope own)
  (hg:∀ (s:Shared) (H:Hp) (C:Addr) (cl:List (Str×Addr)) (fp:List Addr),PG (X.blk s H scope (compEnvC scope cl C X.env) fp) tg g) (ht:∀ (s:Shared) (H:Hp) (C:Addr) (cl:List (Str×Addr)) (fp:List Addr),PTs (X.blk s H scope (compEnvC scope cl C X.env) fp) ifs tt)
  (he:∀ (s:Shared) (H:Hp) (C:Addr) (cl:List (Str×Addr)) (fp:List Addr),PE (X.blk s H scope (compEnvC scope cl C X.env) fp) elt te) (hs:∀ x,foldedSetIterable iter X.env x=pure x:=by intro _;rfl) :
  PS X (.Assign [.Name y py] (.ListComp elt [⟨tg,iter,ifs,0⟩] scope pos) spos) (xo (tLc wi g tt te (own.map (·.2))) (lH i)):=by
 intro pins s σ H D I h;rw [exec_Assign_Name_used _ _ _ _ hsw];refine ag (wpAny_standAt (ag ?_))
 show wpAny _ X.A (do let _ ←comprehension (.ListComp elt [⟨tg,iter,ifs,0⟩] scope pos) scope X.env (firstIterPos [⟨tg,iter,ifs,0⟩] pos) (newList []) false (eval iter X.env) (some (assign (.Name y py) X.env))) _ _ s
 have h:tLc wi g tt te (own.map (·.2)) σ H (fun x H1=>lH i x σ H1 D.nx):=h
 refine ag (thn (qS (Qf:=fun _ s'=>SP X pins D .next s') hc hN I hi ok hg ht he hs h fun L C s' m H' I' q hn f=>?_) fun _ s' hq=>aM (aM hq))
 show wpAny _ _ (assign (.Name y py) X.env (.ref L)) _ _ _
 refine wpAny_assign_Name (ma (v:=V.ref L) I' hN hy (.inl hyl) rfl (fun s2 I2 ⟨a,sb,ha⟩=>?_) (.inr hyl))
 obtain ⟨f0,f1,f2,f3,f4,f5⟩:=f
 have haC:C≠a:=by
  rcases ha with z | z
  ·rw [z];exact f1
  ·exact fun e=>f4 y a z e.symm
 refine ⟨m,hn.sameBut sb haC,fun h3 sb3=>?_⟩
 exact ⟨_,H',I2.turned (t':=s2.toks) (fun b o hb e=>(sb3.2 b hb).trans e) f0 f1 f3 f4 f5,q⟩
end
theorem gM {K:Fg_} {a:Addr} {xs:List V} {g:TG} {tt:TT} {te:TE} {vs:List Nat} {σ:St} {H1:Hp} {D:Addr} {Qd:Hp→Prop} (Pv:Nat→Hp→Prop) (h0:Pv 0 (upd H1 D (.lst []))) (hl:∀ i H,i≤xs.length→Pv i H→SqL K H a xs)
  (hs:∀ i x H,xs[i]? = some x→Pv i H→g x (fj σ vs) H fun σ2 H2=>fj σ2 vs=fj σ vs∧tt σ2 H2 fun b H3 =>
   if b=true then te σ2 H3 fun y H4=>∃ acc,H4 D=some (.lst acc)∧acc.length<sizeLine∧Pv (i+1) (upd H4 D (.lst (acc++[y]))) else Pv (i+1) H3) (hd:∀ H,Pv xs.length H→Qd H) :
  ∃ W:Nat→Nat→Hp→Prop,(∃ m,W 0 m (upd H1 D (.lst [])))∧∀ i m H,W i m H →
   ((Itl K a).stop i H∧Qd H)∨((Itl K a).go i H∧∃ Nx:Hp→Prop,(∀ H',Nx H'→∃ m',m'<m∧W (i+1) m' H')∧∀ x H',(Itl K a).yld i H x H'→g x (fj σ vs) H' fun σ2 H2=>fj σ2 vs=fj σ vs∧tt σ2 H2 fun b H3 =>
    if b=true then te σ2 H3 fun y H4=>∃ acc,H4 D=some (.lst acc)∧acc.length<sizeLine∧Nx (upd H4 D (.lst (acc++[y]))) else Nx H3):=by
 refine ⟨fun i m H=>m=xs.length - i∧i≤xs.length∧Pv i H,⟨xs.length,by simp,a8 _,h0⟩,?_⟩
 rintro i m H ⟨rfl,hi,p⟩
 have q:=hl i H hi p
 by_cases hlt:i<xs.length
 ·refine .inr ⟨⟨xs,xs[i],q,by simp [hlt]⟩,Pv (i+1),fun H' p'=>⟨xs.length - (i+1),by omega,rfl,hlt,p'⟩,fun x H' y=>?_⟩
  obtain ⟨e,y⟩:=y
  subst e;exact hs i x _ (y xs q) p
 ·have e:i=xs.length:=by omega
  subst e;exact .inl ⟨⟨xs,q,aI _⟩,hd H p⟩
theorem yA {K:Fg_} {a:Addr} {xs:List V} {g:TG} {tt:TT} {te:TE} {vs:List Nat} {σ:St} {H1:Hp} {D:Addr} {Qd:Hp→Prop} (Pv:Nat→Hp→Prop) (h0:Pv 0 (upd H1 D (.lst []))) (hl:∀ i H,i≤xs.length→Pv i H→SqT K H a xs)
  (hs:∀ i x H,xs[i]? = some x→Pv i H→g x (fj σ vs) H fun σ2 H2=>fj σ2 vs=fj σ vs∧tt σ2 H2 fun b H3 =>
   if b=true then te σ2 H3 fun y H4=>∃ acc,H4 D=some (.lst acc)∧acc.length<sizeLine∧Pv (i+1) (upd H4 D (.lst (acc++[y]))) else Pv (i+1) H3) (hd:∀ H,Pv xs.length H→Qd H) :
  ∃ W:Nat→Nat→Hp→Prop,(∃ m,W 0 m (upd H1 D (.lst [])))∧∀ i m H,W i m H →
   ((Itt K a).stop i H∧Qd H)∨((Itt K a).go i H∧∃ Nx:Hp→Prop,(∀ H',Nx H'→∃ m',m'<m∧W (i+1) m' H')∧∀ x H',(Itt K a).yld i H x H'→g x (fj σ vs) H' fun σ2 H2=>fj σ2 vs=fj σ vs∧tt σ2 H2 fun b H3 =>
    if b=true then te σ2 H3 fun y H4=>∃ acc,H4 D=some (.lst acc)∧acc.length<sizeLine∧Nx (upd H4 D (.lst (acc++[y]))) else Nx H3):=by
 refine ⟨fun i m H=>m=xs.length - i∧i≤xs.length∧Pv i H,⟨xs.length,by simp,a8 _,h0⟩,?_⟩
 rintro i m H ⟨rfl,hi,p⟩
 have q:=hl i H hi p
 by_cases hlt:i<xs.length
 ·refine .inr ⟨⟨xs,xs[i],q,by simp [hlt]⟩,Pv (i+1),fun H' p'=>⟨xs.length - (i+1),by omega,rfl,hlt,p'⟩,fun x H' y=>?_⟩
  obtain ⟨e,y⟩:=y
  subst e;exact hs i x _ (y xs q) p
 ·have e:i=xs.length:=by omega
  subst e;exact .inl ⟨⟨xs,q,aI _⟩,hd H p⟩
def blkC (N:List Str) (sc scope:Scope) (own:List (Str×Nat)):Bool :=
 (match scope.kind with | .function=>true | _=>false)&&(scope.names.all fun y=>decide (scope.names.lookup y.1=some y.2))&&(own.all fun p=>decide (N[p.2]? = some p.1)) &&
  (scope.names.all fun y=>match y.2 with
   | .free=>(match sc.names.lookup y.1 with | some .cell=>true | some .free=>true | _=>false)
   | .local=>decide (y.1∈own.map (·.1))||decide (y.1∉N)
   | .cell=>decide (y.1∈own.map (·.1))||decide (y.1∉N)
   | _=>true)
theorem fe {N:List Str} {sc scope:Scope} {own:List (Str×Nat)} (h:blkC N sc scope own=true):pI N sc scope own:=by
 unfold blkC at h;simp only [bb,dH,bQ] at h;obtain ⟨⟨⟨h1,h2⟩,h3⟩,h4⟩:=h
 refine ⟨?_,h2,h3,fun y hy e=>?_,fun y hy e=>?_⟩
 ·split at h1
  ·assumption
  ·cases h1
 ·have q:=h4 y hy
  simp only [e] at q;split at q<;>first | exact .inl (by assumption) | exact .inr (by assumption) | cases q
 ·have q:=h4 y hy
  rcases e with e | e<;>(simp only [e,eG,bQ] at q;exact q)
mutual
inductive Dp (K:Fg_) (H:Hp):V→PyData→Prop
 | non:Dp K H .non .none
 | bl (b:Bool):Dp K H (.bl b) (.bool b)
 | int (i:Int):Dp K H (.int i) (.int i)
 | str (x:Str):Dp K H (.str x) (.str x)
 | lst {a:Addr} {xs:List V} {ds:List PyData}:SqL K H a xs→DpAll K H xs ds→Dp K H (.ref a) (.list ds)
 | tup {a:Addr} {xs:List V} {ds:List PyData}:SqT K H a xs→DpAll K H xs ds→Dp K H (.ref a) (.tuple ds)
inductive DpAll (K:Fg_) (H:Hp):List V→List PyData→Prop
 | nil:DpAll K H [] []
 | cons {v:V} {vs:List V} {d:PyData} {ds:List PyData}:Dp K H v d→DpAll K H vs ds→DpAll K H (v::vs) (d::ds)
end
section
variable {X:Cx} {pins:List (Addr×Obj)} {σ:St} {H:Hp} {s:Shared}
mutual
theorem Dp.reads (I:Inv X pins σ H s):∀ (d:PyData) (v:V) (u:Value),Dp X.K H v d→b7 v u→∃ as,Reads s.heap u d as
 | .none,_,_,h,r=>by
  cases h;cases r;exact ⟨_,Reads.none⟩
 | .bool b,_,_,h,r=>by
  cases h;cases r;exact ⟨_,Reads.bool b⟩
 | .int i,_,_,h,r=>by
  cases h;obtain ⟨t,rfl⟩:=r
  exact ⟨_,Reads.int i t⟩
 | .str x,_,_,h,r=>by
  cases h;obtain ⟨t,rfl⟩:=r
  exact ⟨_,Reads.str x t⟩
 | .list ds,_,_,h,r=>by
  cases h with
  | lst hs ha =>
   cases r;obtain ⟨its,rv,⟨o,n,ho,hc,_,hd⟩,_⟩:=I.list hs
   obtain ⟨as,hr⟩:=Dp.readsAll I ds _ its ha rv
   exact ⟨_,Reads.list ho hc hd hr⟩
 | .tuple ds,_,_,h,r=>by
  cases h with
  | tup hs ha =>
   cases r;obtain ⟨its,rv,⟨o,ho,hc,n,hd⟩,_⟩:=I.tuple hs
   obtain ⟨as,hr⟩:=Dp.readsAll I ds _ its ha rv
   exact ⟨_,Reads.tuple ho hc hd hr⟩
 | .dict _,_,_,h,_=>by cases h
theorem Dp.readsAll (I:Inv X pins σ H s):∀ (ds:List PyData) (vs:List V) (us:List Value),DpAll X.K H vs ds→cg vs us→∃ as,ReadsAll s.heap us ds as
 | [],_,_,h,r=>by
  cases h;cases r;exact ⟨_,ReadsAll.nil⟩
 | d::ds,_,_,h,r=>by
  cases h with
  | cons h1 h2 =>
   cases r with
   | cons r1 r2 =>
    obtain ⟨as,q1⟩:=Dp.reads I d _ _ h1 r1
    obtain ⟨bs,q2⟩:=Dp.readsAll I ds _ _ h2 r2
    exact ⟨_,ReadsAll.cons q1 q2⟩
end
end
section
variable {X:Cx}
def rEqD (K:Fg_):R2:=fun x y H Q=>∃ d e,Dp K H x d∧Dp K H y e∧SeqAt.shaped d=true∧SeqAt.shaped e=true∧Q (.bl (PyData.eqv d e)) H
def rNeD (K:Fg_):R2:=fun x y H Q=>∃ d e,Dp K H x d∧Dp K H y e∧SeqAt.shaped d=true∧SeqAt.shaped e=true∧Q (.bl (!PyData.eqv d e)) H
theorem ue (hu:X.A.units+64<cLine):OpR X (compareOp .Eq) (rEqD X.K):=by
 intro pins s σ H x y v u Q I rx ry h;obtain ⟨d,e,hd,he,sd,se,q⟩:=h
 obtain ⟨as,r1⟩:=Dp.reads I d x v hd rx
 obtain ⟨bs,r2⟩:=Dp.reads I e y u he ry
 exact SeqAt.compareEq_shaped r1 r2 sd se hu ⟨.bl _,H,I,rfl,q⟩
theorem yr (hu:X.A.units+64<cLine):OpR X (compareOp .NotEq) (rNeD X.K):=by
 intro pins s σ H x y v u Q I rx ry h;obtain ⟨d,e,hd,he,sd,se,q⟩:=h
 obtain ⟨as,r1⟩:=Dp.reads I d x v hd rx
 obtain ⟨bs,r2⟩:=Dp.reads I e y u he ry
 exact SeqAt.compareNe_shaped r1 r2 sd se hu ⟨.bl _,H,I,rfl,q⟩
end
section
variable {X:Cx} {pins:List (Addr×Obj)} {σ:List (Option V)} {H H':Hp} {s:Shared} {h':Heap}
theorem Inv.turnedNew {t':Nat} {ch:List Addr} {T:Addr} {ob:HO} (I:Inv X pins σ H s) (k:∀ b o,b∉ch→s.heap.get? b=some o→h'.get? b=some o) (hf:∀ b∈ch,lT X pins H b) (hT:s.heap.objs.size≤T)
  (new:du X.prog X.w (upd H T ob) h' T ob):Inv X pins σ (upd H T ob) { s with heap:=h',toks:=t' }:=by
 have hn:H T=none:=I.hok.fresh hT
 have nit:∀ b u,H b=some u→b∉ch:=fun b u e z=>by
  have q:=(hf b z).1
  rw [q] at e;cases e
 refine I.step (g':=s.gens) (d':=s.drawn) (ch:=ch) (fun b hb=>⟨(hf b hb).2.2.2.1,(hf b hb).2.1,(hf b hb).2.2.2.2.1,(hf b hb).2.2.2.2.2⟩) (fun b o _ _ hc e _=>k b o hc e) (fun b o _ _ hc e _=>⟨o.slots,k b o hc e⟩)
  (fun b o _ e n=>?_) (fun b o hc e=>⟨o,k b o hc e⟩) (fun b xs e=>?_) (fun b o u e=>?_) (fun b ps e=>⟨#[],?_⟩) (fun m hm=>?_) (fun b u e=>?_) I.bare
 ·rw [aa (bt (bc (aV e) hT))];exact n
 ·rw [aa (af e hn)];exact e
 ·rw [aa (af e hn)];exact e
 ·rw [aa (af e hn),e];simp
 ·obtain ⟨o,es,ep,ho,r⟩:=hm
  exact ⟨o,es,ep,k _ o (fun z=>(hf _ z).2.1 rfl) ho,r⟩
 ·by_cases hb:b=T
  ·subst hb;rw [au] at e;cases e;exact new
  ·rw [aa hb] at e;refine (I.hok b u e).stay (fun c v hc q=>k c v ?_ q) (fun c q=>by rw [aa (af q hn)];exact q) fun c xs q=>by rw [aa (af q hn)];exact q
   rcases hc with z | z
   ·rw [z];exact nit b u e
   ·exact nit c _ z
end
def Ite (K:Fg_) (a:Addr):It :=
 ⟨fun i H=>∃ (xs:List V) (x:V),SqL K H a xs∧xs[i]? = some x,fun i H v H'=>∃ T x,v = .ref T∧H T=none∧H'=upd H T (.tup [.int (i:Nat),x])∧∀ xs,SqL K H a xs→xs[i]? = some x,fun i H=>∃ xs:List V,SqL K H a xs∧xs.length≤i⟩
theorem rK {P:Program} {w:World} {K:Fg_} {elts:List Expr} {kk:Nat} {tpos:Pos} (a e it:Addr) :
  Turn P w K (.Tuple elts kk tpos) (Ite K a) [e,it] e (fun i h=>(∃ old,IsEnum h e it ((i:Nat):Int) old)∧h.IsListIter it a i∧e≠it) where
 mem:=by simp
 obj:=fun i h st b hb=>by
  obtain ⟨⟨old,he⟩,⟨o,ho,hc,hd⟩,_⟩:=st
  have e':b=e∨b=it:=by simpa using hb
  rcases e' with z | z
  ·rw [z];exact ⟨_,he,fun v q=>nomatch q⟩
  ·rw [z];exact ⟨o,ho,fun v q=>by rw [hd] at q;cases q⟩
 keep:=fun i h h' st k=>let ⟨⟨old,he⟩,hi,hne⟩:=st;⟨⟨old,k e (by simp) _ he⟩,hi.at fun o q=>k it (by simp) o q,hne⟩
 item:=by
  intro X hP hw hK hc i pins s σ H E I hf st hg;subst hP hw hK;obtain ⟨⟨old,he⟩,hit,hne⟩:=st
  obtain ⟨xs,x,hq,hx⟩:=hg
  obtain ⟨its,rv,p,hz⟩:=I.list hq
  obtain ⟨u,hu,ru⟩:=rv.get hx
  have hel:e<s.heap.objs.size:=aV he
  have hil:it<s.heap.objs.size:=by obtain ⟨_,q,_⟩:=hit;exact aV q
  refine wpAny_pyNext_enum_item he hit p.isList (x:=u) (by simpa using hu) hne fun h' ho hit' hT hsz hk=>?_
  refine ⟨_,rfl,wpAny_letOwnedTupleGo_enum (s:={ s with heap:=h',toks:=s.toks+1 }) ho fun h'' he' sb=>?_⟩
  have hT2:h''.get? s.heap.objs.size=some { cls:=.type "tuple",data:=.seq #[.int i s.toks,u] }:=(sb.2 _ (fN hel)).trans hT
  have new:du X.prog X.w (upd H s.heap.objs.size (.tup [.int (i:Nat),x])) h'' s.heap.objs.size (.tup [.int (i:Nat),x]) :=
   ⟨by show 2≤sizeLine;decide,[.int i s.toks,u],.cons ⟨_,rfl⟩ (.cons ru .nil),⟨_,hT2,rfl,_,rfl⟩⟩
  have I1:Inv X pins σ (upd H s.heap.objs.size (.tup [.int (i:Nat),x])) { s with heap:=h'',toks:=s.toks+1 } :=
   I.turnedNew (ch:=[e,it]) (fun b ob hb q=>(sb.2 b (fun z=>hb (by simp [z]))).trans (hk b ob (fun z=>hb (by simp [z])) (fun z=>hb (by simp [z])) q)) hf (aI _) new
  refine ⟨.ref s.heap.objs.size,_,I1,rfl,⟨_,x,rfl,I.hok.fresh (aI _),rfl,fun ys hy=>by rw [I.list_inj hy hq];exact hx⟩,⟨⟨u,?_⟩,hit'.at fun o q=>(sb.2 it (aN hne)).trans q,hne⟩,fun b hb=>?_⟩
  ·have e1:((i+1:Nat):Int)=(i:Int)+1:=by omega
   rw [e1];exact he'
  ·have hb':b<s.heap.objs.size:=by
    have e':b=e∨b=it:=by simpa using hb
    rcases e' with z | z
    ·rw [z];exact hel
    ·rw [z];exact hil
   rw [aa (bt hb')];exact (hf b hb).1
 done:=by
  intro X hP hw hK hc i pins s σ H E I hf st hg;subst hP hw hK;obtain ⟨⟨old,he⟩,hit,hne⟩:=st
  obtain ⟨xs,hq,hx⟩:=hg
  obtain ⟨its,rv,p,hz⟩:=I.list hq
  obtain ⟨f0,f1,f2,f3,f4,f5⟩:=hf it (by simp)
  have hl:=rv.length
  exact wpAny_pyNext_enum_end (I.ok.hd hc) he hit p.isList (by simp;omega) fun h' eb=>⟨rfl,I.turned (t':=s.toks) (fun b o hb q=>eb b o hb q) f0 f1 f3 f4 f5⟩
 self:=fun A i s Q E st h=>let ⟨⟨_,he⟩,_⟩:=st;wpAny_pyIter_enum he h
def iEnum (K:Fg_) (ta:TA):TI:=fun σ H R=>ta σ H fun vs H1=>∃ a xs,vs=[.ref a]∧SqL K H1 a xs∧R (Ite K a) H1
theorem nj {X:Cx} {e:Expr} {ta:TA} {p pos tpos:Pos} {elts:List Expr} {kk:Nat} (hg:Gl X "enumerate") (hm:X.mg "enumerate" = none) (ha:PA X [e] ta) (hs:starEach [e] X.env=[(false,eval e X.env)]:=by rfl) :
  PI X (.Tuple elts kk tpos) (.Call (.Name "enumerate" p) [e] [] pos) (iEnum X.K ta):=by
 intro pins s σ H R I h;refine Call_ (iQ I hg hm boot_enumerate (PyProof.Rows.callWith_type1 (thn (ha pos pins s σ H _ I h) fun us s1 ⟨vs,H1,I1,r1,q1⟩=>?_) hs rfl))
 obtain ⟨a,xs,ex,hq,q⟩:=q1
 subst ex;cases r1 with
 | cons r rr =>
  cases rr;cases r;obtain ⟨its,rv,p',hz⟩:=I1.list hq
  refine call_enumerate_list p'.isList fun h' he hit hsz hk=>wpAny_pyIter_enum he ?_
  have I2:Inv X pins σ H1 { s1 with heap:=h' }:=I1.kept (t':=s1.toks) hk
  refine ⟨s1.heap.objs.size+1,[s1.heap.objs.size+1,s1.heap.objs.size],_,_,H1,rfl,I2,rK a (s1.heap.objs.size+1) s1.heap.objs.size,⟨⟨.none,he⟩,hit,Nat.succ_ne_self _⟩,fun b hb=>?_,q⟩
  have e':b=s1.heap.objs.size+1∨b=s1.heap.objs.size:=by simpa using hb
  have hle:s1.heap.objs.size≤b:=by
   rcases e' with z | z
   ·rw [z];exact Nat.le_add_right _ _
   ·rw [z];exact aI _
  exact I1.fpOk hle (I1.hok.fresh hle)
end L2
namespace L2.XC
open PySem PySem.Spec PyProof.Rows
open Builtin Builtin.ObjectAttr
abbrev bmU (U:Addr):List Value:=.ref U::bmE
theorem kH {C U:Addr} {T:String} (hT:bmE.contains (.type T)=true):(Value.ref C::bmU U).contains (.type T)=true:=by
 rw [c5,c5,hT,Bool.or_true,Bool.or_true]
theorem uQ {C U:Addr} {T:String} (hT:bmE.contains (.type T)=false):(Value.ref C::bmU U).contains (.type T)=false:=by
 rw [c5,c5,hT];rfl
structure iF (K:Fg_) (U C fI:Addr):Prop where
 ob:∃ (nm q:Str) (N:Addr) (bs:List Value) (sn:List Str) (sub:List Value) (ab:Bool) (col:Option Bool) (dd:Option Addr) (k0 k1 k2 k3 k5:Option Value),
  K.lookup C=some (excClassObj nm q C N bs (bmU U) true sn sub ab col dd k0 k1 k2 k3 k5 "Exception.__new__")
 ini:PySem.W.findIn K (.ref C) "__init__" = some (some (.ref fI))
 fn:PySem.W.isFn K (.ref fI)=true
 kp:PySem.W.keepIn K (.ref C)=true
 sa:PySem.W.findIn K (.ref C) "__setattr__" = some (some (.builtin "object.__setattr__"))
 ga:PySem.W.findIn K (.ref C) "__getattribute__" = some (some (.builtin "BaseException.__getattribute__"))
 gr:PySem.W.findIn K (.ref C) "__getattr__" = some none
 an:PySem.W.findIn K (.ref C) "answer" = some none
section
variable {prog:Program} {w:World} {A:Around} {E:Value→Shared→Prop} {h:Heap} {g:Array GenState} {d:Drawn} {t:Nat} {os:OsState}
variable {nm q:Str} {C N U x dx:Addr} {bs:List Value} {sn:List Str} {sub:List Value} {ab:Bool} {col:Option Bool} {dd:Option Addr}
variable {k0 k1 k2 k3 k5:Option Value} {name:Str} {v:Value} {o:Obj} {mA:Str→Option Value}
theorem tf {M:Model} {T:String} (hC:h.get? C=some (excClassObj nm q C N bs (bmU U) true sn sub ab col dd k0 k1 k2 k3 k5 "Exception.__new__")) (hx:h.get? x=some o) (hc:o.cls = .ref C) (hT:bmE.contains (.type T)=true) :
  PySem.W.Looks M h (isInstance (.ref x) (.type T)) true:=by
 intro A Q E s k z;obtain ⟨hh,g,d,t,os⟩:=s
 have hx1:=k _ _ hx
 have hC1:=k _ _ hC
 have hb:=kH (C:=C) (U:=U) hT
 unfold isInstance;repeat (first
  | (with_reducible refine wpAny_loadPart_at hx1 ?_;rw [hc])
  | (with_reducible refine wpAny_isSubtype_exc hC1 ?_;rw [hb])
  | wp_step)
 exact z
theorem ot {M:Model} {rest:List Value} {Q:Unit→Shared→Prop} (hC:h.get? C=some (excClassObj nm q C N bs (bmU U) true sn sub ab col dd k0 k1 k2 k3 k5 "Exception.__new__")) (z:Q () ⟨h,g,d,t,os⟩) :
  wpAny M A (checkBuiltinCall "Exception.__new__" ⟨.ref C::rest,[]⟩) Q E ⟨h,g,d,t,os⟩:=by
 have F:=PySem.F.excBase_Exception
 have hb:=kH (C:=C) (U:=U) (T:="Exception") (by decide +kernel)
 have hst:=F.noStar
 simp only [F.newRow,F.newKind,F.newSplit,checkBuiltinCall];repeat (first
  | refine wpAny_loadPart_at hC ?_
  | (refine wpAny_isSubtype_exc hC ?_;rw [hb])
  | refine wpAny_staticBase_exc hC ?_
  | refine wpAny_madeBy_exc hC ?_
  | simp only [if_false,b5,bne_self_eq_false]
  | wp_step)
 exact z
theorem u_new {R:Result→Shared→Prop} {rest:List Value} (hC:h.get? C=some (excClassObj nm q C N bs (bmU U) true sn sub ab col dd k0 k1 k2 k3 k5 "Exception.__new__"))
  (z:R (.ok (.ret (.ref (h.objs.size+1)))) ⟨(h.push { cls:=.type "tuple",data:=.seq rest.toArray }).push { cls:=.ref C,data:=.fields #[.ref h.objs.size,.none,.none,.none,.bool false,.none] },g,d,t,os⟩) (hl:rest.length≤sizeLine) :
  codeAny (model prog w) A (.builtin "Exception.__new__" ⟨.ref C::rest,[]⟩) R ⟨h,g,d,t,os⟩:=by
 have F:=PySem.F.excBase_Exception
 have he:=F.ends
 have hB:=kH (C:=C) (U:=U) (T:="Exception") (by decide +kernel)
 have hA:=uQ (C:=C) (U:=U) (T:="AttributeError") (by decide +kernel)
 have hN:=uQ (C:=C) (U:=U) (T:="NameError") (by decide +kernel)
 refine codeAny_builtinAt F.entry ?_
 unfold Builtin.«BaseException.__new__»
 refine PySem.wpAt_bind ?_
 show PySem.wpAt _ _ _ (stack >>= _) _ _ _
 refine PySem.wpAt_bind (PySem.wpAt_stack fun p below=>PySem.wpAt_of_wpAny ?_)
 wp_walk
 refine PySem.wpAt_of_wpAny ?_
 rw [F.owner];repeat (first
  | with_reducible refine wpAny_madeHere_exc F.canon hC ?_
  | with_reducible refine wpAny_loadPart_at hC ?_
  | (with_reducible refine wpAny_isSubtype_exc hC ?_;first | rw [hB] | rw [hA] | rw [hN])
  | wp_step)
 show R _ _
 rw [Heap.size_push];exact z
theorem oj {rest:List Value} {fI:Addr} {oI:Obj} {Q:Fin→Shared→Prop} (hC:h.get? C=some (excClassObj nm q C N bs (bmU U) true sn sub ab col dd k0 k1 k2 k3 k5 "Exception.__new__"))
  (hL:PySem.W.Looks (model prog w) h (typeLookup (.ref C) "__init__") (some (.ref fI))) (hI:h.get? fI=some oI) (hIc:oI.cls = .type "function")
  (z:∀ h' e,Heap.MadeExcOf h h' e (.ref C) rest→wpAny (model prog w) A (call (.ref fI) (.ref e::rest)) (fun r s'=>r = .none∧Q (.done (.ret (.ref e))) s') E ⟨h',g,d,t,os⟩) (hl:rest.length≤sizeLine) :
  wpAny (model prog w) A (Builtin.«type.__call__» ⟨.ref C::rest,[]⟩) Q E ⟨h,g,d,t,os⟩:=by
 have F:=PySem.F.excBase_Exception
 repeat (first
  | with_reducible refine wpAny_loadPart_at hC ?_
  | with_reducible refine wpAny_madeBy_exc hC ?_
  | wp_step)
 refine codeAny_call_builtin_code (Code.quiet_builtin _ F.quiet) (ot hC ?_)
 refine u_new hC ?_ hl
 show wpAny _ _ _ _ _ _
 generalize hP:((h.push { cls:=.type "tuple",data:=.seq rest.toArray }).push { cls:=.ref C,data:=.fields #[.ref h.objs.size,.none,.none,.none,.bool false,.none] })=hh
 have up:∀ b u,h.get? b=some u→hh.get? b=some u:=fun b u e=>by
  rw [←hP];exact aK _ (aK _ e)
 have got:hh.get? (h.objs.size+1)=some { cls:=.ref C,data:=.fields #[.ref h.objs.size,.none,.none,.none,.bool false,.none] }:=by
  rw [←hP];heap_get
 have got0:hh.get? h.objs.size=some { cls:=.type "tuple",data:=.seq rest.toArray }:=by
  rw [←hP];exact aK _ (Heap.get?_push_at rfl rfl)
 have hC1:=up _ _ hC
 have hself:(Value.ref C::bmU U).contains (.ref C)=true:=by simp
 unfold isInstance;repeat (first
  | with_reducible refine wpAny_loadPart_at got ?_
  | (with_reducible refine wpAny_isSubtype_exc hC1 ?_;rw [hself])
  | wp_step)
 show wpAny _ _ (typeLookup (.ref C) _) _ _ _
 refine hL _ _ _ _ up ?_
 refine wpAny_holding (ag ?_)
 unfold bindSpecial;refine ag (wpAny_typeOf (T:="function") ⟨_,up _ _ hI,hIc⟩ ?_)
 rw [ao (by decide)]
 refine aM (ag (wpAny_mono (z hh (h.objs.size+1) ⟨up,Heap.get?_none_of_le (Nat.le_succ _),h.objs.size,got,Heap.get?_none_of_le (aI _),got0⟩) (fun r s' hr=>?_) fun _ _ y=>y))
 obtain ⟨rfl,hQ⟩:=hr
 wp_walk
 exact hQ
theorem wU {rest:List Value} {fI:Addr} {oI:Obj} {Q:Value→Shared→Prop} (hC:h.get? C=some (excClassObj nm q C N bs (bmU U) true sn sub ab col dd k0 k1 k2 k3 k5 "Exception.__new__"))
  (hL:PySem.W.Looks (model prog w) h (typeLookup (.ref C) "__init__") (some (.ref fI))) (hI:h.get? fI=some oI) (hIc:oI.cls = .type "function")
  (z:∀ h' e,Heap.MadeExcOf h h' e (.ref C) rest→wpAny (model prog w) (A.under (.builtin "type.__call__" ⟨.ref C::rest,[]⟩)) (call (.ref fI) (.ref e::rest)) (fun r s'=>r = .none∧Q (.ref e) s') E ⟨h',g,d,t,os⟩) (hl:rest.length≤sizeLine) :
  wpAny (model prog w) A (call (.ref C) rest) Q E ⟨h,g,d,t,os⟩:=by
 have f1:=tc_lookup
 have f2:=tc_bind (.ref C)
 have ht:(⟨h,g,d,t,os⟩:Shared).TypeIs (.ref C) "type":=⟨_,hC,rfl⟩
 refine wpAny_call (codeAny_of_tree ?_)
 show wpAny _ _ (callAny (.ref C) _) _ _ _
 repeat (any_goals (first
  | assumption
  | with_reducible refine wpAny_loadPart_at hC ?_
  | wp_step))
 refine ⟨rfl,?_⟩
 refine codeAny_call_builtin_at (Code.quiet_builtin _ (by decide +kernel)) entry_typeCall (wpAny_check_type_call_sub hC (oj hC hL hI hIc (fun h' e hm=>?_) hl))
 exact z h' e hm
theorem om {tk:Tok} {Q:Fin→Shared→Prop} (hC:h.get? C=some (excClassObj nm q C N bs (bmU U) true sn sub ab col dd k0 k1 k2 k3 k5 "Exception.__new__"))
  (hL:PySem.W.Looks (model prog w) h (typeLookup (.ref C) name) none) (hx:h.get? x=some o) (hc:o.cls = .ref C) (hdn:o.dict=none) (hnc:∀ c,o.data≠.cls c)
  (z:∀ h' tk',h'.get? x=some { o with dict:=some h.objs.size }→h'.Ns1 h.objs.size (fun y=>if y=name then some v else none) →
   (∀ b u,b≠x→h.get? b=some u→h'.get? b=some u)→Q (.done (.ret .none)) ⟨h',g,d,tk',os⟩) :
  wpAny (model prog w) A (Builtin.«object.__setattr__» ⟨[.ref x,.str name tk,v],[]⟩) Q E ⟨h,g,d,t,os⟩:=by
 have hp:=PySem.F.store_Exception.passes (.ref x)
 have hxs:x≠h.objs.size:=bt (aV hx)
 unfold Builtin.«object.__setattr__»
 repeat (first
  | rw [refuse_eq]
  | rw [refuseLoop_ref,refuseLoop_ref,hp]
  | (with_reducible refine wpAny_loadPart_at hx ?_;rw [hc])
  | with_reducible refine wpAny_mroOf_exc hC ?_
  | (with_reducible refine hL.at ?_)
  | wp_step)
 rw [hdn,ah (by simp [typeHasDict])]
 split
 ·rename_i y
  cases y
 split
 ·rename_i c y
  exact aP y (hnc c)
 ·have hx1:(h.push { cls:=.type "dict",data:=.dict #[] }).get? x=some o:=aK _ hx
  refine ag (wpAny_alloc' (ag (wpAny_update' hx1 (aM ?_))))
  generalize hU:((h.push { cls:=.type "dict",data:=.dict #[] }).update x fun o=>{ cls:=o.cls,dict:=some h.objs.size,data:=o.data,slots:=o.slots })=hh
  have e1:hh.get? h.objs.size=some { cls:=.type "dict",data:=.dict #[] }:=by
   rw [←hU];exact (Heap.get?_update_ne _ _ _ _ hxs.symm).trans (Heap.get?_push_at rfl rfl)
  have e2:hh.get? x=some { o with dict:=some h.objs.size }:=by
   rw [←hU];refine Heap.get?_update_self _ hx1 ?_
   have hfr:=(Heap.get?_some_iff.mp hx).2
   obtain ⟨oc,od,odt,osl⟩:=o
   cases odt<;>first | rfl | exact hfr
  have e3:∀ b u,b≠x→h.get? b=some u→hh.get? b=some u:=fun b u hb hbu=>by
   rw [←hU];exact (Heap.get?_update_ne _ _ _ _ hb).trans (aK _ hbu)
  have e4:hh.Ns h.objs.size (fun _=>none):=⟨_,#[],_,e1,rfl,fun e he=>aP he (by simp),fun _=>rfl⟩
  show wpAny _ _ (storeInDict h.objs.size (.str name tk) name v) _ _ _
  unfold storeInDict newKeyGuard;refine ag (aM (ag (wpAny_nsSet1 (Heap.Ns1.of_empty e4) fun h' n1 sb=>?_)))
  obtain ⟨oD,esD,epD,hoD,hdD,hcD⟩:=n1.count (Within.cons name v Within.nil)
  refine ag (wpAny_lookBehind hoD (by rw [hdD];exact pastItsLine_dict (bH hcD (by rw [aE,dO,sizeLine_eq];omega))) ?_)
  wp_walk
  exact z h' _ ((sb.2 x hxs).trans e2) n1 fun b u hb hbu=>(sb.2 b (bt (aV hbu))).trans (e3 b u hb hbu)
theorem pM {R:Result→Shared→Prop} {tk:Tok} (hC:h.get? C=some (excClassObj nm q C N bs (bmU U) true sn sub ab col dd k0 k1 k2 k3 k5 "Exception.__new__"))
  (hx:h.get? x=some o) (hc:o.cls = .ref C)
  (z:∀ (A:Around) (T:Fin→Shared→Prop) (E:Value→Shared→Prop),(∀ s',R (.ok (.ret .none)) s'→T (.done (.ret .none)) s') →
   wpAny (model prog w) A (Builtin.«object.__setattr__» ⟨[.ref x,.str name tk,v],[]⟩) T E ⟨h,g,d,t,os⟩) :
  codeAny (model prog w) A (.call (.builtin "object.__setattr__") ⟨[.ref x,.str name tk,v],[]⟩) R ⟨h,g,d,t,os⟩:=by
 have SF:=PySem.F.store_Exception
 refine codeAny_call_builtin SF.slot.plain SF.entry (@PySem.W.check_slot (model prog w) _ _ ⟨h,g,d,t,os⟩ "object.__setattr__" "object" "__setattr__" (.ref x) [.str name tk,v] [] _ SF.kind SF.split (tf hC hx hc (by decide +kernel)) (SF.args (.ref x) (.str name tk) v) ?_)
 refine z _ _ _ ?_
 intro s' y
 exact y
theorem pN {Q:Unit→Shared→Prop} (hL:PySem.W.Looks (model prog w) h (typeLookup (.ref C) "__setattr__") (some (.builtin "object.__setattr__"))) (hx:h.get? x=some o) (hc:o.cls = .ref C)
  (z:∀ (A:Around) (R:Result→Shared→Prop) (tk t':Nat),(∀ s',Q () s'→R (.ok (.ret .none)) s') →
   codeAny (model prog w) A (.call (.builtin "object.__setattr__") ⟨[.ref x,.str name tk,v],[]⟩) R ⟨h,g,d,t',os⟩) :
  wpAny (model prog w) A (setAttr (.ref x) name v) Q E ⟨h,g,d,t,os⟩:=by
 have f3:=PySem.F.store_Exception.slot.bind (.ref x)
 unfold setAttr callSpecial? specialOf
 repeat (any_goals (first
  | assumption
  | (with_reducible refine wpAny_loadPart_at hx ?_;rw [hc])
  | (with_reducible refine hL.at ?_)
  | wp_step))
 refine z _ _ _ _ fun s' y=>?_
 obtain ⟨hh,gg,dd',tt,oo⟩:=s'
 repeat (any_goals (first | (with_reducible assumption) | wp_step))
theorem oq {tk:Tok} {Q:Fin→Shared→Prop} (hC:h.get? C=some (excClassObj nm q C N bs (bmU U) true sn sub ab col dd k0 k1 k2 k3 k5 "Exception.__new__"))
  (hL:PySem.W.Looks (model prog w) h (typeLookup (.ref C) name) none)
  (hx:h.get? x=some o) (hc:o.cls = .ref C) (hnc:∀ c,o.data≠.cls c) (hdn:o.dict=some dx) (hns:h.Ns1 dx mA) (hv:mA name=some v) (z:Q (.done (.ret v)) ⟨h,g,d,t,os⟩) :
  wpAny (model prog w) A (Builtin.«object.__getattribute__» ⟨[.ref x,.str name tk],[]⟩) Q E ⟨h,g,d,t,os⟩:=by
 unfold Builtin.«object.__getattribute__»
 repeat (first
  | (with_reducible refine wpAny_loadPart_at hx ?_;rw [hc])
  | (with_reducible refine hL.at ?_)
  | wp_step)
 split
 ·rename_i c y
  exact aP y (hnc c)
 unfold instanceDict;repeat (first
  | (with_reducible refine wpAny_loadPart_at hx ?_;rw [hc])
  | with_reducible refine wpAny_loadPart_at hC ?_
  | wp_step)
 rw [hdn];repeat (first | (with_reducible refine wpAny_nsGet hns.ns ?_;rw [hv]) | wp_step)
 exact z
theorem pO {tk:Tok} {R:Result→Shared→Prop} (hC:h.get? C=some (excClassObj nm q C N bs (bmU U) true sn sub ab col dd k0 k1 k2 k3 k5 "Exception.__new__"))
  (hL:PySem.W.Looks (model prog w) h (typeLookup (.ref C) name) none)
  (hx:h.get? x=some o) (hc:o.cls = .ref C) (hnc:∀ c,o.data≠.cls c) (hdn:o.dict=some dx) (hns:h.Ns1 dx mA) (hv:mA name=some v) (z:R (.ok (.ret v)) ⟨h,g,d,t,os⟩) :
  codeAny (model prog w) A (.call (.builtin "BaseException.__getattribute__") ⟨[.ref x,.str name tk],[]⟩) R ⟨h,g,d,t,os⟩ :=
 codeAny_call_builtin PySem.F.attrBase_Exception.ga.plain PySem.F.entry_bexc_ga
  (@PySem.W.check_slot (model prog w) _ _ ⟨h,g,d,t,os⟩ "BaseException.__getattribute__" "BaseException" "__getattribute__" (.ref x) [.str name tk] [] _ (by decide +kernel) (by decide +kernel) (tf hC hx hc (by decide +kernel)) (PySem.F.args_bexc_ga (.ref x) (.str name tk))
   (oq hC hL hx hc hnc hdn hns hv z))
theorem tj {tk:Tok} {fill expr:Bool} {Q:Value→Shared→Prop} (hC:h.get? C=some (excClassObj nm q C N bs (bmU U) true sn sub ab col dd k0 k1 k2 k3 k5 "Exception.__new__"))
  (hL:PySem.W.Looks (model prog w) h (typeLookup (.ref C) name) none) (hL1:PySem.W.Looks (model prog w) h (typeLookup (.ref C) "__getattribute__") (some (.builtin "BaseException.__getattribute__"))) (hL2:PySem.W.Looks (model prog w) h (typeLookup (.ref C) "__getattr__") none)
  (hx:h.get? x=some o) (hc:o.cls = .ref C) (hnc:∀ c,o.data≠.cls c) (hdn:o.dict=some dx) (hns:h.Ns1 dx mA) (hv:mA name=some v) (hh:handedOut v=pure v) (z:Q v ⟨h,g,d,t,os⟩) :
  wpAny (model prog w) A (getAttrBy (.ref x) (.str name tk) fill expr) Q E ⟨h,g,d,t,os⟩:=by
 have f3:=PySem.F.attrBase_Exception.ga.bind (.ref x)
 have z0:(expr&&onTheHeap (Value.builtin "BaseException.__getattribute__"))=false:=by cases expr<;>rfl
 have z2:(Value.builtin "BaseException.__getattribute__"==Value.builtin "object.__getattribute__")=false:=by decide +kernel
 have z1:(onTheHeap (Value.ref C)&&Value.builtin "BaseException.__getattribute__"==Value.builtin "object.__getattribute__")=false:=by rw [z2];rfl
 repeat (any_goals (first
  | assumption
  | (with_reducible refine wpAny_loadPart_at hx ?_;rw [hc])
  | (with_reducible refine hL1.at ?_)
  | (with_reducible refine hL2.at ?_)
  | wp_step))
 refine pO hC hL hx hc hnc hdn hns hv ?_
 repeat (any_goals (first | assumption | wp_step))
 all_goals (first | (rw [hh];exact aM z) | exact z)
theorem pP {expr:Bool} {Q:Value→Shared→Prop} (hC:h.get? C=some (excClassObj nm q C N bs (bmU U) true sn sub ab col dd k0 k1 k2 k3 k5 "Exception.__new__"))
  (hL:PySem.W.Looks (model prog w) h (typeLookup (.ref C) name) none) (hL1:PySem.W.Looks (model prog w) h (typeLookup (.ref C) "__getattribute__") (some (.builtin "BaseException.__getattribute__"))) (hL2:PySem.W.Looks (model prog w) h (typeLookup (.ref C) "__getattr__") none)
  (hx:h.get? x=some o) (hc:o.cls = .ref C) (hnc:∀ c,o.data≠.cls c) (hdn:o.dict=some dx) (hns:h.Ns1 dx mA) (hv:mA name=some v) (hh:handedOut v=pure v) (z:Q v ⟨h,g,d,t+1,os⟩) :
  wpAny (model prog w) A (getAttr (.ref x) name expr) Q E ⟨h,g,d,t,os⟩:=by
 unfold getAttr;refine ag (wpAny_mkText ?_)
 exact tj hC hL hL1 hL2 hx hc hnc hdn hns hv hh z
end
section
variable {X:Cx} {pins:List (Addr×Obj)} {σ:St} {H:Hp} {s:Shared} {e C U fI dx:Addr} {v:V} {u:Value} {E:Value→Shared→Prop} {A:Around}
theorem vg {Q:Unit→Shared→Prop} (I:Inv X pins σ H s) (c:iF X.K U C fI) (he:H e=some (XE e C none)) (rv:b7 v u)
  (h:∀ dx s',H dx=none→dx≠e→Inv X pins σ (upd (upd H dx (XD dx [("answer",v)])) e (XE e C (some dx))) s'→Q () s'):wpAny (model X.prog X.w) A (setAttr (.ref e) "answer" u) Q E s:=by
 obtain ⟨nm,q,N,bs,sn,sub,ab,col,dd,k0,k1,k2,k3,k5,lC⟩:=c.ob
 have hC:=I.kIn _ _ lC
 obtain ⟨o,vs,ho,hc,hd,hdat,h1⟩:=oa I.hok he
 have hnc:∀ c,o.data≠.cls c:=fun c z=>by rw [hdat] at z;cases z
 have KX:=I.kIn
 obtain ⟨hh,gg,dr,tt,oo⟩:=s
 refine pN (PySem.W.looks_findIn KX c.sa) ho hc fun A R tk t' hR=>?_
 refine pM hC ho hc fun A T E' hT=>?_
 refine om hC (PySem.W.looks_findIn KX c.an) ho hc hd hnc fun h' tk' e1 e2 e3=>hT _ (hR _ ?_)
 have hfr:H hh.objs.size=none:=I.hok.fresh (aI _)
 have nes:hh.objs.size≠e:=fun z=>by rw [z,he] at hfr;cases hfr
 refine h hh.objs.size _ hfr nes ?_
 have nE:∀ b w,H b=some w→(∀ φ,w≠.ext φ)→b≠e:=fun b w q nw=>fb q he (nw _)
 have nS:∀ b w,H b=some w→b≠hh.objs.size:=fun b w q=>af q hfr
 have at_:∀ b w,H b=some w→(∀ φ,w≠.ext φ)→upd (upd H hh.objs.size (XD hh.objs.size [("answer",v)])) e (XE e C (some hh.objs.size)) b=some w:=fun b w q nw=>by
  rw [aa (nE b w q nw),aa (nS b w q)];exact q
 have un:Un X.fs [] H (upd (upd H hh.objs.size (XD hh.objs.size [("answer",v)])) e (XE e C (some hh.objs.size))) hh h':=by
  refine ⟨fun b w q n _ _=>e3 b w (fun z=>by rw [z,he] at n;cases n) q,fun b w q n _ _=>⟨w.slots,e3 b w (fun z=>by rw [z,he] at n;cases n) q⟩,fun b w q n _=>?_,fun b w q _=>?_,
   fun b xs q=>at_ b _ q (fun _ z=>nomatch z),fun b w xs q=>at_ b _ q (fun _ z=>nomatch z),fun b ps q=>⟨#[],by rw [at_ b _ q (fun _ z=>nomatch z)];simp⟩⟩
  ·rw [aa (fun z=>by rw [z,he] at n;cases n),aa (bt (aV q))];exact n
  ·by_cases z:b=e
   ·exact ⟨_,by rw [z];exact e1⟩
   ·exact ⟨w,e3 b w z q⟩
 refine I.un (h':=h') un fun b w q=>?_
 by_cases z:b=e
 ·subst z;rw [au] at q;cases q;exact qz e1 hc rfl hdat h1
 ·rw [aa z] at q;by_cases z2:b=hh.objs.size
  ·subst z2;rw [au] at q;cases q;refine sS e2 (fun g=>?_) fun g hg=>?_
   ·show gc (List.lookup g [("answer",v)]) (if g = "answer" then some u else none)
    by_cases y:g = "answer"
    ·have hb:(g==("answer" : Str))=true:=beq_iff_eq.mpr y
     simp only [List.lookup,hb,ao y];exact rv
    ·have hb:(g==("answer" : Str))=false:=aQ.mpr y
     simp only [List.lookup,hb,ah y];trivial
   ·by_cases y:g = "answer"
    ·simp [y]
    ·exact aP (show (if g = "answer" then some u else none)=none from ah y) hg
  ·rw [aa z2] at q;refine (I.hok b w q).stay (fun b' v' hc' r=>e3 b' v' ?_ r) (fun b' r=>at_ b' _ r (fun _ z=>nomatch z)) fun b' xs r=>at_ b' _ r (fun _ z=>nomatch z)
   rcases hc' with y | y
   ·rw [y];exact z
   ·exact nE b' _ y (fun _ z=>nomatch z)
theorem wR {Q:Value→Shared→Prop} {b:Bool} (I:Inv X pins σ H s) (c:iF X.K U C fI) (he:H e=some (XL e C dx)) (hd:H dx=some (XD dx [("answer",v)]))
  (h:∀ u s',Inv X pins σ H s'→b7 v u→Q u s'):wpAny (model X.prog X.w) A (getAttr (.ref e) "answer" b) Q E s:=by
 obtain ⟨nm,q,N,bs,sn,sub,ab,col,dd,k0,k1,k2,k3,k5,lC⟩:=c.ob
 have hC:=I.kIn _ _ lC
 obtain ⟨o,vs,ho,hc,hdo,hdat⟩:=xl_of I.hok he
 obtain ⟨mA,n1,rl,wi⟩:=wo I.hok hd
 have hnc:∀ c,o.data≠.cls c:=fun c z=>by rw [hdat] at z;cases z
 obtain ⟨u,hu,ru⟩:=gc.some_of (v:=v) (o:=mA "answer") (rl "answer")
 have KX:=I.kIn
 obtain ⟨hh,gg,dr,tt,oo⟩:=s
 exact pP hC (PySem.W.looks_findIn KX c.an) (PySem.W.looks_findIn KX c.ga) (PySem.W.looks_findIn KX c.gr) ho hc hnc hdo n1 hu (PySem.W.handedOut_of (mD ru)) (h u _ (I.tok _) ru)
end
section
variable {X:Cx} {U:Addr} {o value e:Expr} {pos pos':Pos} {ta tv:TE}
def sU1 (K:Fg_) (U:Addr) (ta tv:TE):TS:=fun D σ H=>tv σ H fun y H1=>ta σ H1 fun x H2=>∃ e C fI,x = .ref e∧iF K U C fI∧H2 e=some (XE e C none)∧∀ dx,H2 dx=none→dx≠e→D.nx σ (upd (upd H2 dx (XD dx [("answer",y)])) e (XE e C (some dx)))
def tUf (K:Fg_) (U:Addr) (ta:TE):TE:=fun σ H Q=>ta σ H fun x H1=>∃ e C fI dx v,x = .ref e∧iF K U C fI∧H1 e=some (XL e C dx)∧H1 dx=some (XD dx [("answer",v)])∧Q v H1
theorem ps_u1 (ha:PE X o ta) (hv:PE X value tv) (hs:swapsWith value (some (.Attribute o "answer" pos')) pos.line X.env=pure false):PS X (.Assign [.Attribute o "answer" pos'] value pos) (sU1 X.K U ta tv):=by
 intro pins s σ H D I h;refine plainObj_wpAny_Assign_Attribute (thn (hv pins s σ H _ I h) fun u s1 ⟨y,H1,I1,ry,q⟩=>thn (ha pins s1 σ H1 _ I1 q) fun ov s2 ⟨x,H2,I2,rx,a,C,fI,ex,c,ea,q2⟩=>?_) hs
 subst ex;obtain rfl:ov=Value.ref a:=rx
 exact vg I2 c ea ry fun dx s3 n ne I3=>⟨σ,_,I3,q2 dx n ne⟩
theorem pe_uf {K:Fg_} (hK:X.K=K) (he:PE X e ta) (hb:attributeBase e "answer" X.env (eval e X.env)=eval e X.env):PE X (.Attribute e "answer" pos) (tUf K U ta):=by
 subst hK;intro pins s σ H Q I h;refine rC hb (thn (he pins s σ H _ I h) fun u s1 ⟨x,H1,I1,rx,a,C,fI,dx,v,ex,c,ea,ed,q⟩=>?_)
 subst ex;obtain rfl:u=Value.ref a:=rx
 exact wR I1 c ea ed fun u' s2 I2 ru=>⟨v,H1,I2,ru,q⟩
end
section
variable {X:Cx} {CX:CXT} {k:Nat} {f U:Addr} {fd:FuncData} {ps:List Str} {sp:Sp} {dvs:List V} {ds:List Value} {E:XK} {x m:Str} {p pos apos:Pos} {e:Expr} {es:List Expr} {t:TA}
structure u6 (K:Fg_) (U:Addr) (m:Str) (f:Addr):Prop where
 rd:PySem.W.readsIn K U (.type "type")=true
 fc:PySem.W.findCls K (.ref U) (.type "type") m=some (.val (.ref f))
 sg:PySem.W.specialIn K (.ref U) "__getattribute__" = some (some (.builtin "type.__getattribute__"))
 kp:PySem.W.keepIn K (.ref f)=true
theorem vI {pl:Sem Bool} (hg:Gl X x) (hm:X.mg x=some (.ref U)) (c:u6 X.K U m f) (F:bK X.prog X.w X.K X.mg X.base CX k f fd ps sp) (hr:cB k X.A) (hb:bT X.K fd ps ds) (hd:cg dvs ds) (hx:gC CX X E) (ha:PA X (e::es) t)
  (hdb:(x==("__debug__" : Str))=false:=by decide) (hst:starEach (e::es) X.env=(false,eval e X.env)::starEach es X.env:=by rfl) (hpl:(backTo pos (starEach es X.env)).any (·.1)=false:=by rfl)
  (ht:eval (.Call (.Attribute (.Name x p) m apos) (e::es) [] pos) X.env=(do
   let ov ←eval (.Name x p) X.env
   standAt apos.atName
   let (f,first) ←holding [ov] (getMethod ov m pl)
   callWith pos f first (backTo pos (starEach (e::es) X.env)) (backToKw pos (keywordEach [] X.env))):=by rfl) :
  PE X (.Call (.Attribute (.Name x p) m apos) (e::es) [] pos) (tG sp dvs E t):=by
 intro pins s σ H Q I h;refine PySem.W.methodCall_KW (pl:=pl) (gL I hg hm ?_ hdb) ht
 refine PySem.W.method_cls I.kIn c.sg (PySem.W.cls_value I.kIn c.rd c.fc rfl ?_)
 refine PySem.W.callWith_K (first:=[]) (h₀:=X.base) I.ok.mod.kin c.kp (thn (ha pos pins _ σ H _ (I.tok _) h) fun us s2 ⟨vs,H2,I2,r,q2⟩=>⟨I2.kIn,?_⟩) hst hpl
 exact m8 (us:=us) F hr hb hd hx I2 r q2
end
def yX (E:XK) (C:Addr) (ans:List V):Prop:=∀ H' dx a,H' dx=some (XD dx [("answer",.ref a)])→H' a=some (.lst ans)→E (.ref C) (some dx) H'
def jL (C:Addr) (n:Nat) (ans:List V→List V):Sp:=fun vs H Q _=>∃ e rest,vs = .ref e::rest∧rest.length=n∧H e=some (XE e C none) ∧
 ∀ dx a H',dx≠e→H' e=some (XE e C (some dx))→H' dx=some (XD dx [("answer",.ref a)])→H' a=some (.lst (ans rest))→Q .non H'
def vB (C:Addr) (E:XK) (n:Nat) (ans:List V→List V) (t:TA):TS:=fun _ σ H=>t σ H fun vs _=>vs.length=n∧yX E C (ans vs)
def wI (X:Cx) (U C:Addr) (v:Value) (s1:Shared):Prop:=∃ (e:Addr) (nm q:Str) (N:Addr) (bs:List Value) (sn:List Str) (sub:List Value) (ab:Bool) (col:Option Bool) (dd:Option Addr) (k0 k1 k2 k3 k5:Option Value) (o:Obj) (vs:Array Value),
 v = .ref e∧s1.heap.get? C=some (excClassObj nm q C N bs (bmU U) true sn sub ab col dd k0 k1 k2 k3 k5 "Exception.__new__")∧s1.heap.get? e=some o∧o.cls = .ref C∧o.data = .fields vs∧vs[1]? = some .none∧X.xe (.ref e) s1
section
variable {X:Cx} {U C fI:Addr} {fd:FuncData} {x:Str} {np cpos pos:Pos} {a:Expr} {E:XK} {t:TA} {k n:Nat} {ps:List Str} {ans:List V→List V}
theorem rT {s:Shared} {m:Sem Value} {Q:Flow→Shared→Prop} (hh:X.A.handled=none) (h:wpAny (model X.prog X.w) X.A m (wI X U C) X.xe s) :
  wpAny (model X.prog X.w) X.A (raiseStmt X.env (some m) none) Q X.xe s:=by
 have hcB:=kH (C:=C) (U:=U) (T:="BaseException") (by decide +kernel)
 unfold raiseStmt;refine ag (wpAny_mono h (fun v s1 h1=>?_) fun _ _ z=>z)
 obtain ⟨e,nm,q,N,bs,sn,sub,ab,col,dd,k0,k1,k2,k3,k5,o,vs,rfl,hC,he,hc,hd,hv,hE⟩:=h1
 obtain ⟨hp,g,d,tk,os⟩:=s1
 repeat (first
  | (with_reducible refine wpAny_loadPart_at he ?_;rw [hc])
  | (with_reducible refine wpAny_loadPart_at he ?_)
  | with_reducible refine wpAny_loadPart_at hC ?_
  | (with_reducible refine wpAny_isSubtype_exc hC ?_;rw [hcB])
  | with_reducible refine wpAny_field he hd hv ?_
  | wp_step)
 exact wpAny_raiseNew_none hh hE
theorem p5 {pins:List (Addr×Obj)} {σ:St} {H1:Hp} {s1:Shared} {us:List Value} {vs:List V} {Qv:Value→Shared→Prop} (c:iF X.K U C fI) (F:bK X.prog X.w X.K X.mg X.base CX0 k fI fd ps (jL C n ans)) (hbi:bT X.K fd ps []) (hps:ps.length=n+1)
  (hr:cB (k+1) X.A) (hfl:lU X E) (hxx:X.ex=[]) (I1:Inv X pins σ H1 s1) (r:cg vs us) (hn:vs.length=n) (hsz:us.length≤sizeLine) (q:yX E C (ans vs)) (hQ:∀ v s',wI X U C v s'→Qv v s') :
  wpAny (model X.prog X.w) X.A (call (.ref C) us) Qv X.xe s1:=by
 obtain ⟨nm,q',N,bs,sn,sub,ab,col,dd,k0,k1,k2,k3,k5,lC⟩:=c.ob
 have KX:=I1.kIn
 have hC:=KX _ _ lC
 have fn:=c.fn
 unfold PySem.W.isFn at fn;have fn2:=beq_iff_eq.mp fn
 unfold PySem.W.typeIn at fn2;obtain ⟨oI,hoI,hcI⟩:=fL.mp fn2
 obtain ⟨hh,gg,dr,tt,oo⟩:=s1
 refine wU hC (PySem.W.looks_findIn KX c.ini) (KX _ _ hoI) hcI (fun h' e md=>?_) hsz
 obtain ⟨tu,e1,e2,e3⟩:=md.there
 have he:H1 e=none:=by
  cases z:H1 e with
  | none=>rfl
  | some w =>
   obtain ⟨oz,hz⟩:=jr (I1.hok e w z)
   rw [md.new] at hz;cases hz
 have y:kl X pins e:=j8 I1 hxx md.new
 have I2:Inv X pins σ (upd H1 e (XE e C none)) ⟨h',gg,dr,tt,oo⟩ :=
  j9 (I1.kept (h':=h') (t':=tt) md.keeps) y he (qz e1 rfl rfl rfl rfl)
 have hsp:jL C n ans (.ref e::vs) (upd H1 e (XE e C none)) (fun v H'=>v = .non∧∃ dx a,dx≠e∧H' e=some (XE e C (some dx))∧H' dx=some (XD dx [("answer",.ref a)])∧H' a=some (.lst (ans vs))) E0 :=
  ⟨e,vs,rfl,hn,au,fun dx a H' z1 z2 z3 z4=>⟨rfl,dx,a,z1,z2,z3,z4⟩⟩
 have hl:(Value.ref e::us).length=ps.length:=by rw [aE,←r.length,hn,hps]
 refine wpAny_call (codeAny_mono (F.run _ X.stack _ _ ⟨.ref e::us,[]⟩ (.ref e::us) (.ref e::vs) _ _ (hr.make C us []) (I2.env0.make C us []) ?_ (.cons rfl r) hsp) fun r s' hq=>?_)
 ·have:=hbi ⟨h',gg,dr,tt,oo⟩ (.ref e::us) I2.kIn (by rw [dw];exact hl)
  rw [dw] at this;exact this
 ·cases r with
  | error x=>exact hq.elim
  | ok fl =>
   cases fl with
   | next=>exact False.elim hq
   | brk=>exact False.elim hq
   | cont=>exact False.elim hq
   | ret u =>
    obtain ⟨v,H',I3,rv,ev,dx,a,z1,z2,z3,z4⟩:=I2.after hq
    subst ev;refine ⟨rv,hQ _ _ ?_⟩
    obtain ⟨o,vs,ho,hc,hd,hdat,h1⟩:=oa I3.hok z2
    refine ⟨e,nm,q',N,bs,sn,sub,ab,col,dd,k0,k1,k2,k3,k5,o,vs,rfl,I3.kIn _ _ lC,ho,hc,hdat,h1,?_⟩
    exact hfl pins σ (lV H' e) s' e C dx (pG I3 z2) (.inl ⟨o,vs,ho,hc,hd,hdat,h1⟩) iZ y (q _ dx a (by rw [fY z1];exact z3) (by rw [fY (fb z4 z2 (by intro y;cases y))];exact z4))
theorem dW (c:iF X.K U C fI) (F:bK X.prog X.w X.K X.mg X.base CX0 k fI fd ps (jL C n ans)) (hbi:bT X.K fd ps []) (hps:ps.length=n+1) (hr:cB (k+1) X.A) (hfl:lU X E) (hxx:X.ex=[]) (hg:Gl X x) (hm:X.mg x=some (.ref C))
  (ha:PA X [a] t) (hn:n≤100) (hdb:(x==("__debug__" : Str))=false:=by decide) (hst:starEach [a] X.env=(false,eval a X.env)::starEach [] X.env:=by rfl) (hpl:(backTo cpos (starEach [] X.env)).any (·.1)=false:=by rfl) :
  PS X (.Raise (some (.Call (.Name x np) [a] [] cpos)) none pos) (vB C E n ans t):=by
 intro pins s σ H D I h;rw [arm_exec_Raise];refine ag (wpAny_standAt (rT (U:=U) (C:=C) hr.hd (ag (m:=eval (.Call (.Name x np) [a] [] cpos) X.env) ?_)))
 refine wpAny_Call_Name_kw (gL I hg hm ?_ hdb)
 refine PySem.W.callWith_K (h₀:=X.base) I.ok.mod.kin c.kp (thn (ha cpos pins s σ H _ I h) fun us s1 ⟨vs,H1,I1,r,hv,q⟩=>⟨I1.kIn,?_⟩) hst hpl
 refine p5 c F hbi hps hr hfl hxx I1 r hv (by rw [fh,←r.length,hv,sizeLine_eq];omega) q fun v s' z=>?_
 exact ag (wpAny_standAt (aM z))
end
structure yU (K:Fg_) (CF U C:Addr):Prop where
 no:PySem.W.exmOne K (.ref C) (.ref CF)=some false
 yes:PySem.W.exmOne K (.ref C) (.ref U)=some true
def w2 (X:Cx) (CF U:Addr) (i:Nat) (ts1 ts2:TS) (D:ie):XK:=fun c od H'=>(c = .ref CF∧ts1 (Rt D) (gh X) H') ∨
 ∃ C dx,c = .ref C∧yU X.K CF U C∧od=some dx∧∀ e,H' e=none→ts2 (Rt D) ((gh X).set i (some (.ref e))) (upd H' e (XL e C dx))
def tTry2 (X:Cx) (CF U:Addr) (i:Nat) (tb:XK→TS) (ts1 ts2:TS):TS:=fun D σ H=>tb (w2 X CF U i ts1 ts2 D) D σ H
section
variable {X:Cx} {CF U fI:Addr} {x1 x2 n:Str} {np1 np2 hpos1 hpos2 pos:Pos} {body:List Stmt} {b1 b2:Stmt} {suite1 suite2:List Stmt} {tb:XK→TS} {ts1 ts2:TS} {i:Nat}
theorem qI {x:Str} {np hpos:Pos} {e C T dx:Addr} {b:Bool} {pins:List (Addr×Obj)} {σ:St} {H:Hp} {s:Shared} {R:Result→Shared→Prop} (hx:PySem.W.exmOne X.K (.ref C) (.ref T)=some b) (hg:Gl X x) (hm:X.mg x=some (.ref T)) (hdb:(x==("__debug__" : Str))=false)
  (I:Inv X pins σ H s) (ld:iX s.heap e C dx) (h:R (.ok (if b=true then .brk else .next)) s):codeAny (model X.prog X.w) (X.A.mark (some (.ref e))) (.handlers (.ref e) [.ExceptHandler (some (.Name x np)) none [] hpos] X.env) R s:=by
 refine codeAny_handlers_test (gL (X:=Xm X (.ref e) fun _ _=>False) (nL I) hg hm ?_ hdb)
 obtain ⟨o,vs,T',oT,tss,he,hc,hdx,hd,h1,hTe,hT,hdT,h3⟩:=ld
 have LT:PySem.W.Looks (model X.prog X.w) s.heap (typeOf (.ref e)) (.ref C):=by
  have:=(PySem.W.Looks.ld (M:=model X.prog X.w) (part:=none) he).andThen (f:=fun o=>pure o.cls) (b:=o.cls) .now
  rw [hc] at this;exact this
 exact (PySem.W.exm_one I.kIn LT hx).here h
theorem vV {D:ie} {pins:List (Addr×Obj)} (c:j6 X.K CF fI) (hg1:Gl X x1) (hm1:X.mg x1=some (.ref CF)) (hg2:Gl X x2) (hm2:X.mg x2=some (.ref U)) (hdb1:(x1==("__debug__" : Str))=false) (hdb2:(x2==("__debug__" : Str))=false)
  (hf:X.env.frame=some X.env.locals) (hst:∃ outer,X.stack=X.env::outer) (hN:X.N.Nodup) (hi:X.N[i]? = some n) (hl:X.env.scope.names.lookup n=some .local)
  (hs1:∀ v,PSs (Xm X v fun _ _=>False) (b1::suite1) ts1) (hs2:∀ v,PSs (Xm X v fun _ _=>False) (b2::suite2) ts2) :
  lU (Xt X (X.pn++pins) (txe X pins D [.ExceptHandler (some (.Name x1 np1)) none (b1::suite1) hpos1,.ExceptHandler (some (.Name x2 np2)) (some n) (b2::suite2) hpos2])) (w2 X CF U i ts1 ts2 D):=by
 intro pins' σ H s e C' dx I0 fl hn y q
 have I:=iR I0
 obtain ⟨outer,hst⟩:=hst
 have hfr:X.A.frames=some (X.env::outer):=by rw [←hst];exact I.ok.frames
 have hfun:s.heap.FunFrames X.base (X.env::outer):=by rw [←hst];exact I.stack
 refine pb hfr hfun hf fl fun h' ld k=>?_
 rw [←hst] at k;have y':=pJ y
 have I1:Inv X pins (gh X) H { s with heap:=h' }:=qk (pH I hn y' k)
 rcases q with ⟨ec,q⟩ | ⟨C,dx',ec,sub,ed,q⟩
 ·cases ec;refine wpAny_handleBy_cons (tD c hg1 hm1 hdb1 I1 ld ?_) (by intro z;cases z)
  refine codeAny_handlers_suite (jD ld ?_)
  refine wpAny_mono (hs1 (.ref e) pins _ (gh X) H (Rt D) (nL I1) q) (fun f s2 z=>?_) fun _ _ z=>z.elim
  exact rO I.ok z
 ·cases ec;cases ed;refine wpAny_handleBy_cons (qI sub.no hg1 hm1 hdb1 I1 ld ?_) (by intro z;cases z)
  refine wpAny_handleBy_cons (qI sub.yes hg2 hm2 hdb2 I1 ld ?_) (by intro z;cases z)
  refine codeAny_handlers_suite_as (jD ld ?_)
  obtain ⟨o,vs,T,oT,tss,he,hc,hdx,hd,h1,_⟩:=ld
  have I2:Inv X pins (gh X) (upd H e (XL e C' dx)) { s with heap:=h' }:=j9 I1 y' hn (xl_ok he hc hdx hd)
  refine ju (X:=Xm X (.ref e) fun _ _=>False) (v:=.ref e) (nL I2) hN hi (.inl hl) rfl (fun s3 I3=>?_) (.inr hl)
  refine wpAny_mono (hs2 (.ref e) pins _ _ _ (Rt D) I3 (q e hn)) (fun f s2 z=>?_) fun _ _ z=>z.elim
  show wpAny _ _ _ _ _ _
  cases f with
  | next=>obtain ⟨_,_,_,z⟩:=z;exact z.elim
  | brk=>obtain ⟨_,_,_,z⟩:=z;exact z.elim
  | cont=>obtain ⟨_,_,_,z⟩:=z;exact z.elim
  | ret u =>
   obtain ⟨v,σ4,H4,I4,rv,z⟩:=z
   have I5:=qW I.ok I4
   obtain ⟨m,hm4,_⟩:=id I5.loc
   have hcls:(X.env.scope.kind==.class||(X.env.scope.kind==.module&&X.env.locals != X.env.globals))=false:=by rw [I.ok.kind];rfl
   exact wpAny_nameGoes hl hm4 hcls fun h5 m5 n5 sb5=>⟨v,gh X,H4,qj I5 n5 sb5,rv,z⟩
theorem vF (c:j6 X.K CF fI) (hg1:Gl X x1) (hm1:X.mg x1=some (.ref CF)) (hg2:Gl X x2) (hm2:X.mg x2=some (.ref U)) (hf:X.env.frame=some X.env.locals) (hst:∃ outer,X.stack=X.env::outer) (hN:X.N.Nodup) (hi:X.N[i]? = some n) (hl:X.env.scope.names.lookup n=some .local)
  (hb:∀ pn xe E,lU (Xt X pn xe) E→PSs (Xt X pn xe) body (tb E)) (hs1:∀ v,PSs (Xm X v fun _ _=>False) (b1::suite1) ts1) (hs2:∀ v,PSs (Xm X v fun _ _=>False) (b2::suite2) ts2)
  (hdb1:(x1==("__debug__" : Str))=false:=by decide) (hdb2:(x2==("__debug__" : Str))=false:=by decide) :
  PS X (.Try body [.ExceptHandler (some (.Name x1 np1)) none (b1::suite1) hpos1,.ExceptHandler (some (.Name x2 np2)) (some n) (b2::suite2) hpos2] [] [] pos) (tTry2 X CF U i tb ts1 ts2):=by
 intro pins s σ H D I h;refine wpAny_Try_except (wpAny_mono (hb _ _ _ (vV (pins:=pins) (D:=D) c hg1 hm1 hg2 hm2 hdb1 hdb2 hf hst hN hi hl hs1 hs2) [] s σ H D (uy I) h) (fun f s1 z=>?_) fun e s1 z=>z)
 have z':=uO I.ok z
 cases f with
 | next=>exact wpAny_execs_nil z'
 | brk=>exact z'
 | cont=>exact z'
 | ret u=>exact z'
end
section
variable {M:Model} {A:Around} {E E':Value→Shared→Prop} {s:Shared}
end
section
variable {X:Cx} {pins:List (Addr×Obj)} {σ:St} {H:Hp} {s:Shared} {e C dx T:Addr} {E:XK}
end
section
variable {X:Cx}
end
end L2.XC
namespace L2
open PySem PySem.Spec PyProof.Rows
section
variable {κ:Type} [DecidableEq κ]
def eT (kvs:List (κ×V)) (k:κ):Option V:=(kvs.find? fun kv=>decide (kv.1=k)).map (·.2)
def fG (kvs:List (κ×V)) (k:κ) (v:V):List (κ×V) :=
 if (kvs.any fun kv=>decide (kv.1=k))=true then kvs.map (fun kv=>if kv.1=k then (kv.1,v) else kv) else kvs++[(k,v)]
theorem dP {p:κ×V} {r:List (κ×V)} {k:κ} (e:p.1=k):eT (p::r) k=some p.2:=by simp [eT,eF,e]
theorem ee {p:κ×V} {r:List (κ×V)} {k:κ} (e:¬p.1=k):eT (p::r) k=eT r k:=by simp [eT,eF,e]
theorem g0 (k:κ):∀ kvs:List (κ×V),(kvs.any fun kv=>decide (kv.1=k))=(eT kvs k).isSome
 | []=>rfl
 | p::r=>by
  rw [f7];by_cases e:p.1=k
  ·simp only [dP e,aq e,Bool.true_or,Option.isSome_some]
  ·rw [ee e,ax e,Bool.false_or];exact g0 k r
theorem oh (k j:κ) (y:V):∀ kvs:List (κ×V),eT (kvs.map fun kv=>if kv.1=k then (kv.1,y) else kv) j=(eT kvs j).map fun x=>if j=k then y else x
 | []=>rfl
 | p::r=>by
  have ih:=oh k j y r
  rw [ba];by_cases h:p.1=k
  ·rw [ao h];by_cases e:p.1=j
   ·rw [dP (p:=(p.1,y)) e,dP e,fg,ao (e.symm.trans h)]
   ·rw [ee (p:=(p.1,y)) e,ee e,ih]
  ·rw [ah h];by_cases e:p.1=j
   ·rw [dP (p:=p) e,dP e,fg,ah (fun z=>h (e.trans z))]
   ·rw [ee (p:=p) e,ee e,ih]
theorem l8 (k j:κ) (y:V):∀ kvs:List (κ×V),eT kvs k=none→eT (kvs++[(k,y)]) j=if j=k then some y else eT kvs j
 | [],_=>by
  by_cases e:k=j
  ·rw [ao e.symm];exact dP (p:=(k,y)) e
  ·rw [ah (fun z=>e z.symm)];exact ee (p:=(k,y)) e
 | p::r,hn=>by
  rw [c9];have hk:¬p.1=k:=fun z=>by rw [dP z] at hn;cases hn
  rw [ee hk] at hn;have ih:=l8 k j y r hn
  by_cases e:p.1=j
  ·rw [dP e,dP e,ah (fun z=>hk (e.trans z))]
  ·rw [ee e,ee e,ih]
theorem kM (kvs:List (κ×V)) (k j:κ) (y:V):eT (fG kvs k y) j=if j=k then some y else eT kvs j:=by
 unfold fG;by_cases a:(kvs.any fun kv=>decide (kv.1=k))=true
 ·rw [ao a,oh];rw [g0] at a;by_cases e:j=k
  ·obtain ⟨x,hx⟩:=Option.isSome_iff_exists.mp a
   rw [ao e,e,hx,fg,ao rfl]
  ·rw [ah e];cases eT kvs j with
   | none=>rfl
   | some x=>rw [fg,ah e]
 ·rw [ah a];refine l8 k j y kvs ?_
  rw [g0] at a;cases q:eT kvs k with
  | none=>rfl
  | some x=>rw [q] at a;exact (a rfl).elim
theorem gK (kvs:List (κ×V)) (k:κ) (v:V):(fG kvs k v).length≤kvs.length+1:=by
 unfold fG;split
 ·rw [ae];omega
 ·rw [aG,aE,dO];omega
theorem oQ {kvs:List (κ×V)} {k:κ} (v:V) (h:eT kvs k=none):fG kvs k v=kvs++[(k,v)]:=by
 unfold fG;rw [g0,h];exact ah (by decide)
theorem gc.isSome_eq {o:Option V} {u:Option Value} (r:gc o u):o.isSome=u.isSome:=by
 cases o with
 | none=>cases u with
  | none=>rfl
  | some _=>exact (show False from r).elim
 | some _=>cases u with
  | none=>exact (show False from r).elim
  | some _=>rfl
theorem gc.getD {o:Option V} {u:Option Value} {d:V} {d':Value} (r:gc o u) (rd:b7 d d'):b7 (o.getD d) (u.getD d'):=by
 cases o with
 | none=>cases u with
  | none=>exact rd
  | some _=>exact (show False from r).elim
 | some _=>cases u with
  | none=>exact (show False from r).elim
  | some _=>exact r
theorem KV.val {kvs:List (κ×V)} {vs:List (κ×Value)} (r:KV kvs vs) (k:κ):gc (eT kvs k) (valueAt vs k):=by
 unfold KV at r;induction r with
 | nil=>exact True.intro
 | @cons p q ps qs h t ih =>
  obtain ⟨h1,h2⟩:=h
  by_cases e:p.1=k
  ·have e':q.1=k:=h1.symm.trans e
   have b:valueAt (q::qs) k=some q.2:=by simp [valueAt,eF,e']
   rw [dP e,b];exact h2
  ·have e':¬q.1=k:=fun z=>e (h1.trans z)
   have b:valueAt (q::qs) k=valueAt qs k:=by simp [valueAt,eF,e']
   rw [ee e,b];exact ih
theorem KV.any {kvs:List (κ×V)} {vs:List (κ×Value)} (r:KV kvs vs) (k:κ):(kvs.any fun kv=>decide (kv.1=k))=vs.any fun kv=>decide (kv.1=k):=by
 unfold KV at r;induction r with
 | nil=>rfl
 | cons h t ih=>rw [f7,f7,ih,h.1]
theorem KV.repl {kvs:List (κ×V)} {vs:List (κ×Value)} (r:KV kvs vs) (k:κ) {y:V} {u:Value} (ry:b7 y u) :
  KV (kvs.map fun kv=>if kv.1=k then (kv.1,y) else kv) (vs.map fun kv=>if kv.1=k then (kv.1,u) else kv):=by
 unfold KV at r ⊢;induction r with
 | nil=>exact .nil
 | @cons p q ps qs h t ih =>
  rw [ba,ba];refine .cons ?_ ih
  obtain ⟨h1,h2⟩:=h
  by_cases e:p.1=k
  ·rw [ao e,ao (h1.symm.trans e)];exact ⟨h1,ry⟩
  ·rw [ah e,ah (fun z=>e (h1.trans z))];exact ⟨h1,h2⟩
theorem KV.put {kvs:List (κ×V)} {vs:List (κ×Value)} (r:KV kvs vs) (k:κ) {y:V} {u:Value} (ry:b7 y u):KV (fG kvs k y) (stored vs k u):=by
 unfold fG stored;rw [r.any k];by_cases e:(vs.any fun kv=>decide (kv.1=k))=true
 ·rw [ao e,ao e];exact r.repl k ry
 ·rw [ah e,ah e];exact Paired.snoc r ⟨rfl,ry⟩
theorem KV.length {kvs:List (κ×V)} {vs:List (κ×Value)} (r:KV kvs vs):kvs.length=vs.length:=Paired.length r
end
theorem mz {P:Program} {w:World} {k:Key} {u:Value} (r:b7 (kV k) u):(dt P w).is k u=true:=by
 cases k with
 | inl i=>obtain ⟨t,e⟩:=(show ∃ t,u=Value.int i t from r);subst e;exact o2 P w i t
 | inr x=>obtain ⟨t,e⟩:=(show ∃ t,u=Value.str x t from r);subst e;exact iN P w x t
theorem mC {P:Program} {w:World}:∀ {ks:List Key} {us:List Value},cg (ks.map kV) us→ItemsAre (dt P w) ks us
 | [],_,r=>by rw [List.map_nil] at r;cases r;exact .nil
 | k::ks,_,r=>by
  rw [ba] at r;cases r with
  | cons h t=>exact .cons (mz h) (mC t)
abbrev KT (H:Hp):List (List Key×V)→List (List Key×Addr×Value)→Prop:=Paired fun p q=>p.1=q.1∧H q.2.1=some (.tup (p.1.map kV))∧b7 p.2 q.2.2
theorem KT.val {H:Hp} {kvs:List (List Key×V)} {xs:List (List Key×Addr×Value)} (r:KT H kvs xs) (k:List Key):gc (eT kvs k) ((atKey xs k).map (·.2)):=by
 induction r with
 | nil=>exact True.intro
 | @cons p q ps qs h t ih =>
  obtain ⟨h1,_,h2⟩:=h
  by_cases e:p.1=k
  ·have e':q.1=k:=h1.symm.trans e
   have b:atKey (q::qs) k=some q.2:=by simp [atKey,eF,e']
   rw [dP e,b];exact h2
  ·have e':¬q.1=k:=fun z=>e (h1.trans z)
   have b:atKey (q::qs) k=atKey qs k:=by simp [atKey,eF,e']
   rw [ee e,b];exact ih
theorem KT.repl {H:Hp} {kvs:List (List Key×V)} {xs:List (List Key×Addr×Value)} (r:KT H kvs xs) (k:List Key) {y:V} {u:Value} (ry:b7 y u) :
  KT H (kvs.map fun kv=>if kv.1=k then (kv.1,y) else kv) (xs.map (putAt k u)):=by
 induction r with
 | nil=>exact .nil
 | @cons p q ps qs h t ih =>
  rw [ba,ba];refine .cons ?_ ih
  obtain ⟨h1,h2,h3⟩:=h
  unfold putAt;by_cases e:p.1=k
  ·rw [ao e,ao (h1.symm.trans e)];exact ⟨h1,h2,ry⟩
  ·rw [ah e,ah (fun z=>e (h1.trans z))];exact ⟨h1,h2,h3⟩
theorem KT.put {H:Hp} {kvs:List (List Key×V)} {xs:List (List Key×Addr×Value)} (r:KT H kvs xs) (k:List Key) {b:Addr} {y:V} {u:Value} (hb:H b=some (.tup (k.map kV))) (ry:b7 y u) :
  KT H (fG kvs k y) (storedH xs k b u):=by
 have e:(kvs.any fun kv=>decide (kv.1=k))=(atKey xs k).isSome:=by
  rw [g0,(r.val k).isSome_eq,gS]
 unfold fG storedH;rw [e];by_cases q:(atKey xs k).isSome=true
 ·rw [ao q,ao q];exact r.repl k ry
 ·rw [ah q,ah q];exact Paired.snoc r ⟨rfl,hb,ry⟩
theorem KT.keeps {H H':Hp} {kvs:List (List Key×V)} {xs:List (List Key×Addr×Value)} (r:KT H kvs xs) (ht:∀ b ys,H b=some (.tup ys)→H' b=some (.tup ys)):KT H' kvs xs :=
 Paired.mapP r fun _ _ z=>⟨z.1,ht _ _ z.2.1,z.2.2⟩
section
variable {P:Program} {w:World} {H:Hp} {h:Heap} {a:Addr}
theorem wA {u:HO} (ok:HOk P w H h) (e:Rd H a u):du P w H h a u:=e.ok ok
theorem mI {kvs:List (Key×V)} (ok:HOk P w H h) (e:Rd H a (.dK kvs)):kvs.length≤sizeLine∧(a==sysModules)=false∧∃ vs,KV kvs vs∧h.DictOf (dt P w) a vs :=
 show du P w H h a (.dK kvs) from wA ok e
theorem dk_of {kvs:List (Key×V)} (ok:HOk P w H h) (e:H a=some (.dK kvs)):kvs.length≤sizeLine∧(a==sysModules)=false∧∃ vs,KV kvs vs∧h.DictOf (dt P w) a vs:=mI ok (.inl e)
theorem lB {ks:List Key} (ok:HOk P w H h) (e:H a=some (.tup (ks.map kV))):(tupleKind (dt P w)).is h ks a:=by
 obtain ⟨_,its,r,o,h1,h2,n,h3⟩:=(show du P w H h a (.tup (ks.map kV)) from ok a _ e)
 exact ⟨o,its.toArray,n,h1,h2,h3,by simpa using mC r⟩
theorem mH {kvs:List (List Key×V)} (ok:HOk P w H h) (e:Rd H a (.dT kvs)):kvs.length≤sizeLine∧(a==sysModules)=false ∧
  ∃ xs,KT H kvs xs∧h.DictOfH (tupleKind (dt P w)) a xs:=by
 obtain ⟨z,y,xs,r,o,es,ep,h1,h2,h3,h4,h5⟩:=(show du P w H h a (.dT kvs) from wA ok e)
 refine ⟨z,y,xs,r,o,es,ep,h1,h2,h3,h4,fun x hx=>?_,h5⟩
 have all:∀ {l:List (List Key×V)} {m:List (List Key×Addr×Value)},KT H l m→∀ x∈m,(tupleKind (dt P w)).is h x.1 x.2.1:=by
  intro l m q;induction q with
  | nil=>intro x hx;exact nomatch hx
  | @cons p q ps qs hq t ih =>
   intro x hx;rcases aF.mp hx with e | hx
   ·subst e;exact lB ok (by rw [←hq.1];exact hq.2.1)
   ·exact ih x hx
 exact all r x hx
theorem dt_of {kvs:List (List Key×V)} (ok:HOk P w H h) (e:H a=some (.dT kvs)):kvs.length≤sizeLine∧(a==sysModules)=false ∧
  ∃ xs,KT H kvs xs∧h.DictOfH (tupleKind (dt P w)) a xs:=mH ok (.inl e)
end
def jq (H:Hp) (a:Addr) (y:V) (r:Option V):Prop :=
 (∃ kvs k,Rd H a (.dK kvs)∧y=kV k∧r=eT kvs k)∨∃ kvs k b,Rd H a (.dT kvs)∧y = .ref b∧H b=some (.tup (k.map kV))∧r=eT kvs k
def lZ (H:Hp) (a:Addr) (y v:V) (H':Hp):Prop :=
 (∃ kvs k,H a=some (.dK kvs)∧y=kV k∧kvs.length<sizeLine∧H'=upd H a (.dK (fG kvs k v))) ∨
 ∃ kvs k b,H a=some (.dT kvs)∧y = .ref b∧H b=some (.tup (k.map kV))∧kvs.length<sizeLine∧H'=upd H a (.dT (fG kvs k v))
theorem jq.k {H:Hp} {a:Addr} {kvs:List (Key×V)} {k:Key} (e:H a=some (.dK kvs)):jq H a (kV k) (eT kvs k):=.inl ⟨kvs,k,.inl e,rfl,rfl⟩
theorem jq.t {H:Hp} {a b:Addr} {kvs:List (List Key×V)} {k:List Key} (e:H a=some (.dT kvs)) (eb:H b=some (.tup (k.map kV))):jq H a (.ref b) (eT kvs k):=.inr ⟨kvs,k,b,.inl e,rfl,eb,rfl⟩
theorem lZ.k {H:Hp} {a:Addr} {kvs:List (Key×V)} {k:Key} {v:V} (e:H a=some (.dK kvs)) (hl:kvs.length<sizeLine):lZ H a (kV k) v (upd H a (.dK (fG kvs k v))):=.inl ⟨kvs,k,e,rfl,hl,rfl⟩
theorem lZ.t {H:Hp} {a b:Addr} {kvs:List (List Key×V)} {k:List Key} {v:V} (e:H a=some (.dT kvs)) (eb:H b=some (.tup (k.map kV))) (hl:kvs.length<sizeLine) :
  lZ H a (.ref b) v (upd H a (.dT (fG kvs k v))):=.inr ⟨kvs,k,b,e,rfl,eb,hl,rfl⟩
section
variable {X:Cx} {pins:List (Addr×Obj)} {σ:St} {H:Hp} {s:Shared} {a:Addr} {y v:V} {u r:Value} {o:Option V} {A:Around} {E:Value→Shared→Prop}
theorem Inv.big (I:Inv X pins σ H s):sysModules<s.heap.objs.size:=by
 have h:mainGlobals<s.heap.objs.size:=(I.mod.glob.keeps I.bk).lt
 exact Nat.lt_trans (by decide) h
theorem sL {Q:Value→Shared→Prop} (hu:A.units+1<cLine) (I:Inv X pins σ H s) (g:jq H a y (some v)) (ry:b7 y u) (h:∀ w' s',Inv X pins σ H s'→b7 v w'→Q w' s') :
  wpAny (model X.prog X.w) A (getItem (.ref a) u) Q E s:=by
 rcases g with ⟨kvs,k,e,ey,l⟩ | ⟨kvs,k,b,e,ey,eb,l⟩
 ·subst ey;obtain ⟨z,hd,vs,rel,dd⟩:=mI I.hok e
  obtain ⟨w',hw,rw'⟩:=gc.some_of (v:=v) (o:=valueAt vs k) (by rw [l];exact rel.val k)
  exact wpAny_getItem_of (mz ry) dd.mapOf hw (h w' _ (I.tok _) rw')
 ·subst ey;cases (show u=Value.ref b from ry)
  obtain ⟨z,hd,xs,rel,dd⟩:=mH I.hok e
  obtain ⟨w',hw,rw'⟩:=gc.some_of (v:=v) (o:=(atKey xs k).map (·.2)) (by rw [l];exact rel.val k)
  obtain ⟨p,hp,hp2⟩:=fL.mp hw
  refine wpAny_getItem_heap (tupleKind_room_in1 hu) (lB I.hok eb) dd hp ?_
  rw [hp2];exact h w' _ (I.tok _) rw'
theorem vY {Q:Value→Shared→Prop} (hu:A.units+1<cLine) (I:Inv X pins σ H s) (g:jq H a y o) (ry:b7 y u) (h:∀ s',Inv X pins σ H s'→Q (.bool (!o.isSome)) s') :
  wpAny (model X.prog X.w) A (compareOp .NotIn u (.ref a)) Q E s:=by
 rcases g with ⟨kvs,k,e,ey,l⟩ | ⟨kvs,k,b,e,ey,eb,l⟩
 ·subst ey;obtain ⟨z,hd,vs,rel,dd⟩:=mI I.hok e
  refine wpAny_notIn_of (mz ry) hd dd.mapOf ?_
  rw [←(rel.val k).isSome_eq,←l];exact h _ (I.tok _)
 ·subst ey;cases (show u=Value.ref b from ry)
  obtain ⟨z,hd,xs,rel,dd⟩:=mH I.hok e
  refine wpAny_notIn_heap (tupleKind_room_in1 hu) (lB I.hok eb) hd dd ?_
  have q:=(rel.val k).isSome_eq
  rw [gS] at q;rw [←q,←l];exact h _ (I.tok _)
theorem rA {h':Heap} {t':Nat} {ob:HO} (I:Inv X pins σ H s) (mu:Mut (H a)) (hs:Heap.SameBut a s.heap h') (he:∃ q,h'.get? a=some q) (new:du X.prog X.w (upd H a ob) h' a ob) :
  Inv X pins σ (upd H a ob) { s with heap:=h',toks:=t' } :=
 I.write (x:=a) (e:=a) mu (.inl rfl) (fun b q hb z=>(hs.2 b hb).trans z) he new
theorem yN {P:Program} {w:World} {H':Hp} {h':Heap} {kvs:List (Key×V)} {vs:List (Key×Value)} (z:kvs.length≤sizeLine) (hd:(a==sysModules)=false) (rel:KV kvs vs) (dd:h'.DictOf (dt P w) a vs) :
  du P w H' h' a (.dK kvs):=⟨z,hd,vs,rel,dd⟩
theorem sJ {H':Hp} {Q:Unit→Shared→Prop} (hu:A.units+1<cLine) (I:Inv X pins σ H s) (g:lZ H a y v H') (ry:b7 y u) (rv:b7 v r) (h:∀ s',Inv X pins σ H' s'→Q () s') :
  wpAny (model X.prog X.w) A (setItem (.ref a) u r) Q E s:=by
 rcases g with ⟨kvs,k,e,ey,l,eH⟩ | ⟨kvs,k,b,e,ey,eb,l,eH⟩
 ·subst ey eH;obtain ⟨z,hd,vs,rel,dd⟩:=dk_of I.hok e
  have hz:vs.length≤sizeLine:=by rw [←rel.length];exact z
  have hl:(fG kvs k v).length≤sizeLine:=by have:=gK kvs k v;omega
  refine wpAny_setItem_pairs (hsz:=hz) (mz ry) dd fun h' dd' hs=>h _ ?_
  have he:∃ q,h'.get? a=some q:=let ⟨q,_,_,hq,_⟩:=dd';⟨q,hq⟩
  exact rA I (by rw [e];exact True.intro) hs he (yN hl hd (rel.put k rv) dd')
 ·subst ey eH;cases (show u=Value.ref b from ry)
  obtain ⟨z,hd,xs,rel,dd⟩:=dt_of I.hok e
  have hz:xs.length≤sizeLine:=by rw [←Paired.length rel];exact z
  have hl:(fG kvs k v).length≤sizeLine:=by have:=gK kvs k v;omega
  refine wpAny_setItem_heap (hsz:=hz) (tupleKind_room_in1 hu) (lB I.hok eb) dd fun h' dd' hs=>h _ ?_
  obtain ⟨q,es,ep,hq,h2,h3,h4,_,h5⟩:=dd'
  refine rA I (by rw [e];exact True.intro) hs ⟨q,hq⟩ ⟨hl,hd,_,(rel.put k eb rv).keeps fun c ys ec=>?_,q,es,ep,hq,h2,h3,h4,h5⟩
  rw [aa (fb ec e (fun z=>nomatch z))]
  exact ec
end
section
variable {X:Cx} {pins:List (Addr×Obj)} {σ:St} {H:Hp} {s:Shared} {a:Addr} {kvs:List (Key×V)} {k:Key} {u:Value} {A:Around} {E:Value→Shared→Prop}
end
def yW (i:Expr):Prop:=∀ ov iv,subscripted i false ov iv=operate [ov,iv] (getItem ov iv)
theorem qK {prog:Program} {w:World} {A:Around} {E:Value→Shared→Prop} {s:Shared} {env:Env} {value slice:Expr} {pos:Pos} {T id:String} {Q:Value→Shared→Prop}
  (hl:typeLookup (.type T) "__getitem__" = pure (some (.builtin id))) (hs:yW slice)
  (h:wpAny (model prog w) A (eval value env) (fun o s₁=>wpAny (model prog w) A (eval slice env) (fun i s₂=>s₂.TypeIs o T∧wpAny (model prog w) A (getItem o i) Q E s₂) E s₁) E s) :
  wpAny (model prog w) A (eval (.Subscript value slice pos) env) Q E s:=by
 refine Subscript_ (wpAny_mono h (fun o s₁ h₁=>wpAny_mono h₁ (fun i s₂ h₂=>?_) fun _ _ x=>x) fun _ _ x=>x)
 obtain ⟨hT,h₂⟩:=h₂
 unfold subscriptTail;refine ag ?_
 rw [getitemInPython_of_ne hT.not_modules];refine ag (wpAny_specialOf hT hl ?_)
 have fin:wpAny (model prog w) A (subscripted slice false o i) (fun r s₃=>wpAny (model prog w) A (letTemporaryGo value o r >>= fun _=>pure r) Q E s₃) E s₂:=by
  rw [hs o i];exact wpAny_operating (wpAny_mono h₂ (fun r s₃ h₃=>ag (wpAny_letTemporaryGo (aM h₃))) fun _ _ x=>x)
 first
  | exact aM (ag fin)
  | exact ag (aM (ag fin))
  | exact ag fin
theorem pd {X:Cx} {pins:List (Addr×Obj)} {σ:St} {H:Hp} {s:Shared} {a:Addr} {y:V} {o:Option V} (I:Inv X pins σ H s) (g:jq H a y o):s.TypeIs (.ref a) "dict":=by
 rcases g with ⟨kvs,k,e,_,_⟩ | ⟨kvs,k,b,e,_,_,_⟩
 ·obtain ⟨_,_,vs,_,dd⟩:=mI I.hok e
  exact dd.typeIs
 ·obtain ⟨_,_,xs,_,dd⟩:=mH I.hok e
  exact dd.typeIs
def tDGet (td ty:TE):TE:=fun σ H Q=>td σ H fun x H1=>ty σ H1 fun y H2=>∃ a v,x = .ref a∧jq H2 a y (some v)∧Q v H2
def vh (ty td:TE):TE:=fun σ H Q=>ty σ H fun y H1=>td σ H1 fun x H2=>∃ a o,x = .ref a∧jq H2 a y o∧Q (.bl (!o.isSome)) H2
def sDPut (td ty tv:TE):TS:=fun D σ H=>tv σ H fun v H1=>td σ H1 fun x H2=>ty σ H2 fun y H3=>∃ a H4,x = .ref a∧lZ H3 a y v H4∧D.nx σ H4
section
variable {X:Cx} {o i e value:Expr} {pos pos' tpos:Pos} {td ty tv:TE}
theorem nv (hu:X.A.units+1<cLine) (ho:PE X o td) (hi:PE X i ty) (hs:yW i):PE X (.Subscript o i pos) (tDGet td ty):=by
 intro pins s σ H Q I h;refine qK PySem.F.slot_dict_getitem.lookup hs (thn (ho pins s σ H _ I h) fun u s1 ⟨x,H1,I1,rx,q1⟩=>thn (hi pins s1 σ H1 _ I1 q1) fun iv s2 ⟨y,H2,I2,ry,a,v,ex,g,q2⟩=>?_)
 subst ex;obtain rfl:u=Value.ref a:=rx
 exact ⟨pd I2 g,sL hu I2 g ry fun w' s3 I3 rw'=>⟨v,H2,I3,rw',q2⟩⟩
theorem rY (hu:X.A.units+1<cLine) (hi:PE X i ty) (ho:PE X o td):PC X .NotIn i o (vh ty td):=by
 intro pins s σ H Q I h;refine thn (hi pins s σ H _ I h) fun iv s1 ⟨y,H1,I1,ry,q1⟩=>thn (ho pins s1 σ H1 _ I1 q1) fun u s2 ⟨x,H2,I2,rx,a,ov,ex,g,q2⟩=>?_
 subst ex;obtain rfl:u=Value.ref a:=rx
 exact vY hu I2 g ry fun s3 I3=>⟨.bl (!ov.isSome),H2,I3,rfl,q2⟩
theorem kz (hu:X.A.units+1<cLine) (ho:PE X o td) (hi:PE X i ty) (hv:PE X value tv) (hs:swapsWith value (some (.Subscript o i pos')) pos.line X.env=pure false) :
  PS X (.Assign [.Subscript o i pos'] value pos) (sDPut td ty tv):=by
 intro pins s σ H D I h;refine wpAny_Assign_Subscript (thn (hv pins s σ H _ I h) fun r s1 ⟨v,H1,I1,rv,q1⟩=>thn (ho pins s1 σ H1 _ I1 q1) fun u s2 ⟨x,H2,I2,rx,q2⟩=>thn (hi pins s2 σ H2 _ I2 q2) fun iv s3 ⟨y,H3,I3,ry,a,H4,ex,g,q3⟩=>?_) hs
 subst ex;obtain rfl:u=Value.ref a:=rx
 exact sJ hu I3 g ry rv fun s4 I4=>⟨σ,H4,I4,q3⟩
end
theorem uJ {P:Program} {w:World} {H:Hp} (h:Heap) (hb:sysModules<h.objs.size):du P w H (h.push { cls:=.type "dict",data:=.dict #[] }) h.objs.size (.dK []) :=
 ⟨a8 _,aQ.mpr (aN (bt hb)),[],.nil,Heap.DictOf.new h⟩
theorem uI {P:Program} {w:World} {H:Hp} (h:Heap) (hb:sysModules<h.objs.size):du P w H (h.push { cls:=.type "dict",data:=.dict #[] }) h.objs.size (.dT []) :=
 ⟨a8 _,aQ.mpr (aN (bt hb)),[],.nil,_,#[],0,aW _ rfl,⟨rfl,rfl,rfl⟩,rfl,rfl,gF⟩
def xj:TE:=fun _ H Q=>∀ p,H p=none→Q (.ref p) (upd H p (.dK []))
def xi:TE:=fun _ H Q=>∀ p,H p=none→Q (.ref p) (upd H p (.dT []))
section
variable {X:Cx} {pos:Pos}
theorem oW:PE X (.Dict [] [] pos) xj:=fun pins s σ H Q I h =>
 wpAny_Dict_empty ⟨.ref s.heap.objs.size,_,I.laid (a:=s.heap.objs.size) (o:=.dK []) (t':=s.toks) (fun _ _ q=>aK _ q) (aI _) (uJ s.heap I.big),rfl,h _ (I.hok.fresh (aI _))⟩
theorem oU:PE X (.Dict [] [] pos) xi:=fun pins s σ H Q I h =>
 wpAny_Dict_empty ⟨.ref s.heap.objs.size,_,I.laid (a:=s.heap.objs.size) (o:=.dT []) (t':=s.toks) (fun _ _ q=>aK _ q) (aI _) (uI s.heap I.big),rfl,h _ (I.hok.fresh (aI _))⟩
end
structure M2 (X:Cx) (o:Expr) (m:Str) (apos:Pos) (e f:Expr) (cpos:Pos):Prop where
 base:attributeBase o m X.env (eval o X.env)=eval o X.env
 few:((backTo cpos (starEach [e,f] X.env)).all (fun x=>!x.1)&&(backToKw cpos (keywordEach [] X.env)).all (fun x=>x.1.isSome)
  && decide (([e,f]:List Expr).length+([]:List Keyword).length+(if ([]:List Keyword).isEmpty then 0 else 1)<30))=true
 line:(apos.endLine==cpos.line)=true
 trees:backTo cpos (starEach [e,f] X.env)=[(false,eval e X.env),(false,eval f X.env)]
def IsD (H:Hp) (a:Addr):Prop:=(∃ kvs,Rd H a (.dK kvs))∨∃ kvs,Rd H a (.dT kvs)
theorem yH {X:Cx} {pins:List (Addr×Obj)} {σ:St} {H:Hp} {s:Shared} {a:Addr} (I:Inv X pins σ H s) (d:IsD H a) :
  s.TypeIs (.ref a) "dict"∧(∀ b,Value.ref a = .ref b→∃ ob,s.heap.get? b=some ob∧ob.dict=none)∧(a==sysModules)=false:=by
 rcases d with ⟨kvs,e⟩ | ⟨kvs,e⟩
 ·obtain ⟨_,hd,vs,_,dd⟩:=mI I.hok e
  refine ⟨dd.typeIs,fun b q=>?_,hd⟩
  cases q;obtain ⟨ob,_,_,h1,h2,_⟩:=dd
  exact ⟨ob,h1,h2.2.1⟩
 ·obtain ⟨_,hd,xs,_,dd⟩:=mH I.hok e
  refine ⟨dd.typeIs,fun b q=>?_,hd⟩
  cases q;obtain ⟨ob,_,_,h1,h2,_⟩:=dd
  exact ⟨ob,h1,h2.2.1⟩
section
variable {X:Cx} {pins:List (Addr×Obj)} {σ:St} {H:Hp} {s:Shared} {a:Addr} {y d:V} {u r:Value} {o:Option V} {A:Around} {E:Value→Shared→Prop}
theorem yO {Q:Value→Shared→Prop} (hu:A.units+1<cLine) (I:Inv X pins σ H s) (g:jq H a y o) (ry:b7 y u) (rd:b7 d r) (h:∀ w' s',Inv X pins σ H s'→b7 (o.getD d) w'→Q w' s') :
  wpAny (model X.prog X.w) A (call (.builtin "dict.get") [.ref a,u,r]) Q E s:=by
 rcases g with ⟨kvs,k,e,ey,l⟩ | ⟨kvs,k,b,e,ey,eb,l⟩
 ·subst ey;obtain ⟨z,hd,vs,rel,dd⟩:=mI I.hok e
  refine call_meetsIn PySem.F.slot_dict_get dd.typeIs PySem.F.entry_dict_get (PySem.F.args_dict_get_3 _ _ _) (meets_dict_get_default (dt X.prog X.w) a (mz ry) hd r) ⟨_,dd.mapOf,h _ _ (I.tok _) ?_⟩
  rw [l];exact (rel.val k).getD rd
 ·subst ey;cases (show u=Value.ref b from ry)
  obtain ⟨z,hd,xs,rel,dd⟩:=mH I.hok e
  refine call_meetsIn PySem.F.slot_dict_get dd.typeIs PySem.F.entry_dict_get (PySem.F.args_dict_get_3 _ _ _) (meetsH_dict_get_default (tupleKind (dt X.prog X.w)) a b hd r) ⟨tupleKind_room_in1 hu,k,xs,lB I.hok eb,dd,h _ _ (I.tok _) ?_⟩
  rw [l];exact (rel.val k).getD rd
end
def xl (td ty tx:TE):TE:=fun σ H Q=>td σ H fun x H1=>∃ a,x = .ref a∧IsD H1 a∧ty σ H1 fun y H2=>tx σ H2 fun z H3=>∃ o,jq H3 a y o∧Q (o.getD z) H3
section
variable {X:Cx} {o e f:Expr} {apos cpos:Pos} {td ty tx:TE}
theorem t5 (hu:X.A.units+1<cLine) (ho:PE X o td) (he:PE X e ty) (hf:PE X f tx) (m:M2 X o "get" apos e f cpos):PE X (.Call (.Attribute o "get" apos) [e,f] [] cpos) (xl td ty tx):=by
 intro pins s σ H Q I h;refine wpAny_Call_method m.base m.few m.line PySem.F.plainAttrs_dict PySem.F.slot_dict_get PySem.F.type_dict_get (thn (ho pins s σ H _ I h) fun u s1 ⟨x,H1,I1,rx,a,ex,d,q1⟩=>?_)
 subst ex;obtain rfl:u=Value.ref a:=rx
 obtain ⟨t1,t2,_⟩:=yH I1 d
 refine ⟨t1,t2,?_⟩
 rw [m.trees];refine Calls.callWith_builtin rfl (Calls.evalArgs_plain (Calls.spliced_cons (thn (he pins s1 σ H1 _ I1 q1) fun iv s2 ⟨y,H2,I2,ry,q2⟩ =>
  Calls.spliced_cons (thn (hf pins s2 σ H2 _ I2 q2) fun fv s3 ⟨z,H3,I3,rz,ov,g,q3⟩=>Calls.spliced_nil ?_))))
 exact yO hu I3 g ry rz fun w' s4 I4 rw'=>⟨_,H3,I4,rw',q3⟩
end
section
variable {X:Cx} {pins:List (Addr×Obj)} {σ:St} {H:Hp} {s:Shared} {a:Addr} {kvs:List (Key×V)} {A:Around} {E:Value→Shared→Prop}
end
section
variable {X:Cx} {pins:List (Addr×Obj)} {σ:St} {H:Hp} {s:Shared} {a:Addr} {y:V} {u:Value} {A:Around} {E:Value→Shared→Prop}
end
theorem yC {κ:Type} {kvs:List (κ×V)} {vs:List (κ×Value)} (h:KV kvs vs):∀ {i:Nat} {k:κ} {v:V},kvs[i]? = some (k,v)→∃ u,vs[i]? = some (k,u)∧b7 v u:=by
 unfold KV at h;induction h with
 | nil=>intro i k v e;simp at e
 | @cons a b l₁ l₂ r t ih =>
  intro i k v e;cases i with
  | zero =>
   simp only [fE,Option.some.injEq] at e;subst e;refine ⟨b.2,?_,r.2⟩
   simp only [fE];exact congrArg some (Prod.ext r.1.symm rfl)
  | succ j =>
   simp only [fF] at e ⊢;exact ih e
theorem qb {α β:Type} {G:α→β→Prop} {l₁:List α} {l₂:List β} (h:Paired G l₁ l₂):∀ {i:Nat} {a:α},l₁[i]? = some a→∃ b,l₂[i]? = some b∧G a b:=by
 induction h with
 | nil=>intro i a e;simp at e
 | @cons a b l₁ l₂ r t ih =>
  intro i a' e
  cases i with
  | zero =>
   simp only [fE,Option.some.injEq] at e;subst e;exact ⟨b,rfl,r⟩
  | succ j =>
   simp only [fF] at e ⊢;exact ih e
theorem tU {k:Key} {u:Value} (h:ki k u=true):b7 (kV k) u:=by
 rcases dD h with ⟨i,t,rfl,rfl⟩ | ⟨x,t,rfl,rfl⟩
 ·exact ⟨t,rfl⟩
 ·exact ⟨t,rfl⟩
section
variable {prog:Program} {w:World} {A:Around} {E:Value→Shared→Prop} {s:Shared}
theorem sv {d:Addr} {o:Obj} {es:Array DictEntry} {ep:Nat} {Q:Value→Shared→Prop} (hd:(d==sysModules)=false) (ho:s.heap.get? d=some o) (hc:o.ExactDict) (hdat:o.data = .dict es ep)
  (hQ:Q (.ref s.heap.objs.size) { s with heap:=s.heap.push { cls:=.type "dict_keyiterator",data:=.fields #[.ref d,.int 0 0,.int es.size 0,.int ep 0] } }) :
  wpAny (model prog w) A (pyIter (.ref d)) Q E s:=by
 have hT:s.TypeIs (.ref d) "dict":=⟨o,ho,hc.1⟩
 refine wpAny_pyIter_slot hT F.slot_dict_iter (wpAny_call_entry F.slot_dict_iter hT F.entry_dict_iter ?_ (F.args_dict_iter_1 _))
 unfold Builtin.«dict.__iter__»
 refine ag ?_
 unfold Builtin.Dict.dictSlotNone;refine ag (wpAny_notOrdered_dict hT ?_)
 show wpAny _ _ (pure (Value.ref d)) _ _ s
 refine aM ?_
 show wpAny _ _ (Builtin.Dict.showsAll d >>= _) _ _ s
 unfold Builtin.Dict.showsAll;rw [ah (by rw [hd];exact aS)]
 refine ag (aM ?_)
 refine ag (wpAny_dictEntries ho hdat ?_)
 refine ag (wpAny_dictEpoch ho hdat ?_)
 refine ag (wpAny_newObj_type (aM ⟨_,rfl,"dict_keyiterator",_,⟨_,aW _ rfl,rfl⟩,F.slot_dict_keyiterator_next.lookup,?_⟩))
 simpa [rawInt] using hQ
theorem nF {it d:Addr} {i n ep:Nat} {od:Obj} {es:Array DictEntry} {Q:Option Value→Shared→Prop} (hh:A.handled=none) (hit:s.heap.IsKeyIter it d i n ep) (hod:s.heap.get? d=some od) (hdd:od.data = .dict es ep)
  (hsz:es.size=n) (hge:n≤i) (hQ:∀ h',Heap.ExtBut it s.heap h'→Q none { s with heap:=h' }):wpAny (model prog w) A (pyNext (.ref it)) Q E s:=by
 obtain ⟨o,ho,hc,hd⟩:=id hit
 unfold pyNext;refine ag (wpAny_attempt (wpAny_callSpecial?_slot (name:=Str.ofString "__next__") hit.typeIs F.slot_dict_keyiterator_next
  (wpAny_call_entry F.slot_dict_keyiterator_next hit.typeIs F.entry_dict_keyiterator_next ?_ (F.args_dict_keyiterator_next_1 _))))
 refine ag (aM ?_)
 refine ag ?_
 refine ag ?_
 first | refine ag (wpAny_typeNameOfWhole_keyiter hit.typeIs (aM ?_)) | refine ag (wpAny_typeNameOf_keyiter hit.typeIs (aM ?_))
 refine ag (wpAny_fieldsOf ho hd ?_)
 have hown:Builtin.Dict_items.ownsTuple "dict_keyiterator" = false:=by decide
 simp only [hown,b5,if_false];show wpAny _ _ (if (Value.ref d==Value.none)=true then _ else _) _ _ s
 rw [ah (show ¬((Value.ref d==Value.none)=true) from aS)];refine ag (aM ?_)
 refine ag (wpAny_dictEntries hod hdd ?_)
 rw [ah (by rw [hsz];simp)]
 refine ag (aM ?_)
 refine ag (wpAny_dictEpoch hod hdd ?_)
 rw [ah (by simp)]
 refine aM ?_
 have hge':es.size≤i:=by rw [hsz];exact hge
 simp only [show ¬((i:Int)<0) from by omega,if_false,dv,fS hge']
 refine ag ?_
 first | refine ag (wpAny_typeNameOfWhole_keyiter hit.typeIs (aM ?_)) | refine ag (wpAny_typeNameOf_keyiter hit.typeIs (aM ?_))
 show wpAny _ _ (setField (.ref it) 0 .none >>= _) _ _ s
 refine ag (wpAny_setField ho hd (by simp) ?_)
 show wpAny _ _ (newExc (.type "StopIteration") [] >>= _) _ _ _
 refine ag ?_
 simp only [newExc,newTuple];refine ag (wpAny_newObj_type ?_ (by size_fits))
 refine ag (m:=firstArgMember _ _) (wpAny_of_eq (a:=Value.none) (by first | rfl | (simp only [firstArgMember];rfl)) ?_)
 refine wpAny_newObj_type ?_ (by size_fits)
 simp only [raiseNew];refine ag (wpAny_handled ?_)
 rw [show A.in1.handled=none from hh];refine ag (aM (wpAny_throw ?_))
 refine ag (wpAny_isInstance (T:="StopIteration") (b:=true) ⟨_,aW _ rfl,rfl⟩ isSubtype_stop ?_)
 exact aM (hQ _ (((Heap.SameBut.update ..).extBut.push _).push _))
end
section
variable {prog:Program} {w:World} {A:Around} {E:Value→Shared→Prop} {s:Shared}
theorem lX {it d:Addr} {i n ep:Nat} {od:Obj} {es:Array DictEntry} {en:DictEntry} {Q:Option Value→Shared→Prop} (hit:s.heap.IsValIter it d i n ep) (hod:s.heap.get? d=some od) (hdd:od.data = .dict es ep)
  (hsz:es.size=n) (hx:es[i]? = some en) (hQ:∀ h',h'.IsValIter it d (i+1) n ep→Heap.SameBut it s.heap h'→Q (some en.val) { s with heap:=h' }):wpAny (model prog w) A (pyNext (.ref it)) Q E s:=by
 obtain ⟨o,ho,hc,hd⟩:=id hit
 unfold pyNext;refine ag (wpAny_attempt (wpAny_callSpecial?_slot (name:=Str.ofString "__next__") hit.typeIs F.slot_dict_valueiterator_next
  (wpAny_call_entry F.slot_dict_valueiterator_next hit.typeIs F.entry_dict_valueiterator_next ?_ (F.args_dict_valueiterator_next_1 _))))
 refine ag (aM ?_)
 refine ag ?_
 refine ag ?_
 first | refine ag (wpAny_typeNameOfWhole_valiter hit.typeIs (aM ?_)) | refine ag (wpAny_typeNameOf_valiter hit.typeIs (aM ?_))
 refine ag (wpAny_fieldsOf ho hd ?_)
 have hown:Builtin.Dict_items.ownsTuple "dict_valueiterator" = false:=by decide
 simp only [hown,b5,if_false];show wpAny _ _ (if (Value.ref d==Value.none)=true then _ else _) _ _ s
 rw [ah (show ¬((Value.ref d==Value.none)=true) from aS)];refine ag (aM ?_)
 refine ag (wpAny_dictEntries hod hdd ?_)
 rw [ah (by rw [hsz];simp)]
 refine ag (aM ?_)
 refine ag (wpAny_dictEpoch hod hdd ?_)
 rw [ah (by simp)]
 refine aM ?_
 obtain ⟨hlt',hen⟩:=bu.mp hx
 simp only [show ¬((i:Int)<0) from by omega,if_false,dv,cW hlt']
 refine ag ?_
 first | refine ag (wpAny_typeNameOfWhole_valiter hit.typeIs (aM ?_)) | refine ag (wpAny_typeNameOf_valiter hit.typeIs (aM ?_))
 refine ag (wpAny_isOneOf_valiter hit.typeIs ?_)
 show wpAny _ _ (setField (.ref it) 1 (rawInt ((i:Int)+1)) >>= _) _ _ s
 refine ag (wpAny_setField ho hd (by simp) ?_)
 have hit':(s.heap.update it (Obj.mapFields (·.setIfInBounds 1 (rawInt ((i:Int)+1))))).IsValIter it d (i+1) n ep :=
  ⟨_,Heap.get?_update_self _ ho (Obj.isFreed_of_fields (Obj.data_mapFields hd _)),(Obj.cls_mapFields ..).trans hc,by rw [Obj.data_mapFields hd];simp [rawInt]⟩
 refine ag (wpAny_holding ?_)
 refine ag (wpAny_isOneOf_valiter (s:={ s with heap:=s.heap.update it (Obj.mapFields (·.setIfInBounds 1 (rawInt ((i:Int)+1)))) }) hit'.typeIs ?_)
 show wpAny _ _ (Builtin.Dict_items.isOneOf (Value.ref it) ["dict_valueiterator","dict_reversevalueiterator"] >>= _) _ _ _
 refine ag (wpAny_isOneOf_valiter (s:={ s with heap:=s.heap.update it (Obj.mapFields (·.setIfInBounds 1 (rawInt ((i:Int)+1)))) }) hit'.typeIs ?_)
 show wpAny _ _ (pure es[i].val) _ _ _
 rw [hen];exact aM (aM ⟨_,rfl,aM (hQ _ hit' (Heap.SameBut.update ..))⟩)
theorem nA {it d:Addr} {i n ep:Nat} {od:Obj} {es:Array DictEntry} {Q:Option Value→Shared→Prop} (hh:A.handled=none) (hit:s.heap.IsValIter it d i n ep) (hod:s.heap.get? d=some od) (hdd:od.data = .dict es ep)
  (hsz:es.size=n) (hge:n≤i) (hQ:∀ h',Heap.ExtBut it s.heap h'→Q none { s with heap:=h' }):wpAny (model prog w) A (pyNext (.ref it)) Q E s:=by
 obtain ⟨o,ho,hc,hd⟩:=id hit
 unfold pyNext;refine ag (wpAny_attempt (wpAny_callSpecial?_slot (name:=Str.ofString "__next__") hit.typeIs F.slot_dict_valueiterator_next
  (wpAny_call_entry F.slot_dict_valueiterator_next hit.typeIs F.entry_dict_valueiterator_next ?_ (F.args_dict_valueiterator_next_1 _))))
 refine ag (aM ?_)
 refine ag ?_
 refine ag ?_
 first | refine ag (wpAny_typeNameOfWhole_valiter hit.typeIs (aM ?_)) | refine ag (wpAny_typeNameOf_valiter hit.typeIs (aM ?_))
 refine ag (wpAny_fieldsOf ho hd ?_)
 have hown:Builtin.Dict_items.ownsTuple "dict_valueiterator" = false:=by decide
 simp only [hown,b5,if_false];show wpAny _ _ (if (Value.ref d==Value.none)=true then _ else _) _ _ s
 rw [ah (show ¬((Value.ref d==Value.none)=true) from aS)];refine ag (aM ?_)
 refine ag (wpAny_dictEntries hod hdd ?_)
 rw [ah (by rw [hsz];simp)]
 refine ag (aM ?_)
 refine ag (wpAny_dictEpoch hod hdd ?_)
 rw [ah (by simp)]
 refine aM ?_
 have hge':es.size≤i:=by rw [hsz];exact hge
 simp only [show ¬((i:Int)<0) from by omega,if_false,dv,fS hge']
 refine ag ?_
 first | refine ag (wpAny_typeNameOfWhole_valiter hit.typeIs (aM ?_)) | refine ag (wpAny_typeNameOf_valiter hit.typeIs (aM ?_))
 show wpAny _ _ (setField (.ref it) 0 .none >>= _) _ _ s
 refine ag (wpAny_setField ho hd (by simp) ?_)
 show wpAny _ _ (newExc (.type "StopIteration") [] >>= _) _ _ _
 refine ag ?_
 simp only [newExc,newTuple];refine ag (wpAny_newObj_type ?_ (by size_fits))
 refine ag (m:=firstArgMember _ _) (wpAny_of_eq (a:=Value.none) (by first | rfl | (simp only [firstArgMember];rfl)) ?_)
 refine wpAny_newObj_type ?_ (by size_fits)
 simp only [raiseNew];refine ag (wpAny_handled ?_)
 rw [show A.in1.handled=none from hh];refine ag (aM (wpAny_throw ?_))
 refine ag (wpAny_isInstance (T:="StopIteration") (b:=true) ⟨_,aW _ rfl,rfl⟩ isSubtype_stop ?_)
 exact aM (hQ _ (((Heap.SameBut.update ..).extBut.push _).push _))
end
theorem sk (d:Addr):checkBuiltinCall "len" { pos:=[Value.ref d] }=pure ():=by
 first | rfl | kernel_rfl
section
variable {prog:Program} {w:World} {A:Around} {E:Value→Shared→Prop} {s:Shared}
theorem nU {d:Addr} {o:Obj} {es:Array DictEntry} {ep:Nat} {Q:Value→Shared→Prop} (hd:(d==sysModules)=false) (ho:s.heap.get? d=some o) (hc:o.ExactDict) (hdat:o.data = .dict es ep) (hz:(es.size:Int)<2 ^ 63)
  (hQ:∀ t k,Q (.int (es.size:Int) t) { s with toks:=k }):wpAny (model prog w) A (call (.builtin "len") [.ref d]) Q E s:=by
 have hT:s.TypeIs (.ref d) "dict":=⟨o,ho,hc.1⟩
 refine wpAny_call (codeAny_call_builtin (by decide +kernel) PySem.entry_len ?_)
 rw [sk];refine aM ?_
 unfold Builtin.len;refine ag ?_
 show wpAny _ _ (pure (Value.ref d)) _ _ s
 refine aM ?_
 refine ag (wpAny_callSpecial?_slot hT F.slot_dict_len (wpAny_call_entry F.slot_dict_len hT F.entry_dict_len ?_ (F.args_dict_len_1 _)))
 unfold Builtin.«dict.__len__»
 refine ag ?_
 unfold Builtin.Dict.dictSlotNone;refine ag (wpAny_notOrdered_dict hT ?_)
 show wpAny _ _ (pure (Value.ref d)) _ _ s
 refine aM ?_
 show wpAny _ _ (dictSize d >>= _) _ _ s
 unfold dictSize;refine ag ?_
 refine ag (wpAny_dictEntries ho hdat ?_)
 refine aM ?_
 unfold Builtin.Dict.pendingCount;rw [ah (by rw [hd];exact aS)]
 refine ag (aM ?_)
 unfold retInt;refine ag (wpAny_mkInt ?_)
 refine aM ⟨_,rfl,?_⟩
 dsimp only;refine ag (wpAny_holding ?_)
 unfold asIndex;refine ag ?_
 show wpAny _ _ (pure (some _)) _ _ _
 refine aM ?_
 refine aM ?_
 refine ag (wpAny_letGo ?_)
 rw [ah (by omega),ah (by omega)]
 refine ag (wpAny_mkInt ?_)
 refine aM ?_
 rw [show ((es.size:Int)+((0:Nat):Int))=(es.size:Int) by omega]
 exact hQ _ _
theorem pw {d:Addr} {o:Obj} {es:Array DictEntry} {ep:Nat} {Q:Value→Shared→Prop} (hd:(d==sysModules)=false) (ho:s.heap.get? d=some o) (hc:o.ExactDict) (hdat:o.data = .dict es ep)
  (hQ:Q (.ref s.heap.objs.size) { s with heap:=s.heap.push { cls:=.type "dict_values",data:=.fields #[.ref d] } }) :
  wpAny (model prog w) A (call (.builtin "dict.values") [.ref d]) Q E s:=by
 have hT:s.TypeIs (.ref d) "dict":=⟨o,ho,hc.1⟩
 refine wpAny_call_entry F.slot_dict_values hT F.entry_dict_values ?_ (F.args_dict_values_1 _)
 unfold Builtin.«dict.values»
 wp_delta
 refine ag ?_
 unfold Builtin.Dict.noArgs;refine ag (wpAny_notOrdered_dict hT ?_)
 show wpAny _ _ (pure d) _ _ s
 refine aM ?_
 unfold Builtin.Dict.showsAll;rw [ah (by rw [hd];exact aS)]
 refine ag (aM ?_)
 refine ag (wpAny_newObj_type (aM ⟨_,rfl,?_⟩))
 exact hQ
theorem su {v d:Addr} {o:Obj} {es:Array DictEntry} {ep:Nat} {Q:Value→Shared→Prop} (hv:s.heap.IsValuesView v d) (ho:s.heap.get? d=some o) (hc:o.ExactDict) (hdat:o.data = .dict es ep)
  (hQ:Q (.ref s.heap.objs.size) { s with heap:=s.heap.push { cls:=.type "dict_valueiterator",data:=.fields #[.ref d,.int 0 0,.int es.size 0,.int ep 0] } }) :
  wpAny (model prog w) A (pyIter (.ref v)) Q E s:=by
 obtain ⟨ov,hov,hcv,hdv⟩:=id hv
 have hT:s.TypeIs (.ref v) "dict_values":=⟨ov,hov,hcv⟩
 refine wpAny_pyIter_slot hT F.slot_dict_values_iter (wpAny_call_entry F.slot_dict_values_iter hT F.entry_dict_values_iter ?_ (F.args_dict_values_iter_1 _))
 unfold Builtin.«dict_values.__iter__»
 refine ag ?_
 show wpAny _ _ (pure (Value.ref v)) _ _ s
 refine aM ?_
 unfold Builtin.Dict_items.dictOf;refine ag ?_
 refine ag (wpAny_field hov hdv (x:=.ref d) (by simp) ?_)
 show wpAny _ _ (pure d) _ _ s
 refine aM ?_
 unfold Builtin.Dict_items.newIterator;refine ag ?_
 refine ag (wpAny_dictEntries ho hdat ?_)
 refine ag (wpAny_dictEpoch ho hdat ?_)
 have hown:Builtin.Dict_items.ownsTuple "dict_valueiterator" = false:=by decide
 simp only [hown,b5,if_false];refine wpAny_newObj_type (aM ⟨_,rfl,"dict_valueiterator",_,⟨_,aW _ rfl,rfl⟩,F.slot_dict_valueiterator_next.lookup,?_⟩)
 simpa [rawInt] using hQ
theorem sY {r d:Addr} {o:Obj} {es:Array DictEntry} {ep:Nat} (hx:o.ExactDict) (hdt:o.data = .dict es ep):PySem.W.KdlSrc prog w "dict_values" r d es.size (fun i v=>∃ en,es[i]? = some en∧v=en.val) (fun h=>h.IsValuesView r d∧h.get? d=some o) where
 type:=fun s ⟨⟨ov,h1,h2,_⟩,_⟩=>⟨ov,h1,h2⟩
 there:=fun h ⟨⟨ov,h1,_⟩,h2⟩=>⟨aV h1,aV h2⟩
 keep:=fun h h' ⟨⟨ov,h1,h2⟩,h3⟩ k=>⟨⟨ov,k r (.inl rfl) _ h1,h2⟩,k d (.inr rfl) _ h3⟩
 notList:=by decide
 notTuple:=by decide
 hint:=fun A E s Q ⟨⟨ov,h1,h2,_⟩,_⟩ q=>PySem.W.kdl_hint_values ⟨ov,h1,h2⟩ q
 iter:=fun A s hh ⟨hv,hd⟩=>by
  refine ⟨{ cls:=.type "dict_valueiterator",data:=.fields #[.ref d,.int 0 0,.int es.size 0,.int ep 0] },fun i h=>h.IsValIter s.heap.objs.size d i es.size ep∧h.get? d=some o,fun E Q q=>su hv hd hx hdt q,?_,?_⟩
  ·have hne:d≠s.heap.objs.size:=bt (aV hd)
   exact {
    sub:=fun b hb=>by simp at hb;simp [hb]
    frame:=fun i h h' ⟨h1,h2⟩ k=>⟨h1.at fun oi e=>k _ (by simp) oi e,k d (by simp) _ h2⟩
    item:=fun i s' Q E hi ⟨h1,h2⟩ q=>by
     obtain ⟨en,hen⟩:∃ en,es[i]? = some en:=⟨es[i],cW hi⟩
     refine lX h1 h2 hdt rfl hen fun h' st sb=>?_
     exact q en.val h' s'.toks ⟨en,hen,rfl⟩ ⟨st,(sb.2 d hne).trans h2⟩ (fun b ob hb e=>(sb.2 b (by simpa using hb)).trans e)
    done:=fun s' Q E ⟨h1,h2⟩ q=>nA hh h1 h2 hdt rfl (aI _) fun h' eb=>q h' s'.toks (fun b ob hb e=>eb b ob (by simpa using hb) e)
    self:=fun i s' Q E ⟨h1,_⟩ q=>wpAny_pyIter_valiter h1 q }
  ·refine ⟨⟨_,aW _ rfl,rfl,rfl⟩,aK _ hd⟩
end
theorem vals_get:∀ {xs:List V} {us:List Value},xs.length=us.length→(∀ (i:Nat) (x:V) (u:Value),xs[i]? = some x→us[i]? = some u→b7 x u)→cg xs us
 | [],[],_,_=>.nil
 | x::xs,u::us,hl,h=>.cons (h 0 x u rfl rfl) (vals_get (by simpa using hl) fun i y v e1 e2=>h (i+1) y v (by simpa using e1) (by simpa using e2))
 | [],_::_,hl,_=>by cases hl
 | _::_,[],hl,_=>by cases hl
def lR (v d:Addr):HO:=.ext fun h=>h.IsValuesView v d
section
variable {X:Cx}
theorem mw:MtR X "dict.values" (fun x xs H Q=>∃ d kvs,x = .ref d∧xs=[]∧H d=some (.dT kvs)∧∀ v,H v=none→Q (.ref v) (upd H v (lR v d))):=by
 intro pins s σ H x xs v us Q I rx rs h;obtain ⟨d,kvs,rfl,rfl,hd,q⟩:=h
 have hus:=rs.zero
 subst hus;cases rx;obtain ⟨z,hs,xs,pr,o,es,ep,ho,hx,hdt,he,_⟩:=(show du X.prog X.w H s.heap d (.dT kvs) from I.hok d _ hd)
 refine pw hs ho hx hdt ?_
 have hv:(s.heap.push { cls:=.type "dict_values",data:=.fields #[.ref d] }).IsValuesView s.heap.objs.size d:=⟨_,aW _ rfl,rfl,rfl⟩
 refine ⟨.ref s.heap.objs.size,upd H s.heap.objs.size (lR s.heap.objs.size d),I.laid (t':=s.toks) (fun b ob e=>aK _ e) (aI _) ?_,rfl,q _ (I.hok.fresh (aI _))⟩
 exact ⟨hv,⟨_,aW _ rfl⟩,fun h1 h2 ⟨ov,e,r⟩ k=>⟨ov,k ov e,r⟩⟩
theorem lN (hcalm:X.calm=true):jg X (.type "list") (fun xs H Q=>∃ v d kvs,xs=[.ref v]∧H v=some (lR v d)∧H d=some (.dT kvs)∧∀ l,H l=none→Q (.ref l) (upd H l (.lst (kvs.map (·.2))))):=by
 intro pins s σ H xs us Q I r h;obtain ⟨v,d,kvs,rfl,hv,hd,q⟩:=h
 obtain ⟨u,eu,rx⟩:=og r
 subst eu;cases rx;obtain ⟨z,hs,xs,pr,o,es,ep,ho,hx,hdt,he,_⟩:=(show du X.prog X.w H s.heap d (.dT kvs) from I.hok d _ hd)
 have hview:s.heap.IsValuesView v d:=(I.hok v _ hv).1
 have hsz:es.size=kvs.length:=by
  have l1:es.size=xs.length:=size_of_entries he
  have l2:kvs.length=xs.length:=Paired.length pr
  omega
 refine PySem.W.kdl_call (sY hx hdt) (I.ok.hd hcalm) ⟨hview,ho⟩ (by rw [hsz];exact z) fun h' tk acc c k hl ⟨hi1,hi2⟩=>?_
 have hvals:cg (kvs.map (·.2)) acc.toList:=by
  refine vals_get (by simp [hi1,hsz]) fun i x u e1 e2=>?_
  rw [cF] at e2;obtain ⟨en,hen,rfl⟩:=hi2 i u e2
  rw [aD] at e1;cases ek:kvs[i]? with
  | none=>rw [ek] at e1;cases e1
  | some kv =>
   rw [ek] at e1;cases e1;obtain ⟨b,hb,_,_,rv⟩:=qb pr ek
   have q:=entry_at he i
   rw [hb,hen] at q;cases q;exact rv
 refine ⟨.ref s.heap.objs.size,upd H s.heap.objs.size (.lst (kvs.map (·.2))),I.laid (t':=tk) k (aI _) ?_,rfl,q _ (I.hok.fresh (aI _))⟩
 exact ⟨by rw [ae];exact z,acc.toList,c,hvals,by rw [Array.toArray_toList];exact hl⟩
theorem sP:jg X (.builtin "len") (fun xs H Q=>∃ a kvs,xs=[V.ref a]∧H a=some (.dT kvs)∧Q (.int kvs.length) H):=by
 intro pins s σ H xs us Q I r h;obtain ⟨a,kvs,rfl,ha,q⟩:=h
 obtain ⟨u,eu,rx⟩:=og r
 subst eu;cases rx;obtain ⟨z,hs,xs,pr,o,es,ep,ho,hx,hdt,he,_⟩:=(show du X.prog X.w H s.heap a (.dT kvs) from I.hok a _ ha)
 have hsz:es.size=kvs.length:=by
  have l1:es.size=xs.length:=size_of_entries he
  have l2:kvs.length=xs.length:=Paired.length pr
  omega
 have hl:=jT
 refine nU hs ho hx hdt (by rw [hsz];omega) fun t k=>⟨.int kvs.length,H,I.tok k,⟨t,by rw [hsz]⟩,q⟩
end
def StD (P:Program) (w:World) (K:Fg_) (d:Addr) (kvs:List (Key×V)):Prop:=(d==sysModules)=false∧kvs.length≤sizeLine∧∃ (o:Obj) (es:Array DictEntry) (ep:Nat) (vs:List (Key×Value)),
 K.lookup d=some o∧o.ExactDict∧o.data = .dict es ep∧KeysOf (dt P w) es∧Pairs (dt P w) es.toList vs∧(vs.map (·.1)).Nodup∧KV kvs vs
def uZ (P:Program) (w:World) (K:Fg_) (d:Addr) (kvs:List (Key×V)):It :=
 ⟨fun i H=>i<kvs.length,fun i H x H'=>H'=H∧∃ k v,kvs[i]? = some (k,v)∧x=kV k,fun i H=>kvs.length≤i⟩
theorem StD.at_ {X:Cx} {pins:List (Addr×Obj)} {σ:St} {H:Hp} {s:Shared} {d:Addr} {kvs:List (Key×V)} (I:Inv X pins σ H s) (h:StD X.prog X.w X.K d kvs) :
  ∃ (o:Obj) (es:Array DictEntry) (ep:Nat) (vs:List (Key×Value)),X.K.lookup d=some o∧s.heap.get? d=some o∧o.ExactDict∧o.data = .dict es ep∧es.size=kvs.length∧KV kvs vs∧s.heap.DictAt (dt X.prog X.w) d vs ep:=by
 obtain ⟨_,_,o,es,ep,vs,hk,hx,hdt,r⟩:=h
 have hg:=I.kIn d o hk
 refine ⟨o,es,ep,vs,hk,hg,hx,hdt,?_,r.2.2.2,o,es,hg,hx,hdt,r.1,r.2.1,r.2.2.1⟩
 have l1:=r.2.1.length
 have l2:kvs.length=vs.length:=Paired.length r.2.2.2
 rw [cD] at l1;omega
section
variable {P:Program} {w:World} {K:Fg_} {tg:Expr} {d:Addr}
theorem pT {kvs:List (Key×V)} {o:Obj} {es:Array DictEntry} {ep:Nat} (it:Addr) (st0:StD P w K d kvs) (hk:K.lookup d=some o) (hod:o.data = .dict es ep):Turn P w K tg (uZ P w K d kvs) [it] it (fun i h=>h.IsKeyIter it d i kvs.length ep) where
 mem:=by simp
 obj:=fun i h st b hb=>by
  have e:b=it:=by simpa using hb
  subst e;obtain ⟨oi,e,c,dd⟩:=st
  exact ⟨oi,e,fun v z=>by rw [dd] at z;cases z⟩
 keep:=fun i h h' st k=>st.at fun oi e=>k it (by simp) oi e
 item:=by
  intro X hP hw hK hc i pins s σ H E I hf st hg;subst hP hw hK;have hi:i<kvs.length:=hg
  obtain ⟨f0,f1,f2,f3,f4,f5⟩:=hf it (by simp)
  obtain ⟨o',es',ep',vs,hk',hgd,hx,hdt,hsz,kv,hm⟩:=st0.at_ I
  rw [hk] at hk'
  cases hk'
  obtain ⟨rfl,rfl⟩:es'=es∧ep'=ep:=by rw [hod] at hdt;cases hdt;exact ⟨rfl,rfl⟩
  obtain ⟨⟨k,v⟩,hkv⟩:∃ p,kvs[i]? = some p:=⟨kvs[i],aB hi⟩
  obtain ⟨u,hu,ru⟩:=yC kv hkv
  have hl:kvs.length=vs.length:=Paired.length kv
  rw [hl] at st;refine wpAny_pyNext_dict_item st hm hu fun key h' hkey st' sb=>?_
  have I1:Inv X pins σ H { s with heap:=h' }:=I.turned (t':=s.toks) (fun b ob hb e=>(sb.2 b hb).trans e) f0 f1 f3 f4 f5
  obtain ⟨oi,e,c,dd⟩:=id st'
  refine ⟨key,rfl,mE (s:={ s with heap:=h' }) e c dd (by decide) ⟨kV k,H,I1,tU (show ki k key=true from hkey),⟨rfl,k,v,hkv,rfl⟩,?_,fun b hb=>(hf b hb).1⟩⟩
  show h'.IsKeyIter it d (i+1) kvs.length _
  rw [hl];exact st'
 done:=by
  intro X hP hw hK hc i pins s σ H E I hf st hg;subst hP hw hK;have hi:kvs.length≤i:=hg
  obtain ⟨f0,f1,f2,f3,f4,f5⟩:=hf it (by simp)
  obtain ⟨o',es',ep',vs,hk',hgd,hx,hdt,hsz,kv,hm⟩:=st0.at_ I
  rw [hk] at hk'
  cases hk'
  obtain ⟨rfl,rfl⟩:es'=es∧ep'=ep:=by rw [hod] at hdt;cases hdt;exact ⟨rfl,rfl⟩
  exact nF (I.ok.hd hc) st hgd hdt hsz hi fun h' eb=>⟨rfl,I.turned (t':=s.toks) (fun b ob hb e=>eb b ob hb e) f0 f1 f3 f4 f5⟩
 self:=fun A i s Q E st h=>wpAny_pyIter_keyiter st h
end
def yK (P:Program) (w:World) (K:Fg_) (td:TE):TI:=fun σ H R=>td σ H fun x H1=>∃ d kvs,x = .ref d∧StD P w K d kvs∧R (uZ P w K d kvs) H1
def xk (P:Program) (w:World) (K:Fg_) (td ty:TE):TE:=fun σ H Q=>td σ H fun x H1=>ty σ H1 fun y H2=>∃ d kvs k v,x = .ref d∧StD P w K d kvs∧y=kV k∧eT kvs k=some v∧Q v H2
section
variable {X:Cx} {tg e o i:Expr} {td ty:TE} {pos:Pos}
theorem tZ (he:PE X e td):PI X tg e (yK X.prog X.w X.K td):=by
 intro pins s σ H R I h;refine thn (he pins s σ H _ I h) fun u s1 ⟨x,H1,I1,rx,d,kvs,ex,sd,q⟩=>?_
 subst ex;obtain rfl:u=Value.ref d:=rx
 obtain ⟨o,es,ep,vs,hk,hgd,hx,hdt,hsz,kv,hm⟩:=sd.at_ I1
 refine sv sd.1 hgd hx hdt (m9 (tk:=s1.toks) I1 _ (pT _ sd hk hdt) ⟨_,aW _ rfl,rfl,?_⟩ q)
 rw [hsz]<;>rfl
theorem t4 (ho:PE X o td) (hi:PE X i ty) (hs:yW i):PE X (.Subscript o i pos) (xk X.prog X.w X.K td ty):=by
 intro pins s σ H Q I h;refine qK PySem.F.slot_dict_getitem.lookup hs (thn (ho pins s σ H _ I h) fun u s1 ⟨x,H1,I1,rx,q1⟩=>thn (hi pins s1 σ H1 _ I1 q1) fun iv s2 ⟨y,H2,I2,ry,a,kvs,k,v,ex,sd,ey,hv,q2⟩=>?_)
 subst ex ey;obtain rfl:u=Value.ref a:=rx
 obtain ⟨o,es,ep,vs,hk,hgd,hx,hdt,hsz,kv,hm⟩:=sd.at_ I2
 obtain ⟨w',hw,rw'⟩:=gc.some_of (v:=v) (o:=valueAt vs k) (by rw [←hv];exact KV.val kv k)
 exact ⟨hm.dictOf.typeIs,wpAny_getItem_of (mz ry) hm.dictOf.mapOf hw ⟨v,H2,I2.tok _,rw',q2⟩⟩
end
section
variable {X:Cx}
def rGetN (K:Fg_):V→V→Hp→VK→Prop:=fun o i H Q=>∃ p xs,∃ k:Nat,∃ v,o = .ref p∧i = .int (k:Int)∧SqL K H p xs∧xs[k]? = some v∧Q v H
theorem sF:PGet X (rGetN X.K):=by
 intro pins s σ H o i ov iv Q I ro ri h;obtain ⟨p,xs,k,v,rfl,rfl,hq,hk,q⟩:=h
 cases ro;obtain ⟨t,rfl⟩:=ri
 obtain ⟨its,r,pl,hz⟩:=I.list hq
 obtain ⟨w,ew,rw'⟩:=r.get hk
 have hl:=r.length
 have hn:=jT
 have hkl:=(ay.mp hk).1
 exact wpAny_getItem_list pl.isList (by omega) (by omega) (by simpa using ew) ⟨v,H,I,rw',q⟩
end
section
variable {X:Cx}
def rCatL (K:Fg_):R2:=fun x y H Q=>∃ l b xs zs,x = .ref l∧y = .ref b∧SqL K H l xs∧SqL K H b zs∧xs.length+zs.length≤sizeLine∧∀ p,H p=none→Q (.ref p) (upd H p (.lst (xs++zs)))
theorem qO:OpR X (binaryOp .Add) (rCatL X.K):=by
 intro pins s σ H x y v u Q I rx ry h;obtain ⟨l,b,xs,zs,rfl,rfl,hl,hb,hz,q⟩:=h
 cases rx;cases ry;obtain ⟨its,rv,⟨⟨c1,d1,dt1,sl1⟩,n,ho,hc,hdn,hd⟩,_⟩:=I.list hl
 obtain ⟨its2,rv2,⟨⟨c2,d2,dt2,sl2⟩,n2,ho2,hc2,hdn2,hd2⟩,_⟩:=I.list hb
 simp only at hc hd hdn hc2 hd2 hdn2;subst hc hd hdn hc2 hd2 hdn2;have l1:=rv.length
 have l2:=rv2.length
 have ea:its.toArray++its2.toArray=(its++its2).toArray:=by simp
 refine concat_meets ⟨_,ho,rfl⟩ ⟨_,ho2,rfl⟩ noFill_list_add seq_list_add PySem.F.slot_list_add PySem.F.entry_list_add (PySem.F.args_list_add_2 _ _) (list_addW l b its.toArray its2.toArray n n2 none none sl1 sl2 (by rw [aZ,aZ];omega)) ⟨ho,ho2,?_⟩
 rw [ea];exact ⟨.ref _,_,I.lnew (t':=s.toks) (rv.append rv2) (by rw [aG];omega),rfl,q _ I.fresh⟩
end
end L2
namespace HT
open PySem PySem.Spec PyProof.Rows
open Builtin Builtin.Str
theorem r8:typeLookup (.type "list_reverseiterator") "__len__" = pure none:=by rw [typeLookup_type,builtinLookup_eq_fast];kernel_rfl
theorem uB:typeLookup (.type "list_reverseiterator") "__length_hint__" = pure (some (.builtin "list_reverseiterator.__length_hint__")):=by rw [typeLookup_type,builtinLookup_eq_fast];kernel_rfl
section
variable {prog:Program} {w:World} {A:Around} {E:Value→Shared→Prop} {s:Shared}
theorem walks_rev {it l:Addr} {items:Array Value} (hh:A.handled=none) (hne:it≠l) :
  WalksS prog w A it [it,l] [it] (fun a b=>a=b) items.size (fun i v=>items[items.size - 1 - i]? = some v) (fun i s=>i≤items.size∧s.heap.IsRevIter it l ((items.size:Int) - 1 - (i:Nat))∧s.heap.IsList l items) where
 sub:=by simp
 grefl:=fun _=>rfl
 gtrans:=fun _ _ _ a b=>a.trans b
 frame:=fun i s h' tk st _ k=>⟨st.1,st.2.1.at fun o e=>k it (by simp) o e,by
  obtain ⟨o,ho,r⟩:=st.2.2
  exact ⟨o,k l (by simp) o ho,r⟩⟩
 item:=fun i s Q E hi st h=>by
  obtain ⟨hle,hit,hl⟩:=st
  have e1:(items.size:Int) - 1 - ((i:Nat):Int)=((items.size - 1 - i:Nat):Int):=by omega
  rw [e1] at hit;have hx:items[items.size - 1 - i]? = some items[items.size - 1 - i]:=cW (by omega)
  refine wpAny_pyNext_rev_item hit hl hx fun h' st' sb=>?_
  have e2:((items.size - 1 - i:Nat):Int) - 1=(items.size:Int) - 1 - ((i+1:Nat):Int):=by omega
  rw [e2] at st'
  refine h _ _ hx ⟨hi,st',?_⟩ ⟨fun b o hb e=>(sb.2 b (by simpa using hb)).trans e,rfl,rfl,rfl,aI _⟩
  obtain ⟨o,ho,r⟩:=hl
  exact ⟨o,(sb.2 l (aN hne)).trans ho,r⟩
 done:=fun s Q E st h=>by
  obtain ⟨hle,hit,hl⟩:=st
  have e1:(items.size:Int) - 1 - ((items.size:Nat):Int) = -1:=by omega
  rw [e1] at hit;exact wpAny_pyNext_rev_end hh hit fun h' eb=>h _ ⟨fun b o hb e=>eb b o (by simpa using hb) e,rfl,rfl,rfl,aI _⟩
 self:=fun i s Q E st h=>wpAny_pyIter_revIter st.2.1 h
end
end HT
namespace L2
open PySem PySem.Spec PyProof.Rows
section
variable {X:Cx}
end
section
variable {X:Cx}
end
theorem yB {x:Str} {g:TG} {tt:TT} {te:TE} {vs:List Nat} {σ:St} {H1:Hp} {D:Addr} {Qd:Hp→Prop} (Pv:Nat→Hp→Prop) (h0:Pv 0 (upd H1 D (.lst [])))
  (hs:∀ i c H,x.cps[i]? = some c→Pv i H→g (.str ⟨#[c]⟩) (fj σ vs) H fun σ2 H2=>fj σ2 vs=fj σ vs∧tt σ2 H2 fun b H3 =>
   if b=true then te σ2 H3 fun y H4=>∃ acc,H4 D=some (.lst acc)∧acc.length<sizeLine∧Pv (i+1) (upd H4 D (.lst (acc++[y]))) else Pv (i+1) H3) (hd:∀ H,Pv x.cps.size H→Qd H) :
  ∃ W:Nat→Nat→Hp→Prop,(∃ m,W 0 m (upd H1 D (.lst [])))∧∀ i m H,W i m H →
   ((Its x).stop i H∧Qd H)∨((Its x).go i H∧∃ Nx:Hp→Prop,(∀ H',Nx H'→∃ m',m'<m∧W (i+1) m' H')∧∀ y H',(Its x).yld i H y H'→g y (fj σ vs) H' fun σ2 H2=>fj σ2 vs=fj σ vs∧tt σ2 H2 fun b H3 =>
    if b=true then te σ2 H3 fun y H4=>∃ acc,H4 D=some (.lst acc)∧acc.length<sizeLine∧Nx (upd H4 D (.lst (acc++[y]))) else Nx H3):=by
 refine ⟨fun i m H=>m=x.cps.size - i∧i≤x.cps.size∧Pv i H,⟨x.cps.size,by simp,a8 _,h0⟩,?_⟩
 rintro i m H ⟨rfl,hi,p⟩
 by_cases hlt:i<x.cps.size
 ·refine .inr ⟨hlt,Pv (i+1),fun H' p'=>⟨x.cps.size - (i+1),by omega,rfl,hlt,p'⟩,fun y H' e=>?_⟩
  obtain ⟨rfl,c,hc,rfl⟩:=e
  exact hs i c _ hc p
 ·have e:i=x.cps.size:=by omega
  subst e;exact .inl ⟨aI _,hd H p⟩
section
variable {X:Cx}
end
end L2
namespace HT
open PySem PySem.Spec PyProof.Rows
open Builtin
section
variable {prog:Program} {w:World} {A:Around} {s:Shared} {R:Result→Shared→Prop}
variable {I:Addr} {fp wr:List Addr} {G:Array GenState→Array GenState→Prop} {n:Nat} {P:Nat→Value→Prop} {St:Nat→Shared→Prop}
theorem qp (W:WalksS prog w A.in1 I fp wr G n P St) (hT:∀ i s,St i s→s.TypeIs (.ref I) "list_reverseiterator") (S:Addr) (res:Value) (c₀:Nat) (hst:St 0 s) (hSf:S∉fp) (hI:I∈fp)
  (hS:s.heap.get? S=some { cls:=.type "list",data:=.seq #[] c₀ })
  (hR:∀ s' acc' c',Moved (S::wr) G s s'→s'.heap.get? S=some { cls:=.type "list",dict:=none,data:=.seq acc' c',slots:=#[] }→ItemsOf P acc' n→R (.ok (.ret res)) s') (hn:n≤sizeLine) :
  wpAny (model prog w) A.in1 (Builtin.List.listExtendWith (.ref S) (.ref I) res)
   (fun fin s'=>match fin with | .done f=>R (.ok f) s' | .again c'=>c'.quiet=true∧codeAny (model prog w) A c' R s') (fun e s'=>R (.error e) s') s:=by
 have hSI:S≠I:=fun e=>hSf (e▸hI)
 have ns:Builtin.List.listSameRef (.ref S) (.ref I)=false:=by simp [Builtin.List.listSameRef,hSI]
 unfold Builtin.List.listExtendWith;refine ag (wpAny_typeOf (hT 0 _ hst) ?_)
 rw [ah (by rw [ns];decide)]
 refine ag (W.self 0 _ _ _ hst ?_)
 refine ag (wpAny_holding ?_)
 unfold Builtin.List.listLengthHint;refine ag (wpAny_specialOf (hT 0 _ hst) r8 ?_)
 show wpAny _ A.in1 (specialOf (Value.ref I) (Str.ofString "__length_hint__") >>= _) _ _ _
 refine ag (wpAny_specialOf (hT 0 _ hst) uB ?_)
 generalize hid:("list_reverseiterator.__length_hint__" : String)=id0;wp_delta
 rw [show splitId id0=some ("list_reverseiterator","__length_hint__") from by subst hid;decide +kernel]
 subst hid;refine ag (wpAny_isInstance (b:=true) (hT 0 _ hst) (by rw [isSubtype_type];kernel_rfl) ?_)
 refine aM ?_
 rw [ah (by decide)]
 refine aM ⟨plainId_quiet F.plain_extend_loop _,codeAny_extend_loopS W hn _ hSf _ n 0 _ _ _ rfl (a8 _) hst hS (ItemsOf.nil P) fun s' acc' c' hm hS' hacc=>?_⟩
 exact hR s' acc' c' hm hS' hacc
theorem lY (W:WalksS prog w A.in1 I fp wr G n P St) (hT:∀ i s,St i s→s.TypeIs (.ref I) "list_reverseiterator") (S:Addr) (hst:St 0 s) (hSf:S∉fp) (hI:I∈fp)
  (hS:s.heap.get? S=some { cls:=.type "list",data:=.seq #[] })
  (hR:∀ s' acc' c',Moved (S::wr) G s s'→s'.heap.get? S=some { cls:=.type "list",dict:=none,data:=.seq acc' c',slots:=#[] }→ItemsOf P acc' n→R (.ok (.ret .none)) s') (hn:n≤sizeLine) :
  wpAny (model prog w) A.in1 (Builtin.«list.__init__» ⟨[.ref S,.ref I],[]⟩)
   (fun fin s'=>match fin with | .done f=>R (.ok f) s' | .again c'=>c'.quiet=true∧codeAny (model prog w) A c' R s') (fun e s'=>R (.error e) s') s:=by
 show wpAny _ A.in1 (do let old ←Builtin.List.listItems (.ref S);Builtin.List.listUpdate (.ref S) (fun _=>#[]);letGo old.toList.reverse;Builtin.List.listExtendWith (.ref S) (.ref I) .none) _ _ s
 refine ag ?_
 unfold Builtin.List.listItems;refine ag (wpAny_seqItems hS rfl (aM ?_))
 show wpAny _ A.in1 (updateSeq S (fun _=>#[]) >>= fun _=>letGo (#[]:Array Value).toList.reverse >>= fun _=>Builtin.List.listExtendWith (.ref S) (.ref I) .none) _ _ s
 refine ag (wpAny_updateSeq hS rfl ?_)
 have hS₂:=Heap.get?_update_self (Obj.mapSeq (fun _=>(#[]:Array Value))) hS rfl
 have oth:∀ b o,b≠S→s.heap.get? b=some o→(s.heap.update S (Obj.mapSeq (fun _=>(#[]:Array Value)))).get? b=some o :=
  fun b o hb e=>(Heap.get?_update_other _ _ (aN hb)).trans e
 refine ag (wpAny_letGo ?_)
 refine qp (hn:=hn) W hT S .none _ (W.frame 0 s _ s.toks hst (aI _) fun b hb o e=>oth b o (fun h=>hSf (h▸hb)) e) hSf hI hS₂ fun s' acc' c' hm hS' hacc=>?_
 exact hR s' acc' c' (Moved.trans W.gtrans ((Moved.refl W.grefl).then_heap (aI _) fun b o hb e=>oth b o (fun h=>hb (h▸a6)) e) hm) hS' hacc
end
section
variable {prog:Program} {w:World} {A:Around} {E:Value→Shared→Prop} {s:Shared}
theorem call_list_rev {Q:Value→Shared→Prop} {I:Addr} {fp wr:List Addr} {G:Array GenState→Array GenState→Prop} {n:Nat} {P:Nat→Value→Prop} {St:Nat→Shared→Prop} (W:WalksS prog w A.in1.in1 I fp wr G n P St) (hT:∀ i s,St i s→s.TypeIs (.ref I) "list_reverseiterator") (hst:St 0 s) (hfp:∀ b∈fp,b<s.heap.objs.size) (hI:I∈fp)
  (hQ:∀ s' acc' c',Moved (s.heap.objs.size::wr) G { s with heap:=s.heap.push { cls:=.type "list",data:=.seq #[] } } s' →
   s'.heap.get? s.heap.objs.size=some { cls:=.type "list",dict:=none,data:=.seq acc' c',slots:=#[] }→ItemsOf P acc' n→Q (.ref s.heap.objs.size) s') (hn:n≤sizeLine) :
  wpAny (model prog w) A (call (.type "list") [.ref I]) Q E s:=by
 have hSf:s.heap.objs.size∉fp:=fun hm=>b4 _ (hfp _ hm)
 refine callType_codes (Q₁:=fun obj s₁=>obj = .ref s.heap.objs.size∧s₁={ s with heap:=s.heap.push { cls:=.type "list",data:=.seq #[] } }) F.called_list (F.typeCall_list_1 _) F.entry_list_init
  (code_list_new _ ⟨rfl,rfl⟩) fun obj s₁ h₁=>?_
 obtain ⟨rfl,rfl⟩:=h₁
 have hS:(s.heap.push { cls:=.type "list",data:=.seq #[] }).get? s.heap.objs.size=some { cls:=.type "list",data:=.seq #[] }:=aW _ rfl
 refine ⟨⟨_,hS,rfl⟩,F.args_list_init_2 _ _,lY (hn:=hn) W hT _ (W.frame 0 s _ s.toks hst (aI _) fun b _ o e=>aK _ e) hSf hI hS fun s' acc' c' hm hS' hacc=>?_⟩
 exact ⟨rfl,hQ s' acc' c' hm hS' hacc⟩
theorem items_rev {items acc:Array Value} (h:ItemsOf (fun i v=>items[items.size - 1 - i]? = some v) acc items.size):acc.toList=items.toList.reverse:=by
 have hs:acc.size=items.size:=h.1
 apply List.ext_getElem?
 intro i;by_cases c:i<items.size
 ·have hi:i<acc.size:=by omega
  have:=h.2 i acc[i] (cW hi)
  rw [List.getElem?_reverse (by rw [cD];exact c),cF,cF,cW hi,cD,←this]
 ·rw [fU (by rw [cD];omega),fU (by rw [cT,cD];omega)]
end
end HT
namespace L2
open PySem PySem.Spec PyProof.Rows
def xb (K:Fg_) (ta:TA):TE:=fun σ H Q=>ta σ H fun vs H1=>∃ (a:Addr) (xs:List V),vs=[.ref a]∧SqL K H1 a xs∧∀ x,H1 x=none→Q (.ref x) (upd H1 x (.lst xs.reverse))
section
variable {X:Cx}
theorem jo:bootBuiltins "list" = some (.type "list"):=by kernel_rfl
theorem k9 {e:Expr} {ta:TA} {p p2 pos cpos:Pos} (hc:X.calm=true) (hgl:Gl X "list") (hml:X.mg "list" = none) (hg:Gl X "reversed") (hm:X.mg "reversed" = none) (ha:PA X [e] ta)
  (hs:starEach [e] X.env=[(false,eval e X.env)]:=by rfl)
  (hs2:starEach [Expr.Call (.Name "reversed" p) [e] [] pos] X.env=[(false,eval (.Call (.Name "reversed" p) [e] [] pos) X.env)]:=by rfl) :
  PE X (.Call (.Name "list" p2) [.Call (.Name "reversed" p) [e] [] pos] [] cpos) (xb X.K ta):=by
 intro pins s σ H Q I h;refine Call_ (iQ I hgl hml jo (PyProof.Rows.callWith_type1 ?_ hs2 rfl))
 rw [hs2];refine Calls.spliced_cons ?_
 refine Call_ (iQ I hg hm iV (PyProof.Rows.callWith_type1 (thn (ha pos pins s σ H _ I h) fun us s2 ⟨vs,H2,I2,r2,q2⟩=>?_) hs rfl))
 obtain ⟨a,xs,e1,hq,q⟩:=q2
 subst e1;cases r2 with
 | cons r rr =>
  cases rr;cases r;obtain ⟨its,rv,p',hz⟩:=I2.list hq
  refine call_reversed_list p'.isList ?_
  refine Calls.spliced_nil ?_
  have hlt:a<s2.heap.objs.size:=by
   obtain ⟨o,_,e1,_⟩:=p'
   exact aV e1
  have hne:s2.heap.objs.size≠a:=fN hlt
  have hln:its.toArray.size=its.length:=aZ
  have hl3:(s2.heap.push (revObj a ((its.toArray.size:Int) - 1))).IsList a its.toArray:=by
   obtain ⟨o,ho,r⟩:=p'.isList
   exact ⟨o,aK _ ho,r⟩
  have hit0:(s2.heap.push (revObj a ((its.toArray.size:Int) - 1))).IsRevIter s2.heap.objs.size a ((its.toArray.size:Int) - 1 - ((0:Nat):Int)):=by
   rw [show (its.toArray.size:Int) - 1 - ((0:Nat):Int)=(its.toArray.size:Int) - 1 by omega]
   exact ⟨_,aW _ rfl,rfl,rfl⟩
  have lt:∀ b∈[s2.heap.objs.size,a],b<(s2.heap.push (revObj a ((its.toArray.size:Int) - 1))).objs.size:=fun b hb=>by
   have e:b=s2.heap.objs.size∨b=a:=by simpa using hb
   rcases e with rfl | rfl
   ·obtain ⟨o,ho,_⟩:=hit0;exact aV ho
   ·obtain ⟨o,ho,_⟩:=hl3;exact aV ho
  have hlen:=rv.length
  refine HT.call_list_rev (HT.walks_rev (I.ok.hd hc) hne) (fun i s st=>st.2.1.typeIs) (s:={ s2 with heap:=s2.heap.push (revObj a ((its.toArray.size:Int) - 1)) }) ⟨a8 _,hit0,hl3⟩ lt (by simp) (fun s' acc c' hmv hS hacc=>?_) (by rw [hln];omega)
  generalize hh3:s2.heap.push (revObj a ((its.toArray.size:Int) - 1))=h3 at *;have hle:s2.heap.objs.size≤h3.objs.size:=by
   have:=lt s2.heap.objs.size (by simp)
   omega
  have hacc':acc=its.reverse.toArray:=by
   have:=HT.items_rev hacc
   rw [←Array.toArray_toList (xs:=acc),this]
  have hk:∀ b o,s2.heap.get? b=some o→s'.heap.get? b=some o:=fun b o e=>by
   have hb:b<s2.heap.objs.size:=aV e
   refine hmv.heap b o ?_ (aK _ ?_)
   ·intro z;rcases aF.mp z with z | z
    ·exact aP z (bt (bc hb hle))
    ·exact aP (aJ.mp z) (bt hb)
   ·rw [←hh3];exact aK _ e
  refine ⟨.ref h3.objs.size,_,?_,rfl,q _ (I2.hok.fresh hle)⟩
  have I4:=I2.turnedNew (t':=s'.toks) (h':=s'.heap) (ch:=[]) (T:=h3.objs.size) (ob:=.lst xs.reverse) (fun b o _ e=>hk b o e) (fun b hb=>by simp at hb) hle ⟨by rw [cT];exact hz,its.reverse,c',rv.reverse,by rw [hS,hacc']⟩
  obtain ⟨_,m2,m3,m4,_⟩:=hmv
  cases s'
  simp only at m2 m3 m4;subst m2 m3 m4;exact I4
end
end L2
namespace Vm
open Sw
def val (l:Bytes):Nat:=l.foldr (fun (x:UInt8) (m:Nat)=>x.toNat % 128+128*m) 0
theorem val_snoc:∀ (l:Bytes) (c:UInt8),val (l++[c])=val l+c.toNat % 128*128 ^ l.length
 | [],c=>by simp [val]
 | x::l,c=>by
  have ih:=val_snoc l c
  show x.toNat % 128+128*val (l++[c])=x.toNat % 128+128*val l+c.toNat % 128*128 ^ (l.length+1)
  rw [ih,fM,Nat.mul_add,←Nat.mul_assoc (c.toNat % 128),Nat.mul_comm 128 (c.toNat % 128*128 ^ l.length)];omega
def High (l:Bytes):Prop:=∀ c∈l,128≤c.toNat
theorem pQ:∀ {l:Bytes},High l→l.takeWhile (fun (c:UInt8)=>decide (128≤c.toNat))=l
 | [],_=>rfl
 | c::l,h=>by
  rw [eZ,ao (aq (h c (by simp))),pQ (l:=l) fun d hd=>h d (by simp [hd])]
theorem qF:∀ {l:Bytes} {c:UInt8} {r:Bytes},High l→c.toNat<128→(l++c::r).takeWhile (fun (c:UInt8)=>decide (128≤c.toNat))=l
 | [],c,r,_,h=>by
  rw [fh,eZ,ah (by simp;omega)]
 | d::l,c,r,hl,h=>by
  rw [c9,eZ,ao (aq (hl d (by simp))),qF (l:=l) (fun e he=>hl e (by simp [he])) h]
theorem vary_five {p:Nat} {l r:Bytes} (hl:High l) (h5:l.length=5):varyOf p (l++r) = .error ⟨3,p⟩:=by
 have e:(l++r).take 5=l:=by rw [←h5,List.take_left]
 unfold varyOf;simp only [e,pQ hl,h5,if_true]
theorem vary_end {p:Nat} {l:Bytes} (hl:High l) (h5:l.length<5):varyOf p l = .error ⟨1,p+l.length⟩:=by
 have e:l.take 5=l:=bJ (by omega)
 unfold varyOf;simp only [e,pQ hl,eV,ah (show ¬l.length=5 by omega)]
theorem vary_stop {p:Nat} {l r:Bytes} {c:UInt8} (hl:High l) (h5:l.length<5) (hc:c.toNat<128) :
  varyOf p (l++c::r)=(if l.length>0∧c=0 then .error ⟨3,p⟩ else if 2 ^ 32≤val (l++[c]) then .error ⟨3,p⟩ else .ok (val (l++[c]),l.length+1)):=by
 have e:(l++c::r).take 5=l++c::r.take (4 - l.length):=by
  rw [ik,bJ (by omega),show 5 - l.length=(4 - l.length)+1 by omega,eY]
 unfold varyOf;simp only [e,qF hl hc,eS,ah (show ¬l.length=5 by omega)]
 rfl
theorem vary_used {p n l:Nat} {b:Bytes} (h:varyOf p b = .ok (n,l)):1≤l∧l≤b.length∧l≤5∧n<2 ^ 32:=by
 unfold varyOf at h;simp only at h;generalize hh:((b.take 5).takeWhile fun (c:UInt8)=>decide (128≤c.toNat))=t at h
 have ht:t.length≤5:=by
  rw [←hh];exact bH (List.takeWhile_sublist _).length_le (by rw [aY];exact Nat.min_le_left _ _)
 by_cases h5:t.length=5
 ·rw [ao h5] at h;cases h
 ·rw [ah h5] at h;split at h
  ·cases h
  ·rename_i c r hd
   have hlen:t.length<b.length:=by
    apply Nat.lt_of_not_le
    intro hle;rw [List.drop_eq_nil_of_le hle] at hd;cases hd
   split at h
   ·cases h
   ·split at h
    ·cases h
    ·rename_i hn
     injection h with h;injection h with h1 h2;subst h2;subst h1;exact ⟨by omega,by omega,by omega,by omega⟩
end Vm
namespace Um
open Sw
def cf (c:Nat):Nat:=if 194≤c∧c≤223 then 1 else if 224≤c∧c≤239 then 2 else if 240≤c∧c≤244 then 3 else 0
def ls (c:Nat):Nat:=if c=224 then 160 else if c=240 then 144 else 128
def hs (c:Nat):Nat:=if c=237 then 159 else if c=244 then 143 else 191
def urun:Nat→Nat→Nat→Nat→Bytes→Option Nat
 | k,_,_,p,[]=>if 0<k then some p else none
 | k,lo,hi,p,c::r=>if 0<k then (if c.toNat<lo∨hi<c.toNat then some p else urun (k - 1) 128 191 (p+1) r)
  else if 128≤c.toNat then (if cf c.toNat=0 then some p else urun (cf c.toNat) (ls c.toNat) (hs c.toNat) (p+1) r) else urun 0 lo hi (p+1) r
theorem jJ:∀ (b:Bytes) (lo hi lo' hi' p:Nat),urun 0 lo hi p b=urun 0 lo' hi' p b
 | [],_,_,_,_,_=>rfl
 | c::r,lo,hi,lo',hi',p=>by
  unfold urun;rw [ah (b4 0),ah (b4 0)];by_cases h:128≤c.toNat
  ·rw [ao h,ao h]
  ·rw [ah h,ah h];exact jJ r lo hi lo' hi' (p+1)
theorem leads_eq:∀ c,c<256→leads c=if c<128 then some (0,0,0) else if cf c=0 then none else some (cf c,ls c,hs c):=by decide +kernel
theorem lJ:∀ (k lo hi x p:Nat) (b:Bytes),match follow k lo hi x p b with
  | .error q=>urun k lo hi p b=some q
  | .ok (_,r)=>urun k lo hi p b=urun 0 128 191 (p+(b.length - r.length)) r∧r.length≤b.length
 | 0,lo,hi,x,p,b=>by
  unfold follow;refine ⟨?_,aI _⟩
  rw [dB,Nat.add_zero];exact jJ b lo hi 128 191 p
 | k+1,lo,hi,x,p,[]=>by
  unfold follow urun;rw [ao (eU k)]
 | k+1,lo,hi,x,p,c::b=>by
  unfold follow;by_cases h:lo≤c.toNat∧c.toNat≤hi
  ·rw [ao h];have ih:=lJ k 0x80 0xBF (64*x+c.toNat % 64) (p+1) b
   have e:urun (k+1) lo hi p (c::b)=urun k 128 191 (p+1) b:=by
    conv=>lhs;unfold urun
    rw [ao (eU k),ah (by omega)]
    rfl
   rw [e];cases hf:follow k 0x80 0xBF (64*x+c.toNat % 64) (p+1) b with
   | error q=>rw [hf] at ih;exact ih
   | ok z =>
    obtain ⟨y,r⟩:=z
    rw [hf] at ih;obtain ⟨ih1,ih2⟩:=ih
    refine ⟨?_,by rw [aE];omega⟩
    rw [ih1,aE];congr 1
    omega
  ·rw [ah h];show urun (k+1) lo hi p (c::b)=some p
   unfold urun;rw [ao (eU k),ao (by omega)]
theorem kR:∀ (f p:Nat) (b:Bytes),b.length≤f→match scalarsFrom f p b with
  | .error q=>urun 0 128 191 p b=some q
  | .ok _=>urun 0 128 191 p b=none
 | 0,p,[],_=>rfl
 | f+1,p,[],_=>rfl
 | 0,p,c::b,h=>by simp at h
 | f+1,p,c::b,h=>by
  have hlen:b.length≤f:=by rw [aE] at h;omega
  have hl:=leads_eq c.toNat c.toNat_lt
  have e0:urun 0 128 191 p (c::b)=if 128≤c.toNat then (if cf c.toNat=0 then some p else urun (cf c.toNat) (ls c.toNat) (hs c.toNat) (p+1) b) else urun 0 128 191 (p+1) b:=by
   conv=>lhs;unfold urun
   rw [ah (b4 0)]
  rw [e0];unfold scalarsFrom scalarAt;dsimp only;by_cases h1:c.toNat<128
  ·rw [ao h1] at hl;rw [hl,ah (by omega)]
   simp only [follow,aE];have ih:=kR f (p+(b.length+1 - b.length)) b hlen
   rw [show b.length+1 - b.length=1 by omega] at ih ⊢
   cases hs':scalarsFrom f (p+1) b with
   | error q=>rw [hs'] at ih;exact ih
   | ok l=>rw [hs'] at ih;exact ih
  ·rw [ah h1] at hl;rw [ao (by omega)]
   by_cases h2:cf c.toNat=0
   ·rw [ao h2] at hl;rw [hl,ao h2]
   ·rw [ah h2] at hl;rw [hl,ah h2];have fr:=lJ (cf c.toNat) (ls c.toNat) (hs c.toNat) (firstBits (cf c.toNat) c.toNat) (p+1) b
    simp only;cases hf:follow (cf c.toNat) (ls c.toNat) (hs c.toNat) (firstBits (cf c.toNat) c.toNat) (p+1) b with
    | error q=>rw [hf] at fr;exact fr
    | ok z =>
     obtain ⟨y,r⟩:=z
     rw [hf] at fr;obtain ⟨f1,f2⟩:=fr
     simp only [aE];have ih:=kR f (p+(b.length+1 - r.length)) r (by omega)
     rw [f1,show p+1+(b.length - r.length)=p+(b.length+1 - r.length) by omega]
     cases hs':scalarsFrom f (p+(b.length+1 - r.length)) r with
     | error q=>rw [hs'] at ih;exact ih
     | ok l=>rw [hs'] at ih;exact ih
theorem text_run (p:Nat) (b:Bytes):match textOf p b with
  | .error e=>e.kind=5∧urun 0 128 191 p b=some e.place
  | .ok _=>urun 0 128 191 p b=none:=by
 have h:=kR b.length p b (aI _)
 unfold textOf scalars;cases hs':scalarsFrom b.length p b with
 | error q=>rw [hs'] at h;exact ⟨rfl,h⟩
 | ok l=>rw [hs'] at h;exact h
def fbad:Nat→Nat→Nat→Bytes→Option Nat
 | _,_,_,[]=>none
 | lo,hi,p,c::r=>if c.toNat<lo∨hi<c.toNat then some p else fbad 128 191 (p+1) r
theorem urun_further:∀ (k lo hi p:Nat) (b:Bytes),urun k lo hi p b=match fbad lo hi p (b.take k) with
  | some q=>some q
  | none=>if b.length<k then some (p+b.length) else urun 0 128 191 (p+k) (b.drop k)
 | 0,lo,hi,p,b=>by
  rw [cQ];show _=if b.length<0 then _ else _
  rw [ah (cH _),eQ];exact jJ b lo hi 128 191 p
 | k+1,lo,hi,p,[]=>by
  show (if 0<k+1 then some p else none)=if 0<k+1 then some (p+0) else _
  rw [ao (eU k),ao (eU k)];rfl
 | k+1,lo,hi,p,c::r=>by
  have ih:=urun_further k 128 191 (p+1) r
  show (if 0<k+1 then (if c.toNat<lo∨hi<c.toNat then some p else urun k 128 191 (p+1) r) else _)=_
  rw [ao (eU k),eY];show _=match (if c.toNat<lo∨hi<c.toNat then some p else fbad 128 191 (p+1) (r.take k)) with
   | some q=>some q
   | none=>_
  by_cases h:c.toNat<lo∨hi<c.toNat
  ·rw [ao h,ao h]
  ·rw [ah h,ah h,ih];cases fbad 128 191 (p+1) (r.take k) with
   | some q=>rfl
   | none =>
    simp only [aE,List.drop_succ_cons];by_cases hl:r.length<k
    ·rw [ao hl,ao (by omega)]
     congr 1
     omega
    ·rw [ah hl,ah (by omega),show p+1+k=p+(k+1) by omega]
end Um
namespace Hm
open Sw
def numAt (kp p:Nat) (b:Bytes):Except Fault (Nat×Nat):=match varyOf p b with
 | .error e=>.error e
 | .ok (z,l)=>if NUMBER<z / 2 then .error ⟨4,kp⟩ else match someOf (p+l) (z / 2) (b.drop l) with
  | .error e=>.error e
  | .ok m=>if m.getLast? = some 0∨z=1 then .error ⟨4,kp⟩ else .ok (l,z / 2)
def strAt (text:Bool) (p:Nat) (b:Bytes):Except Fault (Nat×Nat):=match varyOf p b with
 | .error e=>.error e
 | .ok (n,l)=>match someOf (p+l) n (b.drop l) with
  | .error e=>.error e
  | .ok m=>if text=true then (match textOf (p+l) m with
    | .error e=>.error e
    | .ok _=>.ok (n,l)) else .ok (n,l)
def nameAt (prev:Option Bytes) (p:Nat) (b:Bytes):Except Fault (Nat×Nat):=match varyOf p b with
 | .error e=>.error e
 | .ok (k,l)=>if k=0∨NAME<k then .error ⟨6,p⟩ else match someOf (p+l) k (b.drop l) with
  | .error e=>.error e
  | .ok m=>match textOf (p+l) m with
   | .error e=>.error e
   | .ok _=>if (match prev with
     | some q=>bytesBefore q m
     | none=>true)=false then .error ⟨6,p⟩ else .ok (k,l)
theorem eA {p n:Nat} {b m:Bytes} (h:someOf p n b = .ok m):n≤b.length∧m=b.take n:=by
 unfold someOf at h;split at h
 ·cases h
 ·rename_i hl
  injection h with h;exact ⟨by omega,h.symm⟩
theorem some_of {p n:Nat} {b:Bytes} (h:n≤b.length):someOf p n b = .ok (b.take n):=by
 unfold someOf;rw [ah (by omega)]
theorem some_no {p n:Nat} {b:Bytes} (h:b.length<n):someOf p n b = .error ⟨1,p+b.length⟩:=by
 unfold someOf;rw [ao h]
theorem last_of {b:Bytes} {n:Nat} (h:n≤b.length) (hn:0<n):(b.take n).getLast? = b[n - 1]?:=by
 rw [eW,aY,cA h,d7 (by omega)]
end Hm
namespace Pm
open Sw Hm
structure PD where
 kind:Nat
 place:Nat
 ins:Nat
 fin:Nat
 size:Nat
 depth:Nat
 np:Nat
 nl:Nat
inductive PT where
 | node (d:PD) (ms:List PT)
def PT.d:PT→PD
 | .node d _=>d
def PT.ms:PT→List PT
 | .node _ ms=>ms
def PT.nm (t:PT) (np nl:Nat):PT:=.node { t.d with np:=np,nl:=nl } t.ms
def headAt (lv p:Nat) (b:Bytes):Except Fault (Nat×Nat×Nat×Nat):=match b with
 | []=>.error ⟨1,p⟩
 | k::r=>if 8<k.toNat then .error ⟨2,p⟩ else if DEEP<lv then .error ⟨7,p⟩
  else if k.toNat=2 then (match numAt p (p+1) r with
   | .error e=>.error e
   | .ok (l,h)=>.ok (k.toNat,0,1+l,1+l+h))
  else if k.toNat=3∨k.toNat=4 then (match strAt (decide (k.toNat=4)) (p+1) r with
   | .error e=>.error e
   | .ok (n,l)=>.ok (k.toNat,n,1+l,1+l+n))
  else if k.toNat=5∨k.toNat=6 then (match varyOf (p+1) r with
   | .error e=>.error e
   | .ok (n,l)=>.ok (k.toNat,n,1+l,1+l))
  else if k.toNat=7 then (match someOf (p+1) 8 r with
   | .error e=>.error e
   | .ok _=>.ok (k.toNat,0,1,9))
  else if k.toNat=8 then (match someOf (p+1) 32 r with
   | .error e=>.error e
   | .ok _=>.ok (k.toNat,0,1,33))
  else .ok (k.toNat,0,1,1)
def nmAt (named:Bool) (prev:Option Bytes) (p:Nat) (b:Bytes):Except Fault (Nat×Nat):=if named=true then Hm.nameAt prev p b else .ok (0,0)
mutual
noncomputable def vAt:Nat→Nat→Nat→Bytes→Except Fault (PT×Nat)
 | 0,_,p,b=>.error ⟨1,p+b.length⟩
 | f+1,lv,p,b=>match headAt lv p b with
  | .error e=>.error e
  | .ok (k,n,i,u)=>if k=5∨k=6 then (match rAt f lv (decide (k=6)) n none (p+u) (b.drop u) with
    | .error e=>.error e
    | .ok (ms,dp,used)=>.ok (.node ⟨k,p,p+i,p+u+used,n,dp+1,0,0⟩ ms,u+used))
   else .ok (.node ⟨k,p,p+i,p+u,n,1,0,0⟩ [],u)
noncomputable def rAt:Nat→Nat→Bool→Nat→Option Bytes→Nat→Bytes→Except Fault (List PT×Nat×Nat)
 | 0,_,_,_,_,p,b=>.error ⟨1,p+b.length⟩
 | _+1,_,_,0,_,_,_=>.ok ([],0,0)
 | f+1,lv,named,n+1,prev,p,b=>match nmAt named prev p b with
  | .error e=>.error e
  | .ok (k,l)=>match vAt f (lv+1) (p+l+k) (b.drop (l+k)) with
   | .error e=>.error e
   | .ok (t,u)=>match rAt f lv named n (some ((b.drop l).take k)) (p+l+k+u) (b.drop (l+k+u)) with
    | .error e=>.error e
    | .ok (ms,dp,used)=>.ok (t.nm (if named=true then p+l else 0) k::ms,max t.d.depth dp,l+k+u+used)
end
theorem uf {kp p l' u:Nat} {b:Bytes} (h:numAt kp p b = .ok (l',u)):1≤l'∧l'+u≤b.length:=by
 unfold numAt at h;cases ev:varyOf p b with
 | error e=>rw [ev] at h;cases h
 | ok x =>
  obtain ⟨z,l⟩:=x
  rw [ev] at h;obtain ⟨u1,u2,u3,u4⟩:=Vm.vary_used ev
  dsimp only at h;split at h
  ·cases h
  ·cases es:someOf (p+l) (z / 2) (b.drop l) with
   | error e=>rw [es] at h;cases h
   | ok m =>
    rw [es] at h;obtain ⟨s1,s2⟩:=eA es
    rw [aC] at s1;dsimp only at h;split at h
    ·cases h
    ·injection h with h;injection h with h1 h2;omega
theorem tH {t:Bool} {p n u:Nat} {b:Bytes} (h:strAt t p b = .ok (n,u)):1≤u∧u+n≤b.length:=by
 unfold strAt at h;cases ev:varyOf p b with
 | error e=>rw [ev] at h;cases h
 | ok x =>
  obtain ⟨z,l⟩:=x
  rw [ev] at h;obtain ⟨u1,u2,u3,u4⟩:=Vm.vary_used ev
  dsimp only at h;cases es:someOf (p+l) z (b.drop l) with
  | error e=>rw [es] at h;cases h
  | ok m =>
   rw [es] at h;obtain ⟨s1,s2⟩:=eA es
   rw [aC] at s1;dsimp only at h;have fin:(Except.ok (z,l):Except Fault (Nat×Nat)) = .ok (n,u)→1≤u∧u+n≤b.length:=fun h=>by
    injection h with h;injection h with h1 h2;omega
   cases t with
   | false=>exact fin h
   | true =>
    rw [ao rfl] at h;cases et:textOf (p+l) m with
    | error e=>rw [et] at h;cases h
    | ok t=>rw [et] at h;exact fin h
theorem name_used {prev:Option Bytes} {p k l:Nat} {b:Bytes} (h:Hm.nameAt prev p b = .ok (k,l)):l+k≤b.length∧1≤k∧k≤255∧1≤l:=by
 unfold Hm.nameAt at h;cases ev:varyOf p b with
 | error e=>rw [ev] at h;cases h
 | ok x =>
  obtain ⟨z,l'⟩:=x
  rw [ev] at h;obtain ⟨u1,u2,u3,u4⟩:=Vm.vary_used ev
  dsimp only at h;split at h
  ·cases h
  ·rename_i hz
   have hz':¬(z=0∨255<z):=hz
   cases es:someOf (p+l') z (b.drop l') with
   | error e=>rw [es] at h;cases h
   | ok m =>
    rw [es] at h;obtain ⟨s1,s2⟩:=eA es
    rw [aC] at s1;dsimp only at h;cases et:textOf (p+l') m with
    | error e=>rw [et] at h;cases h
    | ok t =>
     rw [et] at h;dsimp only at h;have fin:(Except.ok (z,l'):Except Fault (Nat×Nat)) = .ok (k,l)→l+k≤b.length∧1≤k∧k≤255∧1≤l:=fun h=>by
      injection h with h;injection h with h1 h2;omega
     cases prev with
     | none=>exact fin h
     | some q0 =>
      dsimp only at h;by_cases hb:bytesBefore q0 m=false
      ·rw [ao hb] at h;cases h
      ·rw [ah hb] at h;exact fin h
theorem nm_used {named:Bool} {prev:Option Bytes} {p k l:Nat} {b:Bytes} (h:nmAt named prev p b = .ok (k,l)):l+k≤b.length∧k≤255:=by
 unfold nmAt at h;cases named with
 | true =>
  rw [ao rfl] at h;have:=name_used h
  omega
 | false =>
  rw [ah aS] at h;injection h with h;injection h with h1 h2;omega
theorem head_used {lv p k n i u:Nat} {b:Bytes} (h:headAt lv p b = .ok (k,n,i,u)):1≤u∧u≤b.length∧k≤8:=by
 unfold headAt at h;cases b with
 | nil=>cases h
 | cons c r =>
  dsimp only at h;rw [aE];split at h
  ·cases h
  ·rename_i h8
   split at h
   ·cases h
   ·split at h
    ·cases e:numAt p (p+1) r with
     | error e'=>rw [e] at h;cases h
     | ok x =>
      obtain ⟨x1,x2⟩:=x
      rw [e] at h;have:=uf e
      injection h with h;injection h with h1 h2;injection h2 with h2 h3;injection h3 with h3 h4;omega
    ·split at h
     ·cases e:strAt (decide (c.toNat=4)) (p+1) r with
      | error e'=>rw [e] at h;cases h
      | ok x =>
       obtain ⟨x1,x2⟩:=x
       rw [e] at h;have:=tH e
       injection h with h;injection h with h1 h2;injection h2 with h2 h3;injection h3 with h3 h4;omega
     ·split at h
      ·cases e:varyOf (p+1) r with
       | error e'=>rw [e] at h;cases h
       | ok x =>
        obtain ⟨x1,x2⟩:=x
        rw [e] at h;have:=Vm.vary_used e
        injection h with h;injection h with h1 h2;injection h2 with h2 h3;injection h3 with h3 h4;omega
      ·split at h
       ·cases e:someOf (p+1) 8 r with
        | error e'=>rw [e] at h;cases h
        | ok x =>
         rw [e] at h;have:=(eA e).1
         injection h with h;injection h with h1 h2;injection h2 with h2 h3;injection h3 with h3 h4;omega
       ·split at h
        ·cases e:someOf (p+1) 32 r with
         | error e'=>rw [e] at h;cases h
         | ok x =>
          rw [e] at h;have:=(eA e).1
          injection h with h;injection h with h1 h2;injection h2 with h2 h3;injection h3 with h3 h4;omega
        ·injection h with h;injection h with h1 h2;injection h2 with h2 h3;injection h3 with h3 h4;omega
mutual
theorem kN:∀ (f lv p:Nat) (b:Bytes) {t:PT} {u:Nat},vAt f lv p b = .ok (t,u)→1≤u∧u≤b.length∧1≤t.d.depth
 | 0,_,p,b,_,_,h=>by unfold vAt at h;cases h
 | f+1,lv,p,b,t,u,h=>by
  unfold vAt at h;cases eh:headAt lv p b with
  | error e=>rw [eh] at h;cases h
  | ok x =>
   obtain ⟨k,n,i,u'⟩:=x
   rw [eh] at h;obtain ⟨h1,h2,h3⟩:=head_used eh
   dsimp only at h;by_cases hk:k=5∨k=6
   ·rw [ao hk] at h;cases er:rAt f lv (decide (k=6)) n none (p+u') (b.drop u') with
    | error e=>rw [er] at h;cases h
    | ok y =>
     obtain ⟨ms',dp,used⟩:=y
     rw [er] at h;have hr:=rAt_used f lv _ _ _ _ _ er
     rw [aC] at hr;injection h with h;injection h with e1 e2;subst e1;dsimp only [PT.d];omega
   ·rw [ah hk] at h;injection h with h;injection h with e1 e2;subst e1;dsimp only [PT.d];omega
theorem rAt_used:∀ (f lv:Nat) (named:Bool) (n:Nat) (prev:Option Bytes) (p:Nat) (b:Bytes) {ms:List PT} {dp u:Nat},rAt f lv named n prev p b = .ok (ms,dp,u)→u≤b.length
 | 0,_,_,_,_,p,b,_,_,_,h=>by unfold rAt at h;cases h
 | f+1,lv,named,0,prev,p,b,ms,dp,u,h=>by
  unfold rAt at h;injection h with h;injection h with e1 e2;injection e2 with e2 e3;omega
 | f+1,lv,named,n+1,prev,p,b,ms,dp,u,h=>by
  unfold rAt at h;cases en:nmAt named prev p b with
  | error e=>rw [en] at h;cases h
  | ok x =>
   obtain ⟨k,l⟩:=x
   rw [en] at h;have hn:=nm_used en
   dsimp only at h;cases ev:vAt f (lv+1) (p+l+k) (b.drop (l+k)) with
   | error e=>rw [ev] at h;cases h
   | ok y =>
    obtain ⟨t,u1⟩:=y
    rw [ev] at h;have hv:=kN f _ _ _ ev
    rw [aC] at hv;dsimp only at h;cases er:rAt f lv named n (some ((b.drop l).take k)) (p+l+k+u1) (b.drop (l+k+u1)) with
    | error e=>rw [er] at h;cases h
    | ok z =>
     obtain ⟨ms2,dp2,u2⟩:=z
     rw [er] at h;have hr:=rAt_used f lv _ _ _ _ _ er
     rw [aC] at hr;injection h with h;injection h with e1 e2;injection e2 with e2 e3;omega
end
mutual
theorem kO:∀ (f g lv p:Nat) (b:Bytes),2*b.length+1≤f→2*b.length+1≤g→vAt f lv p b=vAt g lv p b
 | 0,_,_,_,_,h,_=>by omega
 | _+1,0,_,_,_,_,h=>by omega
 | f+1,g+1,lv,p,b,hf,hg=>by
  unfold vAt;cases eh:headAt lv p b with
  | error e=>rfl
  | ok x =>
   obtain ⟨k,n,i,u⟩:=x
   obtain ⟨h1,h2,_⟩:=head_used eh
   dsimp only;by_cases hk:k=5∨k=6
   ·rw [ao hk,ao hk,rAt_fuel f g lv (decide (k=6)) n none (p+u) (b.drop u) (by rw [aC];omega) (by rw [aC];omega)]
   ·rw [ah hk,ah hk]
theorem rAt_fuel:∀ (f g lv:Nat) (named:Bool) (n:Nat) (prev:Option Bytes) (p:Nat) (b:Bytes),2*b.length+2≤f→2*b.length+2≤g→rAt f lv named n prev p b=rAt g lv named n prev p b
 | 0,_,_,_,_,_,_,_,h,_=>by omega
 | _+1,0,_,_,_,_,_,_,_,h=>by omega
 | f+1,g+1,lv,named,0,prev,p,b,hf,hg=>by unfold rAt;rfl
 | f+1,g+1,lv,named,n+1,prev,p,b,hf,hg=>by
  unfold rAt;cases en:nmAt named prev p b with
  | error e=>rfl
  | ok x =>
   obtain ⟨k,l⟩:=x
   have hn:=nm_used en
   dsimp only;rw [kO f g (lv+1) (p+l+k) (b.drop (l+k)) (by rw [aC];omega) (by rw [aC];omega)]
   cases ev:vAt g (lv+1) (p+l+k) (b.drop (l+k)) with
   | error e=>rfl
   | ok y =>
    obtain ⟨t,u1⟩:=y
    have hv:=kN g _ _ _ ev
    rw [aC] at hv;dsimp only;rw [rAt_fuel f g lv named n (some ((b.drop l).take k)) (p+l+k+u1) (b.drop (l+k+u1)) (by rw [aC];omega) (by rw [aC];omega)]
end
def Vw (lv p:Nat) (b:Bytes):Except Fault (PT×Nat):=vAt (2*b.length+1) lv p b
def Rw (lv:Nat) (named:Bool) (n:Nat) (prev:Option Bytes) (p:Nat) (b:Bytes):Except Fault (List PT×Nat×Nat):=rAt (2*b.length+2) lv named n prev p b
theorem wH (lv p:Nat) (b:Bytes):Vw lv p b=match headAt lv p b with
  | .error e=>.error e
  | .ok (k,n,i,u)=>if k=5∨k=6 then (match Rw lv (decide (k=6)) n none (p+u) (b.drop u) with
    | .error e=>.error e
    | .ok (ms,dp,used)=>.ok (.node ⟨k,p,p+i,p+u+used,n,dp+1,0,0⟩ ms,u+used))
   else .ok (.node ⟨k,p,p+i,p+u,n,1,0,0⟩ [],u):=by
 unfold Vw Rw;conv=>lhs;unfold vAt
 cases eh:headAt lv p b with
 | error e=>rfl
 | ok x =>
  obtain ⟨k,n,i,u⟩:=x
  obtain ⟨h1,h2,_⟩:=head_used eh
  dsimp only;rw [rAt_fuel (2*b.length) (2*(b.drop u).length+2) lv (decide (k=6)) n none (p+u) (b.drop u) (by rw [aC];omega) (by omega)]
theorem n6 (lv:Nat) (named:Bool) (prev:Option Bytes) (p:Nat) (b:Bytes):Rw lv named 0 prev p b = .ok ([],0,0):=by
 unfold Rw rAt;rfl
theorem wg (lv:Nat) (named:Bool) (n:Nat) (prev:Option Bytes) (p:Nat) (b:Bytes):Rw lv named (n+1) prev p b=match nmAt named prev p b with
  | .error e=>.error e
  | .ok (k,l)=>match Vw (lv+1) (p+l+k) (b.drop (l+k)) with
   | .error e=>.error e
   | .ok (t,u)=>match Rw lv named n (some ((b.drop l).take k)) (p+l+k+u) (b.drop (l+k+u)) with
    | .error e=>.error e
    | .ok (ms,dp,used)=>.ok (t.nm (if named=true then p+l else 0) k::ms,max t.d.depth dp,l+k+u+used):=by
 unfold Vw Rw;conv=>lhs;unfold rAt
 cases en:nmAt named prev p b with
 | error e=>rfl
 | ok x =>
  obtain ⟨k,l⟩:=x
  have hn:=nm_used en
  dsimp only;rw [kO (2*b.length+1) (2*(b.drop (l+k)).length+1) (lv+1) (p+l+k) (b.drop (l+k)) (by rw [aC];omega) (by omega)]
  cases ev:vAt (2*(b.drop (l+k)).length+1) (lv+1) (p+l+k) (b.drop (l+k)) with
  | error e=>rfl
  | ok y =>
   obtain ⟨t,u1⟩:=y
   have hv:=kN _ _ _ _ ev
   rw [aC] at hv;dsimp only;rw [rAt_fuel (2*b.length+1) (2*(b.drop (l+k+u1)).length+2) lv named n (some ((b.drop l).take k)) (p+l+k+u1) (b.drop (l+k+u1)) (by rw [aC];omega) (by omega)]
theorem gO {lo hi x p y:Nat} {b r:Bytes} (h:follow 0 lo hi x p b = .ok (y,r)):y=x∧r=b:=by
 unfold follow at h;injection h with h;injection h with h1 h2;exact ⟨h1.symm,h2.symm⟩
theorem fC {k lo hi x p y:Nat} {b r:Bytes} (h:follow (k+1) lo hi x p b = .ok (y,r)):∃ (c:UInt8) (b':Bytes),b=c::b'∧lo≤c.toNat∧c.toNat≤hi∧follow k 128 191 (64*x+c.toNat % 64) (p+1) b' = .ok (y,r):=by
 cases b with
 | nil=>unfold follow at h;cases h
 | cons c b =>
  unfold follow at h;by_cases hc:lo≤c.toNat∧c.toNat≤hi
  ·rw [ao hc] at h;exact ⟨c,b,rfl,hc.1,hc.2,h⟩
  ·rw [ah hc] at h;cases h
theorem uM {c:Nat} (h:Um.cf c≠0):(Um.cf c=1∧194≤c∧c≤223)∨(Um.cf c=2∧224≤c∧c≤239)∨(Um.cf c=3∧240≤c∧c≤244):=by
 unfold Um.cf at h ⊢;by_cases h1:194≤c∧c≤223
 ·rw [ao h1];exact .inl ⟨rfl,h1⟩
 ·rw [ah h1] at h ⊢;by_cases h2:224≤c∧c≤239
  ·rw [ao h2];exact .inr (.inl ⟨rfl,h2⟩)
  ·rw [ah h2] at h ⊢;by_cases h3:240≤c∧c≤244
   ·rw [ao h3];exact .inr (.inr ⟨rfl,h3⟩)
   ·rw [ah h3] at h;exact aP rfl h
theorem of_eq {n:Nat} {c:UInt8} (h:n=c.toNat):UInt8.ofNat n=c:=by rw [h,UInt8.ofNat_toNat]
theorem pX {p y:Nat} {b r:Bytes} (h:scalarAt p b = .ok (y,r)):b=utf8One y++r∧isScalar y=true:=by
 unfold scalarAt at h;cases b with
 | nil=>cases h
 | cons c0 b =>
  dsimp only at h;have hl:=Um.leads_eq c0.toNat c0.toNat_lt
  by_cases h1:c0.toNat<128
  ·rw [ao h1] at hl;rw [hl] at h;obtain ⟨e1,e2⟩:=gO h
   have e1:y=c0.toNat:=e1
   subst e1 e2;unfold utf8One isScalar;rw [ao (by omega),of_eq rfl,aq (show c0.toNat<55296 by omega)]
   exact ⟨rfl,rfl⟩
  ·rw [ah h1] at hl;by_cases h2:Um.cf c0.toNat=0
   ·rw [ao h2] at hl;rw [hl] at h;cases h
   ·rw [ah h2] at hl;rw [hl] at h;dsimp only at h;have hsc:∀ {y:Nat},(y<55296∨(57344≤y∧y≤1114111))→isScalar y=true:=fun {y} q=>by
     unfold isScalar;rcases q with q | q
     ·rw [aq q];rfl
     ·rw [aq q.1,aq q.2];simp
    rcases uM h2 with ⟨f1,f2,f3⟩ | ⟨f1,f2,f3⟩ | ⟨f1,f2,f3⟩
    ·rw [f1] at h;obtain ⟨c1,b1,rfl,l1,u1,h⟩:=fC h
     obtain ⟨e1,e2⟩:=gO h
     subst e2;have m1:128≤c1.toNat∧c1.toNat≤191:=by
      unfold Um.ls at l1;unfold Um.hs at u1;rw [ah (by omega),ah (by omega)] at l1 u1
      exact ⟨l1,u1⟩
     simp only [firstBits] at e1;refine ⟨?_,hsc (by omega)⟩
     unfold utf8One;rw [ah (by omega),ao (by omega),of_eq (show 0xC0+y / 64=c0.toNat by omega),of_eq (show 0x80+y % 64=c1.toNat by omega)]
     rfl
    ·rw [f1] at h;obtain ⟨c1,b1,rfl,l1,u1,h⟩:=fC h
     obtain ⟨c2,b2,rfl,l2,u2,h⟩:=fC h
     obtain ⟨e1,e2⟩:=gO h
     subst e2;have m1:128≤c1.toNat∧c1.toNat≤191∧(c0.toNat=224→160≤c1.toNat)∧(c0.toNat=237→c1.toNat≤159):=by
      unfold Um.ls at l1;unfold Um.hs at u1;by_cases q1:c0.toNat=224
      ·rw [ao q1] at l1;rw [ah (by omega),ah (by omega)] at u1
       omega
      ·rw [ah q1,ah (by omega)] at l1
       by_cases q2:c0.toNat=237
       ·rw [ao q2] at u1;omega
       ·rw [ah q2,ah (by omega)] at u1
        omega
     simp only [firstBits] at e1;refine ⟨?_,hsc (by omega)⟩
     unfold utf8One;rw [ah (by omega),ah (by omega),ao (by omega),of_eq (show 0xE0+y / 4096=c0.toNat by omega),of_eq (show 0x80+y / 64 % 64=c1.toNat by omega),of_eq (show 0x80+y % 64=c2.toNat by omega)]
     rfl
    ·rw [f1] at h;obtain ⟨c1,b1,rfl,l1,u1,h⟩:=fC h
     obtain ⟨c2,b2,rfl,l2,u2,h⟩:=fC h
     obtain ⟨c3,b3,rfl,l3,u3,h⟩:=fC h
     obtain ⟨e1,e2⟩:=gO h
     subst e2;have m1:128≤c1.toNat∧c1.toNat≤191∧(c0.toNat=240→144≤c1.toNat)∧(c0.toNat=244→c1.toNat≤143):=by
      unfold Um.ls at l1;unfold Um.hs at u1;rw [ah (by omega)] at l1 u1
      by_cases q1:c0.toNat=240
      ·rw [ao q1] at l1;rw [ah (by omega)] at u1
       omega
      ·rw [ah q1] at l1;by_cases q2:c0.toNat=244
       ·rw [ao q2] at u1;omega
       ·rw [ah q2] at u1;omega
     simp only [firstBits] at e1;refine ⟨?_,hsc (by omega)⟩
     unfold utf8One;rw [ah (by omega),ah (by omega),ah (by omega),of_eq (show 0xF0+y / 262144=c0.toNat by omega),of_eq (show 0x80+y / 4096 % 64=c1.toNat by omega),of_eq (show 0x80+y / 64 % 64=c2.toNat by omega),of_eq (show 0x80+y % 64=c3.toNat by omega)]
     rfl
theorem ka:∀ (f p:Nat) (b:Bytes) {t:List Nat},scalarsFrom f p b = .ok t→utf8 t=b∧t.all isScalar=true
 | 0,p,[],t,h=>by
  unfold scalarsFrom at h;injection h with h;subst h;exact ⟨rfl,rfl⟩
 | f+1,p,[],t,h=>by
  unfold scalarsFrom at h;injection h with h;subst h;exact ⟨rfl,rfl⟩
 | 0,p,c::b,t,h=>by unfold scalarsFrom at h;cases h
 | f+1,p,c::b,t,h=>by
  unfold scalarsFrom at h;cases e:scalarAt p (c::b) with
  | error q=>rw [e] at h;cases h
  | ok x =>
   obtain ⟨y,r⟩:=x
   rw [e] at h;dsimp only at h;obtain ⟨s1,s2⟩:=pX e
   cases e2:scalarsFrom f (p+((c::b).length - r.length)) r with
   | error q=>rw [e2] at h;cases h
   | ok l =>
    rw [e2] at h;have h':(Except.ok (y::l):Except Nat (List Nat)) = .ok t:=h
    injection h' with h'
    subst h'
    obtain ⟨i1,i2⟩:=ka f _ r e2
    refine ⟨?_,by rw [f9,s2,i2];rfl⟩
    unfold utf8 at i1 ⊢;rw [List.flatMap_cons,i1,←s1]
theorem ox {p:Nat} {b:Bytes} {t:List Nat} (h:textOf p b = .ok t):utf8 t=b∧t.all isScalar=true:=by
 unfold textOf scalars at h;cases e:scalarsFrom b.length p b with
 | error q=>rw [e] at h;cases h
 | ok l =>
  rw [e] at h;injection h with h;subst h;exact ka _ _ _ e
theorem jE:∀ (k lo hi x p p':Nat) (b:Bytes) {z:Nat×Bytes},follow k lo hi x p b = .ok z→follow k lo hi x p' b = .ok z
 | 0,_,_,_,_,_,_,z,h=>by unfold follow at h ⊢;exact h
 | k+1,_,_,_,_,_,[],z,h=>by unfold follow at h;cases h
 | k+1,lo,hi,x,p,p',c::b,z,h=>by
  unfold follow at h ⊢;by_cases hc:lo≤c.toNat∧c.toNat≤hi
  ·rw [ao hc] at h ⊢;exact jE k _ _ _ _ _ b h
  ·rw [ah hc] at h;cases h
theorem kS:∀ (f p p':Nat) (b:Bytes) {t:List Nat},scalarsFrom f p b = .ok t→scalarsFrom f p' b = .ok t
 | 0,p,p',[],t,h=>by unfold scalarsFrom at h ⊢;exact h
 | f+1,p,p',[],t,h=>by unfold scalarsFrom at h ⊢;exact h
 | 0,p,p',c::b,t,h=>by unfold scalarsFrom at h;cases h
 | f+1,p,p',c::b,t,h=>by
  unfold scalarsFrom at h ⊢;cases e:scalarAt p (c::b) with
  | error q=>rw [e] at h;cases h
  | ok x =>
   have e':scalarAt p' (c::b) = .ok x:=by
    unfold scalarAt at e ⊢;dsimp only at e ⊢;cases hl:leads c.toNat with
    | none=>rw [hl] at e;cases e
    | some y =>
     obtain ⟨k,lo,hi⟩:=y
     rw [hl] at e;exact jE _ _ _ _ _ _ _ e
   obtain ⟨y,r⟩:=x
   rw [e] at h;rw [e'];dsimp only at h ⊢;cases e2:scalarsFrom f (p+((c::b).length - r.length)) r with
   | error q=>rw [e2] at h;cases h
   | ok l =>
    rw [e2] at h;rw [kS f _ (p'+((c::b).length - r.length)) r e2];exact h
theorem rM {p:Nat} {b:Bytes} {t:List Nat} (h:textOf p b = .ok t):scalars 0 b = .ok t:=by
 unfold textOf scalars at h;unfold scalars;cases e:scalarsFrom b.length p b with
 | error q=>rw [e] at h;cases h
 | ok l =>
  rw [e] at h;injection h with h;subst h;exact kS _ _ _ _ e
theorem oe:∀ (h:Bytes) (c:UInt8),Vm.High h→c.toNat<128→(0<h.length→c≠0)→vary (Vm.val (h++[c]))=h++[c]
 | [],c,_,hc,_=>by
  have e:Vm.val ([]++[c])=c.toNat:=by
   show c.toNat % 128+128*0=c.toNat
   omega
  rw [e];unfold vary;rw [ao hc,of_eq rfl];rfl
 | x::h,c,hh,hc,hz=>by
  have ih:=oe h c (fun d hd=>hh d (by simp [hd])) hc fun _=>hz (by rw [aE];omega)
  have hx0:=hh x (by simp)
  have e:Vm.val (x::h++[c])=x.toNat % 128+128*Vm.val (h++[c]):=rfl
  have c0:c≠0:=hz (by rw [aE];omega)
  have c1:0<c.toNat:=by
   apply Nat.pos_of_ne_zero
   intro z;exact c0 (UInt8.toNat_inj.mp z)
  have pos:0<Vm.val (h++[c]):=by
   rw [Vm.val_snoc];have:0<c.toNat % 128*128 ^ h.length:=Nat.mul_pos (by omega) (Nat.pow_pos (by decide))
   omega
  have hx:x.toNat % 128<128:=Nat.mod_lt _ (by decide)
  have hx2:=x.toNat_lt
  rw [e];unfold vary;rw [ah (by omega)]
  have d:(x.toNat % 128+128*Vm.val (h++[c])) / 128=Vm.val (h++[c]):=by omega
  rw [d,ih,of_eq (show 128+(x.toNat % 128+128*Vm.val (h++[c])) % 128=x.toNat by omega)]
  rfl
theorem gw {p n l:Nat} {b:Bytes} (h:varyOf p b = .ok (n,l)):vary n=b.take l:=by
 unfold varyOf at h;simp only at h;generalize hh:((b.take 5).takeWhile fun (c:UInt8)=>decide (128≤c.toNat))=t at h
 by_cases h5:t.length=5
 ·rw [ao h5] at h;cases h
 ·rw [ah h5] at h;split at h
  ·cases h
  ·rename_i c r hd
   split at h
   ·cases h
   ·rename_i hn
    split at h
    ·cases h
    ·injection h with h;injection h with h1 h2;subst h1 h2;have ht:t.length≤5:=by
      rw [←hh];exact bH (List.takeWhile_sublist _).length_le (by rw [aY];exact Nat.min_le_left _ _)
     have hb:b=t++c::r:=by
      have p1:t <+: b.take 5:=by rw [←hh];exact List.takeWhile_prefix _
      have p2:t <+: b:=p1.trans (List.take_prefix _ _)
      obtain ⟨s,hs⟩:=p2
      rw [←hs,eS] at hd;rw [←hs,hd]
     have hhigh:Vm.High t:=fun d hd=>by
      rw [←hh] at hd;exact of_decide_eq_true (dH.mp List.all_takeWhile d hd)
     have hc:c.toNat<128:=by
      apply Nat.lt_of_not_le
      intro hle;have e:b.take 5=t++c::r.take (4 - t.length):=by
       rw [hb,ik,bJ (by omega),show 5 - t.length=(4 - t.length)+1 by omega,eY]
      rw [e,List.takeWhile_append] at hh;split at hh
      ·rename_i q
       rw [eZ,ao (aq hle)] at hh;have:=congrArg List.length hh
       simp at this
      ·rename_i q
       apply q
       rw [hh]
     have e2:b.take (t.length+1)=t++[c]:=by
      rw [hb,ik,bJ (by omega),show t.length+1 - t.length=1 by omega]
      rfl
     rw [e2];exact oe t c hhigh hc fun z=>fun z2=>hn ⟨z,z2⟩
theorem fB {p n l:Nat} {b:Bytes} (h:varyOf p b = .ok (n,l)):(vary n).length=l:=by
 have u:=Vm.vary_used h
 rw [gw h,aY];omega
theorem le_succ (k n:Nat):le (k+1) n=UInt8.ofNat (n % 256)::le k (n / 256):=by
 unfold le;rw [List.range_succ_eq_map,ba,eD];congr 1
 ·rw [Nat.pow_zero,Nat.div_one]
 ·apply List.map_congr_left
  intro i _;show UInt8.ofNat (n / 256 ^ (i+1) % 256)=UInt8.ofNat (n / 256 / 256 ^ i % 256)
  rw [fM,Nat.mul_comm,←Nat.div_div_eq_div_mul]
theorem nG:∀ (m:Bytes),le m.length (ofLe m)=m
 | []=>rfl
 | c::m=>by
  have e:ofLe (c::m)=c.toNat+256*ofLe m:=rfl
  have c2:=c.toNat_lt
  rw [aE,le_succ,e,of_eq (show (c.toNat+256*ofLe m) % 256=c.toNat by omega),show (c.toNat+256*ofLe m) / 256=ofLe m by omega,nG m]
theorem nz:∀ (m:Bytes),ofLe m<256 ^ m.length
 | []=>by decide
 | c::m=>by
  have e:ofLe (c::m)=c.toNat+256*ofLe m:=rfl
  have c2:=c.toNat_lt
  have ih:=nz m
  rw [e,aE,fM];omega
theorem lQ:∀ (m:Bytes),m.getLast?≠some 0→amountLength (ofLe m)=m.length∧(m≠[]→0<ofLe m)
 | [],_=>by
  refine ⟨?_,fun z=>aP rfl z⟩
  show amountLength 0=0
  unfold amountLength;rfl
 | [c],h=>by
  have c0:c≠0:=fun z=>h (by rw [z];rfl)
  have c1:0<c.toNat:=Nat.pos_of_ne_zero fun z=>c0 (UInt8.toNat_inj.mp z)
  have c2:=c.toNat_lt
  have e:ofLe [c]=c.toNat:=by
   show c.toNat+256*0=c.toNat
   omega
  rw [e];refine ⟨?_,fun _=>c1⟩
  unfold amountLength;rw [ah (by omega),show c.toNat / 256=0 by omega]
  unfold amountLength;rfl
 | c::d::m,h=>by
  have ih:=lQ (d::m) (by rw [fD] at h;exact h)
  have e:ofLe (c::d::m)=c.toNat+256*ofLe (d::m):=rfl
  have pos:=ih.2 (by simp)
  have c2:=c.toNat_lt
  rw [e];refine ⟨?_,fun _=>by omega⟩
  unfold amountLength;rw [ah (by omega),show (c.toNat+256*ofLe (d::m)) / 256=ofLe (d::m) by omega,ih.1]
  rfl
def mZ (z:Int):Nat:=2*amountLength z.natAbs+if z<0 then 1 else 0
theorem oY {z:Nat} {m:Bytes} (hm:m.length=z / 2) (h0:¬(m.getLast? = some 0∨z=1)) :
  mZ (if z % 2=1 then -(ofLe m:Int) else (ofLe m:Int))=z∧(if z % 2=1 then -(ofLe m:Int) else (ofLe m:Int)).natAbs=ofLe m∧amountLength (ofLe m)=m.length:=by
 have a:=lQ m fun q=>h0 (.inl q)
 have na:(if z % 2=1 then -(ofLe m:Int) else (ofLe m:Int)).natAbs=ofLe m:=by split<;>omega
 refine ⟨?_,na,a.1⟩
 unfold mZ;rw [na,a.1,hm];by_cases hz:z % 2=1
 ·have hne:m≠[]:=fun q=>by
   rw [q] at hm;have:z / 2=0:=hm.symm
   exact h0 (.inr (by omega))
  have:=a.2 hne
  rw [ao hz,ao (by omega)]
  omega
 ·rw [ah hz,ah (by omega)]
  omega
theorem tQ (f lv:Nat) (named:Bool) (n:Nat) (prev:Option Bytes) (p:Nat) (b:Bytes):rowAt (f+1) lv named (n+1) prev p b=match nmAt named prev p b with
  | .error e=>.error e
  | .ok (k,l)=>match valueAt f (lv+1) (p+l+k) (b.drop (l+k)) with
   | .error e=>.error e
   | .ok (v,u)=>match rowAt f lv named n (some ((b.drop l).take k)) (p+l+k+u) (b.drop (l+k+u)) with
    | .error e=>.error e
    | .ok (m,u2)=>.ok (.cons ((b.drop l).take k) v m,l+k+u+u2):=by
 have tail:∀ (name:Bytes) (l:Nat),(Except.bind (valueAt f (lv+1) (p+l) (b.drop l)) fun x=>Except.bind (rowAt f lv named n (some name) (p+l+x.2) (b.drop (l+x.2))) fun y=>(Except.ok (Row.cons name x.1 y.1,l+x.2+y.2):Except Fault (Row×Nat)))
   = match valueAt f (lv+1) (p+l) (b.drop l) with
   | .error e=>.error e
   | .ok (v,u)=>match rowAt f lv named n (some name) (p+l+u) (b.drop (l+u)) with
    | .error e=>.error e
    | .ok (m,u2)=>.ok (.cons name v m,l+u+u2):=fun name l=>by
  cases ev:valueAt f (lv+1) (p+l) (b.drop l) with
  | error e=>rfl
  | ok x =>
   obtain ⟨v,u⟩:=x
   simp only [Except.bind];cases er:rowAt f lv named n (some name) (p+l+u) (b.drop (l+u)) with
   | error e=>rfl
   | ok y=>rfl
 conv=>lhs;unfold rowAt
 unfold nmAt;cases named with
 | false =>
  have t0:=tail [] 0
  exact t0
 | true =>
  unfold Hm.nameAt;cases ev:varyOf p b with
  | error e=>rfl
  | ok x =>
   obtain ⟨k,l⟩:=x
   simp only [bind,Except.bind,if_true];by_cases hk:k=0∨NAME<k
   ·simp only [ao hk]
   ·simp only [ah hk];cases es:someOf (p+l) k (b.drop l) with
    | error e=>rfl
    | ok m =>
     simp only;obtain ⟨_,em⟩:=eA es
     subst em;cases et:textOf (p+l) ((b.drop l).take k) with
     | error e=>rfl
     | ok t =>
      have t0:=tail ((b.drop l).take k) (l+k)
      have e:p+l+k=p+(l+k):=bp ..
      cases prev with
      | none =>
       simp only [Bool.true_eq_false,if_false];rw [e];exact t0
      | some q0 =>
       simp only;by_cases hb:bytesBefore q0 ((b.drop l).take k)=false
       ·simp only [ao hb]
       ·simp only [ah hb];rw [e];exact t0
def VG (lv:Nat) (b:Bytes) (v:Value) (n:Nat):Prop:=v.enc=b.take n∧n≤b.length∧v.plain=true∧v.deep+lv≤65
def kU (prev:Option Bytes) (l:List Bytes):Bool:=match prev with
 | some q=>rising (q::l)
 | none=>rising l
def RG (lv:Nat) (named:Bool) (n:Nat) (prev:Option Bytes) (b:Bytes) (m:Row) (u:Nat):Prop:=m.enc named=b.take u∧u≤b.length∧m.length=n∧m.plain=true∧(lv≤64→m.deep+lv≤64) ∧
 (named=false→m.names.all (fun (x:Bytes)=>x==[])=true)∧(named=true→m.names.all nameOk=true∧kU prev m.names=true)
theorem fk {k:UInt8} {r:Bytes} {n:Nat}:(k::r).take (1+n)=k::r.take n:=by rw [iA 1 n];rfl
theorem ui {named:Bool} {prev:Option Bytes} {p k l:Nat} {b:Bytes} (h:nmAt named prev p b = .ok (k,l)) :
  ((b.drop l).take k).length=k∧l+k≤b.length∧(if named=true then vary ((b.drop l).take k).length++(b.drop l).take k else [])=b.take (l+k)∧(named=true→l=(vary k).length∧1≤k∧nameOk ((b.drop l).take k)=true∧(∀ q,prev=some q→bytesBefore q ((b.drop l).take k)=true))∧(named=false→k=0∧l=0):=by
 have u:=nm_used h
 have hl:((b.drop l).take k).length=k:=by rw [aY,aC];omega
 refine ⟨hl,u.1,?_⟩
 unfold nmAt at h;cases named with
 | false =>
  rw [ah aS] at h;injection h with h;injection h with h1 h2;subst h1 h2;exact ⟨rfl,fun z=>Bool.noConfusion z,fun _=>⟨rfl,rfl⟩⟩
 | true =>
  rw [ao rfl] at h;have nu:=name_used h
  unfold Hm.nameAt at h;cases ev:varyOf p b with
  | error e=>rw [ev] at h;cases h
  | ok x =>
   obtain ⟨z,l'⟩:=x
   rw [ev] at h;dsimp only at h;split at h
   ·cases h
   ·cases es:someOf (p+l') z (b.drop l') with
    | error e=>rw [es] at h;cases h
    | ok m =>
     rw [es] at h;obtain ⟨s1,s2⟩:=eA es
     dsimp only at h;cases et:textOf (p+l') m with
     | error e=>rw [et] at h;cases h
     | ok t =>
      rw [et] at h;dsimp only at h;have fin:(Except.ok (z,l'):Except Fault (Nat×Nat)) = .ok (k,l)→(∀ q,prev=some q→bytesBefore q m=true)→(if true=true then vary ((b.drop l).take k).length++(b.drop l).take k else [])=b.take (l+k)∧(true=true→l=(vary k).length∧1≤k∧nameOk ((b.drop l).take k)=true∧(∀ q,prev=some q→bytesBefore q ((b.drop l).take k)=true))∧(true=false→k=0∧l=0):=fun h hq=>by
       injection h with h;injection h with h1 h2;subst h1 h2;subst s2;refine ⟨?_,fun _=>⟨(fB ev).symm,nu.2.1,?_,hq⟩,fun z=>Bool.noConfusion z⟩
       ·rw [ao rfl,hl,gw ev,dY]
       ·unfold nameOk;rw [hl,rM et,aq nu.2.1,aq (show z≤NAME from nu.2.2.1)];rfl
      cases prev with
      | none=>exact fin h fun q z=>by cases z
      | some q0 =>
       dsimp only at h;by_cases hb:bytesBefore q0 m=false
       ·rw [ao hb] at h;cases h
       ·rw [ah hb] at h;refine fin h fun q z=>?_
        injection z with z;subst z;cases hq:bytesBefore q0 m with
        | true=>rfl
        | false=>exact aP hq hb
mutual
theorem qE:∀ (f lv p:Nat) (b:Bytes) {v:Value} {n:Nat},valueAt f lv p b = .ok (v,n)→VG lv b v n
 | 0,lv,p,b,v,n,h=>by unfold valueAt at h;cases h
 | f+1,lv,p,[],v,n,h=>by unfold valueAt at h;cases h
 | f+1,lv,p,k::r,v,n,h=>by
  unfold valueAt at h;simp only at h;by_cases h8:8<k.toNat
  ·rw [ao h8] at h;cases h
  ·rw [ah h8] at h;by_cases hd:DEEP<lv
   ·rw [ao hd] at h;cases h
   ·rw [ah hd] at h;have hd':lv≤64:=ij hd
    have hk:k.toNat=0∨k.toNat=1∨k.toNat=2∨k.toNat=3∨k.toNat=4∨k.toNat=5∨k.toNat=6∨k.toNat=7∨k.toNat=8:=by omega
    have ke:∀ {c:Nat},k.toNat=c→UInt8.ofNat c=k:=fun q=>of_eq q.symm
    have d1:∀ {w:Value},w.deep=1→w.deep+lv≤65:=fun q=>by rw [q];omega
    rcases hk with hk | hk | hk | hk | hk | hk | hk | hk | hk
    ·simp only [hk] at h;cases h;rw [←ke hk];exact ⟨rfl,by rw [aE];omega,rfl,d1 rfl⟩
    ·simp only [hk] at h;cases h;rw [←ke hk];exact ⟨rfl,by rw [aE];omega,rfl,d1 rfl⟩
    ·simp only [hk] at h;cases ev:varyOf (p+1) r with
     | error e=>rw [ev] at h;cases h
     | ok x =>
      obtain ⟨z,l⟩:=x
      rw [ev] at h;have vu:=Vm.vary_used ev
      simp only [bind,Except.bind] at h;by_cases hz:NUMBER<z / 2
      ·rw [ao hz] at h;cases h
      ·rw [ah hz] at h;cases es:someOf (p+1+l) (z / 2) (r.drop l) with
       | error e=>rw [es] at h;cases h
       | ok m =>
        rw [es] at h;simp only at h;obtain ⟨s1,s2⟩:=eA es
        rw [aC] at s1;by_cases hm:m.getLast? = some 0∨z=1
        ·rw [ao hm] at h;cases h
        ·rw [ah hm] at h;injection h with h;injection h with h1 h2;subst h1 h2;have ml:m.length=z / 2:=by rw [s2,aY,aC];omega
         obtain ⟨t1,t2,t3⟩:=oY ml hm
         refine ⟨?_,by rw [aE];omega,?_,d1 rfl⟩
         ·show 2::(vary (mZ _)++le (amountLength (Int.natAbs _)) (Int.natAbs _))=_
          rw [t1,t2,t3,nG,gw ev,bp,fk,dY,←s2,←ke hk];rfl
         ·have key:∀ N:Nat,m.length≤N→ofLe m<256 ^ N:=fun N q=>bc (nz m) (Nat.pow_le_pow_right (by decide) q)
          unfold Value.plain;rw [t2];exact aq (key NUMBER (by rw [ml];exact ij hz))
    ·simp only [hk] at h;cases ev:varyOf (p+1) r with
     | error e=>rw [ev] at h;cases h
     | ok x =>
      obtain ⟨z,l⟩:=x
      rw [ev] at h;have vu:=Vm.vary_used ev
      simp only [bind,Except.bind] at h;cases es:someOf (p+1+l) z (r.drop l) with
      | error e=>rw [es] at h;cases h
      | ok m =>
       rw [es] at h;obtain ⟨s1,s2⟩:=eA es
       rw [aC] at s1;injection h with h;injection h with h1 h2;subst h1 h2;have hl:m.length=z:=by rw [s2,aY,aC];omega
       refine ⟨?_,by rw [aE];omega,rfl,d1 rfl⟩
       show 3::(vary m.length++m)=_
       rw [hl,gw ev,bp,fk,dY,←s2,←ke hk];rfl
    ·simp only [hk] at h;cases ev:varyOf (p+1) r with
     | error e=>rw [ev] at h;cases h
     | ok x =>
      obtain ⟨z,l⟩:=x
      rw [ev] at h;have vu:=Vm.vary_used ev
      simp only [bind,Except.bind] at h;cases es:someOf (p+1+l) z (r.drop l) with
      | error e=>rw [es] at h;cases h
      | ok m =>
       rw [es] at h;simp only at h;obtain ⟨s1,s2⟩:=eA es
       rw [aC] at s1;cases et:textOf (p+1+l) m with
       | error e=>rw [et] at h;cases h
       | ok t =>
        rw [et] at h;injection h with h;injection h with h1 h2;subst h1 h2;have hl:m.length=z:=by rw [s2,aY,aC];omega
        obtain ⟨t1,t2⟩:=ox et
        refine ⟨?_,by rw [aE];omega,t2,d1 rfl⟩
        show 4::(vary (utf8 t).length++utf8 t)=_
        rw [t1,hl,gw ev,bp,fk,dY,←s2,←ke hk];rfl
    ·simp only [hk] at h;cases ev:varyOf (p+1) r with
     | error e=>rw [ev] at h;cases h
     | ok x =>
      obtain ⟨z,l⟩:=x
      rw [ev] at h;have vu:=Vm.vary_used ev
      simp only [bind,Except.bind] at h;cases er:rowAt f lv false z none (p+1+l) (r.drop l) with
      | error e=>rw [er] at h;cases h
      | ok y =>
       obtain ⟨m,u⟩:=y
       rw [er] at h;injection h with h;injection h with h1 h2;subst h1 h2;obtain ⟨e1,e2,e3,e4,e5,e6,e7⟩:=r_enc f lv false z none _ _ er
       rw [aC] at e2;refine ⟨?_,by rw [aE];omega,?_,by have:=e5 hd';show m.deep+1+lv≤65;omega⟩
       ·show 5::(vary m.length++m.enc false)=_
        rw [e3,e1,gw ev,bp,fk,dY,←ke hk];rfl
       ·show (m.plain&&m.names.all _)=true
        rw [e4,e6 rfl];rfl
    ·simp only [hk] at h;cases ev:varyOf (p+1) r with
     | error e=>rw [ev] at h;cases h
     | ok x =>
      obtain ⟨z,l⟩:=x
      rw [ev] at h;have vu:=Vm.vary_used ev
      simp only [bind,Except.bind] at h;cases er:rowAt f lv true z none (p+1+l) (r.drop l) with
      | error e=>rw [er] at h;cases h
      | ok y =>
       obtain ⟨m,u⟩:=y
       rw [er] at h;injection h with h;injection h with h1 h2;subst h1 h2;obtain ⟨e1,e2,e3,e4,e5,e6,e7⟩:=r_enc f lv true z none _ _ er
       rw [aC] at e2;refine ⟨?_,by rw [aE];omega,?_,by have:=e5 hd';show m.deep+1+lv≤65;omega⟩
       ·show 6::(vary m.length++m.enc true)=_
        rw [e3,e1,gw ev,bp,fk,dY,←ke hk];rfl
       ·show (m.plain&&(m.names.all _&&rising m.names))=true
        rw [e4,(e7 rfl).1,show rising m.names=true from (e7 rfl).2];rfl
    ·simp only [hk] at h;cases es:someOf (p+1) 8 r with
     | error e=>rw [es] at h;cases h
     | ok m =>
      rw [es] at h;obtain ⟨s1,s2⟩:=eA es
      injection h with h;injection h with h1 h2;subst h1 h2;have ml:m.length=8:=by rw [s2,aY];omega
      have lt:=nz m
      rw [ml] at lt;have lt:ofLe m<18446744073709551616:=lt
      have e1:(signed64 (ofLe m) % ((2 ^ 64:Nat):Int)).toNat=ofLe m:=by
       show (signed64 (ofLe m) % 18446744073709551616).toNat=ofLe m
       unfold signed64;by_cases q:ofLe m<2 ^ 63
       ·rw [ao q];omega
       ·rw [ah q];show (((ofLe m:Int) - 18446744073709551616) % 18446744073709551616).toNat=ofLe m
        omega
      refine ⟨?_,by rw [aE];omega,?_,d1 rfl⟩
      ·show 7::le 8 _=_
       rw [e1,←ml,nG,show (9:Nat)=1+8 from rfl,fk,←s2,←ke hk];rfl
      ·show (decide _&&decide _)=true
       unfold signed64;have p63:(2 ^ 63:Nat)=9223372036854775808:=rfl
       have p64:(2 ^ 64:Nat)=18446744073709551616:=rfl
       by_cases q:ofLe m<2 ^ 63
       ·rw [ao q,aq (by omega),aq (by omega)]
        rfl
       ·rw [ah q,aq (by omega),aq (by omega)]
        rfl
    ·simp only [hk] at h;cases es:someOf (p+1) 32 r with
     | error e=>rw [es] at h;cases h
     | ok m =>
      rw [es] at h;obtain ⟨s1,s2⟩:=eA es
      injection h with h;injection h with h1 h2;subst h1 h2;have ml:m.length=32:=by rw [s2,aY];omega
      refine ⟨?_,by rw [aE];omega,?_,d1 rfl⟩
      ·show 8::m=_
       rw [show (33:Nat)=1+32 from rfl,fk,←s2,←ke hk];rfl
      ·show (m.length==32)=true
       rw [ml];rfl
theorem r_enc:∀ (f lv:Nat) (named:Bool) (n:Nat) (prev:Option Bytes) (p:Nat) (b:Bytes) {m:Row} {u:Nat},rowAt f lv named n prev p b = .ok (m,u)→RG lv named n prev b m u
 | 0,lv,named,n,prev,p,b,m,u,h=>by unfold rowAt at h;cases h
 | f+1,lv,named,0,prev,p,b,m,u,h=>by
  unfold rowAt at h;cases h;refine ⟨by rw [cQ];rfl,a8 _,rfl,rfl,fun z=>by show 0+lv≤64;omega,fun _=>rfl,fun _=>⟨rfl,?_⟩⟩
  cases prev<;>rfl
 | f+1,lv,named,n+1,prev,p,b,m,u,h=>by
  rw [tQ] at h;cases en:nmAt named prev p b with
  | error e=>rw [en] at h;cases h
  | ok x =>
   obtain ⟨k,l⟩:=x
   rw [en] at h;simp only at h;obtain ⟨n1,n2,n3,n4,n5⟩:=ui en
   cases ev:valueAt f (lv+1) (p+l+k) (b.drop (l+k)) with
   | error e=>rw [ev] at h;cases h
   | ok y =>
    obtain ⟨v,u1⟩:=y
    rw [ev] at h;simp only at h;obtain ⟨e1,e2,e3,e4⟩:=qE f _ _ _ ev
    rw [aC] at e2;cases er:rowAt f lv named n (some ((b.drop l).take k)) (p+l+k+u1) (b.drop (l+k+u1)) with
    | error e=>rw [er] at h;cases h
    | ok z =>
     obtain ⟨m',u2⟩:=z
     rw [er] at h;injection h with h;injection h with h1 h2;subst h1 h2;obtain ⟨r1,r2,r3,r4,r5,r6,r7⟩:=r_enc f lv named n _ _ _ er
     rw [aC] at r2;refine ⟨?_,by omega,by show m'.length+1=n+1;rw [r3],by show (v.plain&&m'.plain)=true;rw [e3,r4];rfl,fun z=>?_,fun z=>?_,fun z=>?_⟩
     ·show (if named=true then vary ((b.drop l).take k).length++(b.drop l).take k else [])++(v.enc++m'.enc named)=_
      rw [n3,e1,r1,bp (l+k),dY (i:=l+k),dY (i:=u1),bZ]
     ·have:=r5 z
      show max v.deep m'.deep+lv≤64
      omega
     ·show ((b.drop l).take k::m'.names).all _=true
      rw [f9,r6 z,(n5 z).1,cQ];rfl
     ·obtain ⟨a1,a2,a3,a4⟩:=n4 z
      obtain ⟨b1,b2⟩:=r7 z
      refine ⟨?_,?_⟩
      ·show ((b.drop l).take k::m'.names).all _=true
       rw [f9,b1,a3];rfl
      ·show kU prev ((b.drop l).take k::m'.names)=true
       cases prev with
       | none=>exact b2
       | some q =>
        show (bytesBefore q ((b.drop l).take k)&&rising ((b.drop l).take k::m'.names))=true
        rw [a4 q rfl];exact b2
end
def ioff:Value→Nat
 | .num z=>1+(vary (mZ z)).length
 | .bytes b=>1+(vary b.length).length
 | .text t=>1+(vary (utf8 t).length).length
 | .list m=>1+(vary m.length).length
 | .rec_ m=>1+(vary m.length).length
 | _=>1
def jQ (named:Bool) (n:Bytes):Nat:=if named=true then (vary n.length).length+n.length else 0
def pdOf (v:Value) (p np nl:Nat):PD:=⟨v.kind,p,p+ioff v,p+v.enc.length,Values.countOf v,v.deep,np,nl⟩
mutual
noncomputable def trV:Value→Nat→Nat→Nat→PT
 | .list m,p,np,nl=>.node (pdOf (.list m) p np nl) (trR m false (p+ioff (.list m)))
 | .rec_ m,p,np,nl=>.node (pdOf (.rec_ m) p np nl) (trR m true (p+ioff (.rec_ m)))
 | .no,p,np,nl=>.node (pdOf .no p np nl) []
 | .yes,p,np,nl=>.node (pdOf .yes p np nl) []
 | .num z,p,np,nl=>.node (pdOf (.num z) p np nl) []
 | .bytes b,p,np,nl=>.node (pdOf (.bytes b) p np nl) []
 | .text t,p,np,nl=>.node (pdOf (.text t) p np nl) []
 | .moment z,p,np,nl=>.node (pdOf (.moment z) p np nl) []
 | .id b,p,np,nl=>.node (pdOf (.id b) p np nl) []
noncomputable def trR:Row→Bool→Nat→List PT
 | .nil,_,_=>[]
 | .cons n v r,named,p=>trV v (p+jQ named n) (if named=true then p+(vary n.length).length else 0) n.length::trR r named (p+jQ named n+v.enc.length)
end
def trM:Value→Nat→List PT
 | .list m,p=>trR m false (p+ioff (.list m))
 | .rec_ m,p=>trR m true (p+ioff (.rec_ m))
 | _,_=>[]
theorem trV_eq (v:Value) (p np nl:Nat):trV v p np nl = .node (pdOf v p np nl) (trM v p):=by
 cases v<;>(unfold trV;rfl)
theorem jt (n:Bytes) (v:Value) (r:Row) (named:Bool) (p:Nat):trR (.cons n v r) named p=trV v (p+jQ named n) (if named=true then p+(vary n.length).length else 0) n.length::trR r named (p+jQ named n+v.enc.length):=by
 rw [trR]
theorem mY (named:Bool) (p:Nat):trR .nil named p=[]:=by
 rw [trR]
theorem wX (v:Value) (p np nl np' nl':Nat):(trV v p np nl).nm np' nl'=trV v p np' nl':=by
 rw [trV_eq,trV_eq];rfl
mutual
theorem wu:∀ (f lv p:Nat) (b:Bytes),match valueAt f lv p b with
  | .error e=>vAt f lv p b = .error e
  | .ok (v,n)=>vAt f lv p b = .ok (trV v p 0 0,n)
 | 0,lv,p,b=>by
  unfold valueAt vAt;rfl
 | f+1,lv,p,[]=>by
  unfold valueAt vAt headAt;rfl
 | f+1,lv,p,k::r=>by
  have hve:=@qE (f+1) lv p (k::r)
  revert hve
  unfold valueAt vAt headAt;simp only;by_cases h8:8<k.toNat
  ·rw [ao h8,ao h8];intro _;rfl
  ·rw [ah h8,ah h8];by_cases hd:DEEP<lv
   ·rw [ao hd,ao hd];intro _;rfl
   ·rw [ah hd,ah hd];have hk:k.toNat=0∨k.toNat=1∨k.toNat=2∨k.toNat=3∨k.toNat=4∨k.toNat=5∨k.toNat=6∨k.toNat=7∨k.toNat=8:=by omega
    rcases hk with hk | hk | hk | hk | hk | hk | hk | hk | hk
    ·simp only [hk];intro _;rfl
    ·simp only [hk];intro _;rfl
    ·simp only [hk];unfold numAt;cases ev:varyOf (p+1) r with
     | error e=>intro _;rfl
     | ok x =>
      obtain ⟨z,l⟩:=x
      simp only [bind,Except.bind];by_cases hz:NUMBER<z / 2
      ·rw [ao hz,ao hz];intro _;rfl
      ·rw [ah hz,ah hz];cases es:someOf (p+1+l) (z / 2) (r.drop l) with
       | error e=>intro _;rfl
       | ok m =>
        simp only;obtain ⟨s1,s2⟩:=eA es
        by_cases hm:m.getLast? = some 0∨z=1
        ·rw [ao hm,ao hm];intro _;rfl
        ·rw [ah hm,ah hm];intro hve;obtain ⟨v1,v2,_⟩:=hve rfl
         have ml:m.length=z / 2:=by rw [s2,aY];omega
         obtain ⟨t1,t2,t3⟩:=oY ml hm
         have el:=congrArg List.length v1
         rw [aY,cA v2] at el;have hpd:pdOf (.num (if z % 2=1 then -(ofLe m:Int) else (ofLe m:Int))) p 0 0=⟨2,p,p+(1+l),p+(1+l+z / 2),0,1,0,0⟩:=by
          show (⟨2,p,p+(1+(vary (mZ _)).length),p+(Value.enc _).length,0,1,0,0⟩:PD)=_
          rw [t1,fB ev,el]
         simp only;rw [trV_eq,hpd];rfl
    ·simp only [hk];unfold strAt;cases ev:varyOf (p+1) r with
     | error e=>intro _;rfl
     | ok x =>
      obtain ⟨z,l⟩:=x
      simp only [bind,Except.bind];cases es:someOf (p+1+l) z (r.drop l) with
      | error e=>intro _;rfl
      | ok m =>
       obtain ⟨s1,s2⟩:=eA es
       intro hve;obtain ⟨v1,v2,_⟩:=hve rfl
       have el:=congrArg List.length v1
       rw [aY,cA v2] at el;have ml:m.length=z:=by rw [s2,aY];omega
       have hpd:pdOf (.bytes m) p 0 0=⟨3,p,p+(1+l),p+(1+l+z),z,1,0,0⟩:=by
        show (⟨3,p,p+(1+(vary m.length).length),p+(Value.enc _).length,m.length,1,0,0⟩:PD)=_
        rw [el,ml,fB ev]
       simp only;rw [trV_eq,hpd];rfl
    ·simp only [hk];unfold strAt;cases ev:varyOf (p+1) r with
     | error e=>intro _;rfl
     | ok x =>
      obtain ⟨z,l⟩:=x
      simp only [bind,Except.bind];cases es:someOf (p+1+l) z (r.drop l) with
      | error e=>intro _;rfl
      | ok m =>
       obtain ⟨s1,s2⟩:=eA es
       simp only;cases et:textOf (p+1+l) m with
       | error e=>simp only [et];intro _;rfl
       | ok t =>
        obtain ⟨t1,_⟩:=ox et
        simp only [et];intro hve;obtain ⟨v1,v2,_⟩:=hve rfl
        have el:=congrArg List.length v1
        rw [aY,cA v2] at el;have ml:(utf8 t).length=z:=by rw [t1,s2,aY];omega
        have hpd:pdOf (.text t) p 0 0=⟨4,p,p+(1+l),p+(1+l+z),z,1,0,0⟩:=by
         show (⟨4,p,p+(1+(vary (utf8 t).length).length),p+(Value.enc _).length,(utf8 t).length,1,0,0⟩:PD)=_
         rw [el,ml,fB ev]
        rw [trV_eq,hpd];rfl
    ·simp only [hk];cases ev:varyOf (p+1) r with
     | error e=>intro _;rfl
     | ok x =>
      obtain ⟨z,l⟩:=x
      simp only [bind,Except.bind];have ih:=r_rel f lv false z none (p+1+l) (r.drop l)
      have ed:(k::r).drop (1+l)=r.drop l:=by rw [iA 1 l];rfl
      cases er:rowAt f lv false z none (p+1+l) (r.drop l) with
      | error e =>
       rw [er] at ih;have ih:rAt f lv false z none (p+1+l) (r.drop l) = .error e:=ih
       intro _;show (match rAt f lv false z none (p+(1+l)) ((k::r).drop (1+l)) with
        | .error e=>.error e
        | .ok (ms,dp,used)=>.ok (.node ⟨5,p,p+(1+l),p+(1+l)+used,z,dp+1,0,0⟩ ms,1+l+used):Except Fault (PT×Nat))=_
       rw [ed,←bp,ih]
      | ok y =>
       obtain ⟨m,u⟩:=y
       rw [er] at ih;have ih:rAt f lv false z none (p+1+l) (r.drop l) = .ok (trR m false (p+1+l),m.deep,u):=ih
       intro hve;obtain ⟨v1,v2,_⟩:=hve rfl
       have el:=congrArg List.length v1
       rw [aY,cA v2] at el;obtain ⟨_,_,e3,_⟩:=r_enc f lv false z none _ _ er
       show (match rAt f lv false z none (p+(1+l)) ((k::r).drop (1+l)) with
        | .error e=>.error e
        | .ok (ms,dp,used)=>.ok (.node ⟨5,p,p+(1+l),p+(1+l)+used,z,dp+1,0,0⟩ ms,1+l+used):Except Fault (PT×Nat))=_
       have hpd:pdOf (.list m) p 0 0=⟨5,p,p+1+l,p+1+l+u,z,m.deep+1,0,0⟩:=by
        show (⟨5,p,p+(1+(vary m.length).length),p+(Value.enc _).length,m.length,m.deep+1,0,0⟩:PD)=_
        rw [el,e3,fB ev,←bp,←bp,←bp]
       have htm:trM (.list m) p=trR m false (p+1+l):=by
        show trR m false (p+(1+(vary m.length).length))=_
        rw [e3,fB ev,←bp]
       rw [ed,←bp,ih,trV_eq,hpd,htm]
    ·simp only [hk];cases ev:varyOf (p+1) r with
     | error e=>intro _;rfl
     | ok x =>
      obtain ⟨z,l⟩:=x
      simp only [bind,Except.bind];have ih:=r_rel f lv true z none (p+1+l) (r.drop l)
      have ed:(k::r).drop (1+l)=r.drop l:=by rw [iA 1 l];rfl
      cases er:rowAt f lv true z none (p+1+l) (r.drop l) with
      | error e =>
       rw [er] at ih;have ih:rAt f lv true z none (p+1+l) (r.drop l) = .error e:=ih
       intro _;show (match rAt f lv true z none (p+(1+l)) ((k::r).drop (1+l)) with
        | .error e=>.error e
        | .ok (ms,dp,used)=>.ok (.node ⟨6,p,p+(1+l),p+(1+l)+used,z,dp+1,0,0⟩ ms,1+l+used):Except Fault (PT×Nat))=_
       rw [ed,←bp,ih]
      | ok y =>
       obtain ⟨m,u⟩:=y
       rw [er] at ih;have ih:rAt f lv true z none (p+1+l) (r.drop l) = .ok (trR m true (p+1+l),m.deep,u):=ih
       intro hve;obtain ⟨v1,v2,_⟩:=hve rfl
       have el:=congrArg List.length v1
       rw [aY,cA v2] at el;obtain ⟨_,_,e3,_⟩:=r_enc f lv true z none _ _ er
       show (match rAt f lv true z none (p+(1+l)) ((k::r).drop (1+l)) with
        | .error e=>.error e
        | .ok (ms,dp,used)=>.ok (.node ⟨6,p,p+(1+l),p+(1+l)+used,z,dp+1,0,0⟩ ms,1+l+used):Except Fault (PT×Nat))=_
       have hpd:pdOf (.rec_ m) p 0 0=⟨6,p,p+1+l,p+1+l+u,z,m.deep+1,0,0⟩:=by
        show (⟨6,p,p+(1+(vary m.length).length),p+(Value.enc _).length,m.length,m.deep+1,0,0⟩:PD)=_
        rw [el,e3,fB ev,←bp,←bp,←bp]
       have htm:trM (.rec_ m) p=trR m true (p+1+l):=by
        show trR m true (p+(1+(vary m.length).length))=_
        rw [e3,fB ev,←bp]
       rw [ed,←bp,ih,trV_eq,hpd,htm]
    ·simp only [hk];cases es:someOf (p+1) 8 r with
     | error e=>intro _;rfl
     | ok m =>
      intro hve;obtain ⟨v1,v2,_⟩:=hve rfl
      have el:=congrArg List.length v1
      rw [aY,cA v2] at el;have hpd:pdOf (.moment (signed64 (ofLe m))) p 0 0=⟨7,p,p+1,p+9,0,1,0,0⟩:=by
       show (⟨7,p,p+1,p+(Value.enc _).length,0,1,0,0⟩:PD)=_
       rw [el]
      show _=Except.ok (trV (.moment (signed64 (ofLe m))) p 0 0,9)
      rw [trV_eq,hpd];rfl
    ·simp only [hk];cases es:someOf (p+1) 32 r with
     | error e=>intro _;rfl
     | ok m =>
      intro hve;obtain ⟨v1,v2,_⟩:=hve rfl
      have el:=congrArg List.length v1
      rw [aY,cA v2] at el;have hpd:pdOf (.id m) p 0 0=⟨8,p,p+1,p+33,0,1,0,0⟩:=by
       show (⟨8,p,p+1,p+(Value.enc _).length,0,1,0,0⟩:PD)=_
       rw [el]
      show _=Except.ok (trV (.id m) p 0 0,33)
      rw [trV_eq,hpd];rfl
theorem r_rel:∀ (f lv:Nat) (named:Bool) (n:Nat) (prev:Option Bytes) (p:Nat) (b:Bytes),match rowAt f lv named n prev p b with
  | .error e=>rAt f lv named n prev p b = .error e
  | .ok (m,u)=>rAt f lv named n prev p b = .ok (trR m named p,m.deep,u)
 | 0,lv,named,n,prev,p,b=>by
  unfold rowAt rAt;rfl
 | f+1,lv,named,0,prev,p,b=>by
  unfold rowAt rAt;rfl
 | f+1,lv,named,n+1,prev,p,b=>by
  rw [tQ];unfold rAt;cases en:nmAt named prev p b with
  | error e=>rfl
  | ok x =>
   obtain ⟨k,l⟩:=x
   simp only;obtain ⟨n1,n2,n3,n4,n5⟩:=ui en
   have ih:=wu f (lv+1) (p+l+k) (b.drop (l+k))
   cases ev:valueAt f (lv+1) (p+l+k) (b.drop (l+k)) with
   | error e =>
    rw [ev] at ih;have ih:vAt f (lv+1) (p+l+k) (b.drop (l+k)) = .error e:=ih
    simp only [ih]
   | ok y =>
    obtain ⟨v,u⟩:=y
    rw [ev] at ih;have ih:vAt f (lv+1) (p+l+k) (b.drop (l+k)) = .ok (trV v (p+l+k) 0 0,u):=ih
    simp only [ih];obtain ⟨e1,e2,_⟩:=qE f _ _ _ ev
    have el:=congrArg List.length e1
    rw [aY,cA e2] at el;have ih2:=r_rel f lv named n (some ((b.drop l).take k)) (p+l+k+u) (b.drop (l+k+u))
    cases er:rowAt f lv named n (some ((b.drop l).take k)) (p+l+k+u) (b.drop (l+k+u)) with
    | error e =>
     rw [er] at ih2;have ih2:rAt f lv named n (some ((b.drop l).take k)) (p+l+k+u) (b.drop (l+k+u)) = .error e:=ih2
     simp only [ih2]
    | ok z =>
     obtain ⟨m,u2⟩:=z
     rw [er] at ih2;have ih2:rAt f lv named n (some ((b.drop l).take k)) (p+l+k+u) (b.drop (l+k+u)) = .ok (trR m named (p+l+k+u),m.deep,u2):=ih2
     simp only [ih2];have hd:(trV v (p+l+k) 0 0).d.depth=v.deep:=by rw [trV_eq];rfl
     have no:jQ named ((b.drop l).take k)=l+k:=by
      unfold jQ;cases named with
      | true=>rw [ao rfl,n1,←(n4 rfl).1]
      | false =>
       obtain ⟨q1,q2⟩:=n5 rfl
       rw [ah aS,q1,q2]
     have np:(if named=true then p+l else 0)=(if named=true then p+(vary k).length else 0):=by
      cases named with
      | true=>rw [ao rfl,ao rfl,(n4 rfl).1]
      | false=>rfl
     rw [wX,hd,jt,n1,el,no,np,←bp p l k];rfl
end
def isRec (d:PD):Bool:=decide (d.kind=6)
def need (d:PD):Nat:=if d.kind=5∨d.kind=6 then d.size else 0
def prevOf (bs:Bytes) (mem:List PT):Option Bytes:=match mem.getLast? with
 | none=>none
 | some m=>some ((bs.drop m.d.np).take m.d.nl)
def fin (bs:Bytes):List (PD×List PT)→PD→List PT→Nat→Except Fault (PT×Nat)
 | [],d,mem,p=>match Rw 1 (isRec d) (need d - mem.length) (prevOf bs mem) p (bs.drop p) with
  | .error e=>.error e
  | .ok (ms,dp,u)=>.ok (.node { d with fin:=p+u,depth:=max d.depth (dp+1) } (mem++ms),p+u)
 | (dh,mh)::rest,d,mem,p=>match Rw (rest.length+2) (isRec d) (need d - mem.length) (prevOf bs mem) p (bs.drop p) with
  | .error e=>.error e
  | .ok (ms,dp,u)=>fin bs rest { dh with depth:=max dh.depth (max d.depth (dp+1)+1) } (mh++[.node { d with fin:=p+u,depth:=max d.depth (dp+1) } (mem++ms)]) (p+u)
def up (bs:Bytes) (rest:List (PD×List PT)) (d:PD) (mem:List PT) (p:Nat):Except Fault (PT×Nat):=match rest with
 | []=>.ok (.node d mem,p)
 | (dh,mh)::r=>fin bs r { dh with depth:=max dh.depth (d.depth+1) } (mh++[.node d mem]) p
theorem lK (bs:Bytes) (rest:List (PD×List PT)) (d:PD) (mem:List PT) (p:Nat):fin bs rest d mem p=match Rw (rest.length+1) (isRec d) (need d - mem.length) (prevOf bs mem) p (bs.drop p) with
  | .error e=>.error e
  | .ok (ms,dp,u)=>up bs rest { d with fin:=p+u,depth:=max d.depth (dp+1) } (mem++ms) (p+u):=by
 cases rest with
 | nil=>rfl
 | cons x r =>
  obtain ⟨dh,mh⟩:=x
  rfl
theorem fin_pop (bs:Bytes) (rest:List (PD×List PT)) (d:PD) (mem:List PT) (p:Nat) (h:need d≤mem.length) (hd:1≤d.depth):fin bs rest d mem p=up bs rest { d with fin:=p } mem p:=by
 rw [lK,show need d - mem.length=0 by omega,n6]
 have e:max d.depth (0+1)=d.depth:=by omega
 simp only [Nat.add_zero,dw,e]
def memAt (named:Bool) (prev:Option Bytes) (lv p:Nat) (b:Bytes):Except Fault (Nat×Nat×Nat×Nat×Nat×Nat):=match nmAt named prev p b with
 | .error e=>.error e
 | .ok (k,l)=>match headAt lv (p+l+k) (b.drop (l+k)) with
  | .error e=>.error e
  | .ok (kd,n,i,u)=>.ok (k,l,kd,n,i,u)
def newD (named:Bool) (p:Nat) (x:Nat×Nat×Nat×Nat×Nat×Nat):PD:=⟨x.2.2.1,p+x.2.1+x.1,p+x.2.1+x.1+x.2.2.2.2.1,p+x.2.1+x.1,x.2.2.2.1,1,if named=true then p+x.2.1 else 0,x.1⟩
theorem fin_push (bs:Bytes) (rest:List (PD×List PT)) (d:PD) (mem:List PT) (p:Nat) (h:mem.length<need d):fin bs rest d mem p=match memAt (isRec d) (prevOf bs mem) (rest.length+2) p (bs.drop p) with
  | .error e=>.error e
  | .ok x=>fin bs ((d,mem)::rest) (newD (isRec d) p x) [] (p+x.2.1+x.1+x.2.2.2.2.2):=by
 obtain ⟨n,hn⟩:∃ n,need d - mem.length=n+1:=⟨need d - mem.length - 1,by omega⟩
 rw [lK,hn,wg];unfold memAt;cases en:nmAt (isRec d) (prevOf bs mem) p (bs.drop p) with
 | error e=>rfl
 | ok x =>
  obtain ⟨k,l⟩:=x
  dsimp only;rw [wH];cases eh:headAt (rest.length+1+1) (p+l+k) ((bs.drop p).drop (l+k)) with
  | error e=>rfl
  | ok y =>
   obtain ⟨kd,sz,io,u⟩:=y
   dsimp only;have hd2:(bs.drop p).drop (l+k)=bs.drop (p+l+k):=by rw [bZ,bp]
   have hd3:∀ z,(bs.drop p).drop (l+k+z)=bs.drop (p+l+k+z):=fun z=>by
    rw [bZ];congr 1
    omega
   have hprev:∀ c:PT,c.d.np=(if isRec d=true then p+l else 0)→c.d.nl=k→prevOf bs (mem++[c])=some (((bs.drop p).drop l).take k):=fun c h1 h2=>by
    unfold prevOf;rw [List.getLast?_append];simp only [List.getLast?_singleton,Option.some_or];rw [h1,h2];cases hr:isRec d with
    | true=>rw [ao rfl,bZ]
    | false =>
     unfold nmAt at en;rw [hr,ah aS] at en;injection en with en;injection en with en1 en2;rw [←en1];simp
   have upeq:∀ (c:PD) (cm:List PT) (used:Nat),c.np=(if isRec d=true then p+l else 0)→c.nl=k→1≤c.depth →
     (match (match Rw (rest.length+1) (isRec d) n (some (((bs.drop p).drop l).take k)) (p+l+k+used) ((bs.drop p).drop (l+k+used)) with
      | .error e=>.error e
      | .ok (ms,dp,u2)=>.ok (.node c cm::ms,max c.depth dp,l+k+used+u2):Except Fault (List PT×Nat×Nat)) with
     | .error e=>.error e
     | .ok (ms,dp,u)=>up bs rest { d with fin:=p+u,depth:=max d.depth (dp+1) } (mem++ms) (p+u))=up bs ((d,mem)::rest) c cm (p+l+k+used):=fun c cm used h1 h2 h3=>by
    show _=fin bs rest { d with depth:=max d.depth (c.depth+1) } (mem++[.node c cm]) (p+l+k+used)
    rw [lK,hd3,hprev (.node c cm) h1 h2];have e1:need { d with depth:=max d.depth (c.depth+1) } - (mem++[PT.node c cm]).length=n:=by
     rw [aG,dJ];show need d - (mem.length+1)=n
     omega
    have e2:isRec { d with depth:=max d.depth (c.depth+1) }=isRec d:=rfl
    rw [e1,e2];cases er:Rw (rest.length+1) (isRec d) n (some (((bs.drop p).drop l).take k)) (p+l+k+used) (bs.drop (p+l+k+used)) with
    | error e=>rfl
    | ok z =>
     obtain ⟨ms,dp,u2⟩:=z
     dsimp only;have a1:p+(l+k+used+u2)=p+l+k+used+u2:=by omega
     have a2:max d.depth (max c.depth dp+1)=max (max d.depth (c.depth+1)) (dp+1):=by omega
     have a3:mem++PT.node c cm::ms=mem++[PT.node c cm]++ms:=by simp
     rw [a1,a2,a3]
   rw [lK];have e1:need (newD (isRec d) p (k,l,kd,sz,io,u)) - ([]:List PT).length=if kd=5∨kd=6 then sz else 0:=rfl
   have e2:isRec (newD (isRec d) p (k,l,kd,sz,io,u))=decide (kd=6):=rfl
   have e3:((d,mem)::rest).length+1=rest.length+2:=rfl
   have e4:prevOf bs []=none:=rfl
   rw [e1,e2,e3,e4];by_cases hk:kd=5∨kd=6
   ·rw [ao hk,ao hk,hd2,bZ];cases er:Rw (rest.length+2) (decide (kd=6)) sz none (p+l+k+u) (bs.drop (p+l+k+u)) with
    | error e=>rfl
    | ok z =>
     obtain ⟨ms,dp,used⟩:=z
     dsimp only;refine (upeq { (⟨kd,p+l+k,p+l+k+io,p+l+k+u+used,sz,dp+1,0,0⟩:PD) with np:=if isRec d=true then p+l else 0,nl:=k } ms (u+used) rfl rfl (by show 1≤dp+1;omega)).trans ?_
     have a1:p+l+k+(u+used)=p+l+k+u+used:=by omega
     have a2:dp+1=max 1 (dp+1):=by omega
     show up bs ((d,mem)::rest) ⟨kd,p+l+k,p+l+k+io,p+l+k+u+used,sz,dp+1,if isRec d=true then p+l else 0,k⟩ ms (p+l+k+(u+used)) =
      up bs ((d,mem)::rest) ⟨kd,p+l+k,p+l+k+io,p+l+k+u+used,sz,max 1 (dp+1),if isRec d=true then p+l else 0,k⟩ ([]++ms) (p+l+k+u+used)
     rw [←a2,a1];rfl
   ·rw [ah hk,ah hk,n6];dsimp only;exact upeq { (⟨kd,p+l+k,p+l+k+io,p+l+k+u,sz,1,0,0⟩:PD) with np:=if isRec d=true then p+l else 0,nl:=k } [] u rfl rfl (aI 1)
def wholeAt (bs:Bytes):Except Fault PT:=match headAt 1 0 bs with
 | .error e=>.error e
 | .ok (k,n,i,u)=>match fin bs [] ⟨k,0,i,0,n,1,0,0⟩ [] u with
  | .error e=>.error e
  | .ok (t,p)=>if p<bs.length then .error ⟨8,p⟩ else .ok t
theorem sU (bs:Bytes):wholeAt bs=match Vw 1 0 bs with
  | .error e=>.error e
  | .ok (t,n)=>if n<bs.length then .error ⟨8,n⟩ else .ok t:=by
 unfold wholeAt;rw [wH];cases eh:headAt 1 0 bs with
 | error e=>rfl
 | ok x =>
  obtain ⟨k,n,i,u⟩:=x
  dsimp only;rw [lK];have e1:need (⟨k,0,i,0,n,1,0,0⟩:PD) - ([]:List PT).length=if k=5∨k=6 then n else 0:=rfl
  have e2:isRec (⟨k,0,i,0,n,1,0,0⟩:PD)=decide (k=6):=rfl
  have e4:prevOf bs []=none:=rfl
  rw [e1,e2,e4];by_cases hk:k=5∨k=6
  ·rw [ao hk,ao hk];simp only [dA,dO];cases er:Rw 1 (decide (k=6)) n none u (bs.drop u) with
   | error e=>rfl
   | ok z =>
    obtain ⟨ms,dp,used⟩:=z
    have a2:max 1 (dp+1)=dp+1:=by omega
    simp only [up,a2,fh]
  ·rw [ah hk,ah hk,n6];simp only [up,dA,Nat.add_zero,dw,Nat.max_self]
theorem whole_rel (bs:Bytes):match decode bs with
  | .error e=>wholeAt bs = .error e
  | .ok v=>wholeAt bs = .ok (trV v 0 0 0)∧v.enc=bs∧v.plain=true∧v.deep≤64:=by
 have h:=wu (2*bs.length+4) 1 0 bs
 have hf:=kO (2*bs.length+4) (2*bs.length+1) 1 0 bs (by omega) (by omega)
 rw [hf] at h;rw [sU];unfold Vw decode;cases ev:valueAt (2*bs.length+4) 1 0 bs with
 | error e =>
  rw [ev] at h;have h:vAt (2*bs.length+1) 1 0 bs = .error e:=h
  rw [h]
 | ok x =>
  obtain ⟨v,n⟩:=x
  rw [ev] at h;have h:vAt (2*bs.length+1) 1 0 bs = .ok (trV v 0 0 0,n):=h
  obtain ⟨g1,g2,g3,g4⟩:=qE _ _ _ _ ev
  rw [h];dsimp only;by_cases hn:n<bs.length
  ·rw [ao hn,ao hn]
  ·rw [ah hn,ah hn];refine ⟨rfl,?_,g3,by omega⟩
   rw [g1,bJ (by omega)]
theorem qH:∀ (m:Row) (named:Bool) (p i:Nat),(trR m named p)[i]? = (m.get? i).map fun (x:Bytes×Value)=>trV x.2 (p+m.before named i) (if named=true then p+m.before named i - x.1.length else 0) x.1.length
 | .nil,named,p,i=>by
  rw [mY];rfl
 | .cons n v r,named,p,0=>by
  rw [jt];show some (trV v (p+jQ named n) (if named=true then p+(vary n.length).length else 0) n.length)=some (trV v (p+jQ named n) (if named=true then p+jQ named n - n.length else 0) n.length)
  congr 2
  cases named with
  | false=>rfl
  | true =>
   unfold jQ;rw [ao rfl,ao rfl,ao rfl];omega
 | .cons n v r,named,p,i+1=>by
  rw [jt];show (trR r named (p+jQ named n+v.enc.length))[i]? = (r.get? i).map _
  rw [qH r named _ i];have e:∀ z:Nat,p+jQ named n+v.enc.length+z=p+(jQ named n+v.enc.length+z):=fun z=>by omega
  rw [e];rfl
theorem qG:∀ (m:Row) (named:Bool) (p:Nat),(trR m named p).length=m.length
 | .nil,named,p=>by rw [mY];rfl
 | .cons n v r,named,p=>by
  rw [jt,aE,qG r];rfl
def rowOf:Value→Row
 | .list m=>m
 | .rec_ m=>m
 | _=>.nil
def namedOf:Value→Bool
 | .rec_ _=>true
 | _=>false
theorem tw (v:Value) (p:Nat):trM v p=trR (rowOf v) (namedOf v) (p+ioff v):=by
 cases v<;>first | rfl | (show []=trR .nil _ _;rw [mY])
theorem member_eq (v:Value) (i:Nat):v.member i=(rowOf v).get? i:=by
 cases v<;>rfl
def mplace (v:Value) (p i:Nat):Nat:=p+ioff v+(rowOf v).before (namedOf v) i
theorem trM_get (v:Value) (p i:Nat):(trM v p)[i]? = (v.member i).map fun (x:Bytes×Value)=>trV x.2 (mplace v p i) (if namedOf v=true then mplace v p i - x.1.length else 0) x.1.length:=by
 rw [tw,qH,member_eq];rfl
theorem trM_len (v:Value) (p:Nat):(trM v p).length=(rowOf v).length:=by
 rw [tw,qG]
theorem place_one {v:Value} {i:Nat} {x:Bytes×Value} (h:v.member i=some x) (l:List Nat):v.placeOf (i::l)=mplace v 0 i+x.2.placeOf l:=by
 obtain ⟨n,w⟩:=x
 cases v with
 | list m =>
  have h:m.get? i=some (n,w):=h
  show 1+(vary m.length).length+m.before false i+(match m.get? i with
   | some (_,w)=>w.placeOf l
   | none=>0)=_
  rw [h];show 1+(vary m.length).length+m.before false i+w.placeOf l=0+(1+(vary m.length).length)+m.before false i+w.placeOf l
  omega
 | rec_ m =>
  have h:m.get? i=some (n,w):=h
  show 1+(vary m.length).length+m.before true i+(match m.get? i with
   | some (_,w)=>w.placeOf l
   | none=>0)=_
  rw [h];show 1+(vary m.length).length+m.before true i+w.placeOf l=0+(1+(vary m.length).length)+m.before true i+w.placeOf l
  omega
 | _=>cases h
theorem jR:∀ (m:Row) (i:Nat) {n:Bytes} {v:Value},m.get? i=some (n,v)→n∈m.names
 | .nil,i,n,v,h=>by cases h
 | .cons n0 v0 r,0,n,v,h=>by
  have h:some (n0,v0)=some (n,v):=h
  injection h with h;injection h with h1 h2;subst h1;exact a6
 | .cons n0 v0 r,i+1,n,v,h=>aR _ (jR r i h)
theorem name_of {v:Value} (hp:v.plain=true) {i:Nat} {n:Bytes} {w:Value} (h:v.member i=some (n,w)):(namedOf v=false→n=[])∧(namedOf v=true→n≠[]):=by
 cases v with
 | list m =>
  refine ⟨fun _=>?_,fun z=>Bool.noConfusion z⟩
  have hp:(m.plain&&m.names.all fun (n:Bytes)=>n==[])=true:=hp
  rw [bb] at hp;have:=dH.mp hp.2 n (jR m i h)
  simpa using this
 | rec_ m =>
  refine ⟨fun z=>Bool.noConfusion z,fun _=>?_⟩
  have hp:(m.plain&&(m.names.all nameOk&&rising m.names))=true:=hp
  rw [bb,bb] at hp;have:=dH.mp hp.2.1 n (jR m i h)
  intro z;rw [z] at this;simp [nameOk] at this
 | _=>cases h
def At (bs:Bytes) (p:Nat) (v:Value):Prop:=v.enc <+: bs.drop p
theorem enc_pos (v:Value):1≤v.enc.length:=by
 cases v<;>(unfold Value.enc;simp)
theorem At.le {bs:Bytes} {p:Nat} {v:Value} (h:At bs p v):p+v.enc.length≤bs.length:=by
 have h1:=List.IsPrefix.length_le h
 rw [aC] at h1;have:=enc_pos v
 omega
def inner:Value→Bytes
 | .no=>[]
 | .yes=>[]
 | .num z=>le (amountLength z.natAbs) z.natAbs
 | .bytes b=>b
 | .text t=>utf8 t
 | .list m=>m.enc false
 | .rec_ m=>m.enc true
 | .moment z=>le 8 (z % ((2 ^ 64:Nat):Int)).toNat
 | .id b=>b
def qD:Value→Bytes
 | .no=>[0]
 | .yes=>[1]
 | .num z=>2::vary (mZ z)
 | .bytes b=>3::vary b.length
 | .text t=>4::vary (utf8 t).length
 | .list m=>5::vary m.length
 | .rec_ m=>6::vary m.length
 | .moment _=>[7]
 | .id _=>[8]
theorem jW (v:Value):v.enc=qD v++inner v:=by
 cases v<;>(unfold Value.enc;rfl)
theorem o8 (v:Value):(qD v).length=ioff v:=by
 cases v<;>(unfold qD ioff;simp [iA])
theorem At.inner {bs:Bytes} {p:Nat} {v:Value} (h:At bs p v):(bs.drop (p+ioff v)).take (p+v.enc.length - (p+ioff v))=Pm.inner v∧ioff v≤v.enc.length:=by
 obtain ⟨r,hr⟩:=h
 have hs:=jW v
 have hl:=o8 v
 have hlen:v.enc.length=ioff v+(Pm.inner v).length:=by rw [hs,aG,hl]
 refine ⟨?_,by omega⟩
 rw [←bZ,←hr,hs,bq,←hl,eS,←hs,show p+v.enc.length - (p+(qD v).length)=(Pm.inner v).length by omega,List.take_left]
theorem rm:∀ (m:Row) (named:Bool) (i:Nat) {n:Bytes} {w:Value},m.get? i=some (n,w)→∃ pre post,m.enc named=pre++(w.enc++post)∧pre.length=m.before named i∧(named=true→∃ pre',pre=pre'++n)
 | .nil,named,i,n,w,h=>by cases h
 | .cons n0 v r,named,0,n,w,h=>by
  have h:some (n0,v)=some (n,w):=h
  injection h with h;injection h with h1 h2;subst h1 h2;refine ⟨if named=true then vary n0.length++n0 else [],r.enc named,rfl,?_,fun z=>⟨vary n0.length,by rw [ao z]⟩⟩
  show _=if named=true then (vary n0.length).length+n0.length else 0
  cases named with
  | true=>rw [ao rfl,ao rfl,aG]
  | false=>rfl
 | .cons n0 v r,named,i+1,n,w,h=>by
  obtain ⟨pre,post,e1,e2,e3⟩:=rm r named i h
  refine ⟨(if named=true then vary n0.length++n0 else [])++v.enc++pre,post,?_,?_,fun z=>?_⟩
  ·show (if named=true then vary n0.length++n0 else [])++(v.enc++r.enc named)=_
   rw [e1];simp only [bq]
  ·show _=(if named=true then (vary n0.length).length+n0.length else 0)+v.enc.length+r.before named i
   rw [aG,aG,e2];cases named with
   | true=>rw [ao rfl,ao rfl,aG]
   | false=>rfl
  ·obtain ⟨pre',e⟩:=e3 z
   exact ⟨(if named=true then vary n0.length++n0 else [])++v.enc++pre',by rw [e];simp only [bq]⟩
theorem At.mem {bs:Bytes} {p:Nat} {v:Value} (h:At bs p v) {i:Nat} {n:Bytes} {w:Value} (hm:v.member i=some (n,w)) :
  At bs (mplace v p i) w∧(namedOf v=true→n.length≤mplace v p i∧(bs.drop (mplace v p i - n.length)).take n.length=n):=by
 rw [member_eq] at hm;obtain ⟨pre,post,e1,e2,e3⟩:=rm (rowOf v) (namedOf v) i hm
 have hi:Pm.inner v=(rowOf v).enc (namedOf v):=by
  cases v<;>first | rfl | (cases hm)
 obtain ⟨r,hr⟩:=h
 have hs:=jW v
 have hl:=o8 v
 have key:bs.drop (p+ioff v)=pre++(w.enc++post)++r:=by
  rw [←bZ,←hr,hs,bq,←hl,eS,hi,e1]
 have k2:bs.drop (mplace v p i)=w.enc++(post++r):=by
  unfold mplace;rw [←bZ,key,←e2,bq,eS,bq]
 refine ⟨⟨post++r,k2.symm⟩,fun z=>?_⟩
 obtain ⟨pre',e⟩:=e3 z
 have e2':pre'.length+n.length=(rowOf v).before (namedOf v) i:=by rw [←e2,e,aG]
 refine ⟨by unfold mplace;omega,?_⟩
 have k3:mplace v p i - n.length=p+ioff v+pre'.length:=by unfold mplace;omega
 rw [k3,←bZ,key,e,bq,bq,eS,List.take_left]
theorem jN:∀ (m:Row) (i:Nat) {n:Bytes} {w:Value},m.plain=true→m.get? i=some (n,w)→w.plain=true
 | .nil,i,n,w,_,h=>by cases h
 | .cons n0 v r,0,n,w,hp,h=>by
  have h:some (n0,v)=some (n,w):=h
  injection h with h;injection h with h1 h2;subst h2;have hp:(v.plain&&r.plain)=true:=hp
  rw [bb] at hp;exact hp.1
 | .cons n0 v r,i+1,n,w,hp,h=>by
  have hp:(v.plain&&r.plain)=true:=hp
  rw [bb] at hp;exact jN r i hp.2 h
theorem plain_mem {v:Value} (hp:v.plain=true) {i:Nat} {n:Bytes} {w:Value} (h:v.member i=some (n,w)):w.plain=true:=by
 cases v with
 | list m =>
  have hp:(m.plain&&m.names.all fun (n:Bytes)=>n==[])=true:=hp
  rw [bb] at hp;exact jN m i hp.1 h
 | rec_ m =>
  have hp:(m.plain&&(m.names.all nameOk&&rising m.names))=true:=hp
  rw [bb] at hp;exact jN m i hp.1 h
 | _=>cases h
theorem qP:∀ (k n:Nat),n<256 ^ k→ofLe (le k n)=n
 | 0,n,h=>by
  have:n=0:=by simpa using h
  subst this;rfl
 | k+1,n,h=>by
  rw [le_succ];show (UInt8.ofNat (n % 256)).toNat+256*ofLe (le k (n / 256))=n
  rw [fM] at h;rw [qP k (n / 256) (by omega),UInt8.toNat_ofNat']
  omega
theorem sR:∀ n:Nat,n<256 ^ amountLength n:=fun n=>by
 induction n using Nat.strongRecOn with
 | ind n ih =>
  unfold amountLength;by_cases h:n=0
  ·rw [ao h,h];decide
  ·rw [ah h,fM];have:=ih (n / 256) (by omega)
   omega
theorem num_of (z:Int):ofLe (inner (.num z))=z.natAbs:=qP _ _ (sR _)
theorem rH (n:Nat):∃ c r,vary n=c::r∧c.toNat % 2=n % 2:=by
 unfold vary;by_cases h:n<128
 ·rw [ao h];refine ⟨_,_,rfl,?_⟩
  rw [UInt8.toNat_ofNat'];omega
 ·rw [ah h];refine ⟨_,_,rfl,?_⟩
  rw [UInt8.toNat_ofNat'];omega
theorem At.sign {bs:Bytes} {p:Nat} {z:Int} (h:At bs p (.num z)):∃ c,bs[p+1]? = some c∧c.toNat % 2=if z<0 then 1 else 0:=by
 obtain ⟨c,r,e1,e2⟩:=rH (mZ z)
 refine ⟨c,?_,?_⟩
 ·obtain ⟨s,hs⟩:=h
  have e:(Value.num z).enc=2::c::(r++Sw.le (amountLength z.natAbs) z.natAbs):=by
   rw [jW];show 2::vary (mZ z)++_=_
   rw [e1];rfl
  have:(bs.drop p)[1]? = some c:=by rw [←hs,e];rfl
  rw [fz] at this;exact this
 ·rw [e2];unfold mZ;split<;>omega
mutual
noncomputable def cntV:Value→Nat
 | .list m=>cntR m
 | .rec_ m=>cntR m
 | .no=>0
 | .yes=>0
 | .num _=>0
 | .bytes _=>0
 | .text _=>0
 | .moment _=>0
 | .id _=>0
noncomputable def cntR:Row→Nat
 | .nil=>0
 | .cons _ v r=>1+cntV v+cntR r
end
theorem cnt_row (v:Value):cntV v=cntR (rowOf v):=by
 cases v<;>first | rfl | (show cntV _=cntR .nil;unfold cntV cntR;rfl)
theorem cntR_cons (n:Bytes) (v:Value) (r:Row):cntR (.cons n v r)=1+cntV v+cntR r:=by rw [cntR]
theorem cntR_nil:cntR .nil=0:=by rw [cntR]
mutual
theorem cntV_le:∀ v:Value,cntV v+1≤v.enc.length
 | .list m=>by
  have:=cntR_le m false
  have e:(Value.list m).enc=5::(vary m.length++m.enc false):=rfl
  rw [e,aE,aG];unfold cntV;omega
 | .rec_ m=>by
  have:=cntR_le m true
  have e:(Value.rec_ m).enc=6::(vary m.length++m.enc true):=rfl
  rw [e,aE,aG];unfold cntV;omega
 | .no=>by unfold cntV;exact enc_pos _
 | .yes=>by unfold cntV;exact enc_pos _
 | .num z=>by unfold cntV;exact enc_pos _
 | .bytes b=>by unfold cntV;exact enc_pos _
 | .text t=>by unfold cntV;exact enc_pos _
 | .moment z=>by unfold cntV;exact enc_pos _
 | .id b=>by unfold cntV;exact enc_pos _
theorem cntR_le:∀ (m:Row) (named:Bool),cntR m≤(m.enc named).length
 | .nil,named=>by rw [cntR_nil];exact a8 _
 | .cons n v r,named=>by
  have h1:=cntV_le v
  have h2:=cntR_le r named
  have e:(Row.cons n v r).enc named=(if named=true then vary n.length++n else [])++(v.enc++r.enc named):=rfl
  rw [e,aG,aG,cntR_cons];omega
end
theorem lx (v:Value) (p i:Nat):mplace v p i=p+mplace v 0 i:=by
 unfold mplace;omega
theorem vZ {a b:UInt8} {l r:Bytes}:bytesBefore (a::l) (b::r)=true↔a.toNat<b.toNat∨(a=b∧bytesBefore l r=true):=by
 show (decide (a.toNat<b.toNat)||(a==b&&bytesBefore l r))=true↔_
 rw [eG,bb,bQ,beq_iff_eq]
theorem pB:∀ {a b c:Bytes},bytesBefore a b=true→bytesBefore b c=true→bytesBefore a c=true
 | [],[],_,h,_=>by cases h
 | [],_::_,[],_,h=>by cases h
 | [],_::_,_::_,_,_=>rfl
 | _::_,[],_,h,_=>by cases h
 | _::_,_::_,[],_,h=>by cases h
 | x::a,y::b,z::c,h1,h2=>by
  rw [vZ] at h1 h2 ⊢;rcases h1 with h1 | ⟨rfl,h1⟩
  ·rcases h2 with h2 | ⟨rfl,h2⟩
   ·exact .inl (by omega)
   ·exact .inl h1
  ·rcases h2 with h2 | ⟨rfl,h2⟩
   ·exact .inl h2
   ·exact .inr ⟨rfl,pB h1 h2⟩
theorem oG {a:Bytes} {r:List Bytes} (h:rising (a::r)=true):rising r=true:=by
 cases r with
 | nil=>rfl
 | cons b r =>
  have h:(bytesBefore a b&&rising (b::r))=true:=h
  rw [bb] at h;exact h.2
theorem kb:∀ {r:List Bytes} {a:Bytes},rising (a::r)=true→∀ x∈r,bytesBefore a x=true
 | [],_,_,x,hx=>by simp at hx
 | b::r,a,h,x,hx=>by
  have h':(bytesBefore a b&&rising (b::r))=true:=h
  rw [bb] at h'
  rcases aF.mp hx with rfl | hx
  ·exact h'.1
  ·exact pB h'.1 (kb h'.2 x hx)
theorem jj:∀ {ns:List Bytes},rising ns=true→∀ {i j:Nat} {x y:Bytes},i<j→ns[i]? = some x→ns[j]? = some y→bytesBefore x y=true
 | [],_,i,j,x,y,_,e,_=>by simp at e
 | a::r,h,0,j+1,x,y,_,e1,e2=>by
  have e1:some a=some x:=e1
  injection e1 with e1;subst e1;exact kb h y (bj e2)
 | a::r,h,i+1,j+1,x,y,hij,e1,e2=>jj (oG h) (by omega) e1 e2
end Pm
namespace L2
open PySem PySem.Spec PyProof.Rows
def sOf (l:List Nat):Str:=⟨l.toArray⟩
end L2
namespace Ri
abbrev Gr:=List (List Nat)
def adj (g:Gr) (i:Nat):List Nat:=(g[i]?).getD []
def GOk (g:Gr):Prop:=∀ i j,j∈adj g i→j<g.length
inductive Rch (g:Gr):Nat→Nat→Prop where
 | refl (i:Nat):Rch g i i
 | step {i j k:Nat}:j∈adj g i→Rch g j k→Rch g i k
theorem Rch.trans {g:Gr} {i j k:Nat} (a:Rch g i j) (b:Rch g j k):Rch g i k:=by
 induction a with
 | refl=>exact b
 | step h _ ih=>exact .step h (ih b)
theorem Rch.one {g:Gr} {i j:Nat} (h:j∈adj g i):Rch g i j:=.step h (.refl j)
def Sc (g:Gr) (i j:Nat):Prop:=Rch g i j∧Rch g j i
theorem Sc.symm {g:Gr} {i j:Nat} (h:Sc g i j):Sc g j i:=⟨h.2,h.1⟩
theorem Sc.trans {g:Gr} {i j k:Nat} (h:Sc g i j) (h':Sc g j k):Sc g i k:=⟨h.1.trans h'.1,h'.2.trans h.2⟩
theorem Sc.refl (g:Gr) (i:Nat):Sc g i i:=⟨.refl i,.refl i⟩
def dis (ps:List (Option Nat)) (i:Nat):Prop:=∃ k,ps[i]? = some (some k)
def iW (g:Gr):List Nat→Prop
 | []=>True
 | [_]=>True
 | a::b::r=>a∈adj g b∧iW g (b::r)
theorem iW.tail {g:Gr} {a:Nat} {r:List Nat} (h:iW g (a::r)):iW g r:=by
 cases r with
 | nil=>trivial
 | cons b r=>exact h.2
theorem iW.top {g:Gr}:∀ {r:List Nat} {t:Nat},iW g (t::r)→∀ z∈t::r,Rch g z t
 | [],t,_,z,hz=>by
  rw [aJ] at hz;rw [hz];exact .refl t
 | b::r,t,h,z,hz=>by
  rcases aF.mp hz with rfl | hz
  ·exact .refl z
  ·exact (iW.top h.2 z hz).trans (.one h.1)
structure D1 (g:Gr) (ps:List (Option Nat)) (st en:List Nat):Prop where
 len:ps.length=g.length
 disc:∀ i,dis ps i↔i∈st∨i∈en
 nodup:(st++en).Nodup
 cnt:∀ i k,ps[i]? = some (some k)→k≤(adj g i).length∧∀ j∈(adj g i).take k,dis ps j
 fin:∀ i∈en,ps[i]? = some (some (adj g i).length)
 path:iW g st
 i5:∀ a w b,en=a++w::b→∀ y∈a++[w],∀ z∈adj g y,z∈st→Rch g z w
 best:∀ a v b,en=a++v::b→∀ u,Rch g u v→∃ w,Sc g u w∧w∉a
theorem dis_lt {ps:List (Option Nat)} {i:Nat} (h:dis ps i):i<ps.length:=by
 obtain ⟨k,h⟩:=h
 exact (ay.mp h).1
theorem eK {α:Type} (l:List α) (i j:Nat) (x:α):(l.set i x)[j]? = if i=j then (if i<l.length then some x else none) else l[j]?:=by
 rw [List.getElem?_set]
theorem dis_set {ps:List (Option Nat)} {t k j:Nat} (h:dis ps j):dis (ps.set t (some k)) j:=by
 unfold dis;rw [eK];by_cases e:t=j
 ·rw [ao e,ao (e▸dis_lt h)];exact ⟨k,rfl⟩
 ·rw [ah e];exact h
theorem dis_of_set {ps:List (Option Nat)} {t k j:Nat} (h:dis (ps.set t (some k)) j):j=t∨dis ps j:=by
 unfold dis at h;rw [eK] at h;by_cases e:t=j
 ·exact .inl e.symm
 ·rw [ah e] at h;exact .inr h
theorem tp {en:List Nat} {y u:Nat} (hy:y∈en) (hu:u∈en):(∃ a b,en=a++u::b∧y∈a++[u])∨∃ a b,en=a++y::b∧u∈a:=by
 obtain ⟨a,b,rfl⟩:=List.append_of_mem hu
 by_cases h:y∈a++[u]
 ·exact .inl ⟨a,b,rfl,h⟩
 ·right
  have hb:y∈b:=by
   rw [aT,aJ,not_or] at h;rcases aT.mp hy with z | z
   ·exact aP z h.1
   ·rcases aF.mp z with z | z
    ·exact aP z h.2
    ·exact z
  obtain ⟨c,d,rfl⟩:=List.append_of_mem hb
  exact ⟨a++u::c,d,by simp,by simp⟩
theorem qN {y:Nat}:∀ {c d c' d':List Nat},(c++y::d).Nodup→c++y::d=c'++y::d'→c=c'
 | [],d,[],d',_,_=>rfl
 | [],d,x::c',d',nd,e=>by
  exfalso
  injection e with e1 e2;rw [fh,bE,e2] at nd;exact nd.1 (by simp)
 | x::c,d,[],d',nd,e=>by
  exfalso
  injection e with e1 e2;subst e1;rw [c9,bE] at nd;exact nd.1 (by simp)
 | x::c,d,x'::c',d',nd,e=>by
  injection e with e1 e2;subst e1;rw [c9,bE] at nd;rw [qN nd.2 e2]
theorem va {g:Gr} {en:List Nat} {u t:Nat} (h:Rch g u t) (hu:u∈en) (ht:t∉en):∃ y z,Rch g u y∧y∈en∧z∈adj g y∧z∉en∧Rch g z t:=by
 induction h with
 | refl=>exact aP hu ht
 | @step i j k hj hr ih =>
  by_cases h:j∈en
  ·obtain ⟨y,z,h1,h2,h3,h4,h5⟩:=ih h ht
   exact ⟨y,z,.step hj h1,h2,h3,h4,h5⟩
  ·exact ⟨i,j,.refl i,hu,hj,h,hr⟩
theorem D1.nil {g:Gr} {ps:List (Option Nat)} (hl:ps.length=g.length) (h:∀ i,¬dis ps i):D1 g ps [] [] where
 len:=hl
 disc:=fun i=>⟨fun z=>aP z (h i),fun z=>by rcases z with z | z<;>cases z⟩
 nodup:=gF
 cnt:=fun i k e=>aP ⟨k,e⟩ (h i)
 fin:=fun i z=>by cases z
 path:=trivial
 i5:=fun a w b e=>by cases a<;>cases e
 best:=fun a v b e=>by cases a<;>cases e
theorem D1.begin {g:Gr} {ps:List (Option Nat)} {st en:List Nat} {j:Nat} (I:D1 g ps st en) (hj:j<g.length) (hn:¬dis ps j) (hp:∀ t r,st=t::r→j∈adj g t):D1 g (ps.set j (some 0)) (j::st) en where
 len:=by rw [cV];exact I.len
 disc:=fun i=>by
  constructor
  ·intro h;rcases dis_of_set h with rfl | h
   ·exact .inl (by simp)
   ·rcases (I.disc i).mp h with h | h
    ·exact .inl (by simp [h])
    ·exact .inr h
  ·intro h;rw [aF] at h;rcases h with (rfl | h) | h
   ·refine ⟨0,?_⟩
    rw [eK,ao rfl,ao (by rw [I.len];exact hj)]
   ·exact dis_set ((I.disc i).mpr (.inl h))
   ·exact dis_set ((I.disc i).mpr (.inr h))
 nodup:=by
  rw [c9,bE];refine ⟨fun h=>hn ((I.disc j).mpr (aT.mp h)),I.nodup⟩
 cnt:=fun i k e=>by
  rw [eK] at e;by_cases h:j=i
  ·rw [ao h,ao (by rw [I.len];exact hj)] at e
   have e:=aA (aA e)
   subst e;exact ⟨a8 _,fun x hx=>by rw [cQ] at hx;cases hx⟩
  ·rw [ah h] at e;obtain ⟨h1,h2⟩:=I.cnt i k e
   exact ⟨h1,fun x hx=>dis_set (h2 x hx)⟩
 fin:=fun i hi=>by
  have hne:¬j=i:=fun z=>hn (z▸(I.disc i).mpr (.inr hi))
  rw [eK,ah hne];exact I.fin i hi
 path:=by
  cases st with
  | nil=>trivial
  | cons t r=>exact ⟨hp t r rfl,I.path⟩
 i5:=fun a w b e y hy z hz hs=>by
  rcases aF.mp hs with rfl | hs
  ·exfalso
   have hye:y∈en:=by
    rw [e];rcases aT.mp hy with h | h
    ·simp [h]
    ·rw [aJ.mp h];simp
   obtain ⟨_,h2⟩:=I.cnt y _ (I.fin y hye)
   exact hn (h2 z (by rw [cZ];exact hz))
  ·exact I.i5 a w b e y hy z hz hs
 best:=I.best
theorem D1.pass {g:Gr} {ps:List (Option Nat)} {t:Nat} {r en:List Nat} {k j:Nat} (I:D1 g ps (t::r) en) (hk:ps[t]? = some (some k)) (hj:(adj g t)[k]? = some j) (hd:dis ps j):D1 g (ps.set t (some (k+1))) (t::r) en:=by
 have htl:t<ps.length:=(ay.mp hk).1
 have hkl:k<(adj g t).length:=(ay.mp hj).1
 exact {
  len:=by rw [cV];exact I.len
  disc:=fun i=>by
   constructor
   ·intro h;rcases dis_of_set h with rfl | h
    ·exact .inl (by simp)
    ·exact (I.disc i).mp h
   ·intro h;exact dis_set ((I.disc i).mpr h)
  nodup:=I.nodup
  cnt:=fun i k' e=>by
   rw [eK] at e;by_cases h:t=i
   ·rw [ao h,ao htl] at e;have e:=aA (aA e)
    subst e;subst h;obtain ⟨h1,h2⟩:=I.cnt t k hk
    refine ⟨hkl,fun x hx=>dis_set ?_⟩
    rw [gE,hj,aT] at hx;rcases hx with hx | hx
    ·exact h2 x hx
    ·have hx:x∈[j]:=hx
     rw [aJ.mp hx];exact hd
   ·rw [ah h] at e;obtain ⟨h1,h2⟩:=I.cnt i k' e
    exact ⟨h1,fun x hx=>dis_set (h2 x hx)⟩
  fin:=fun i hi=>by
   have hne:¬t=i:=fun z=>by
    have:=I.nodup
    rw [c9,bE] at this;exact this.1 (aT.mpr (.inr (z▸hi)))
   rw [eK,ah hne];exact I.fin i hi
  path:=I.path
  i5:=I.i5
  best:=I.best }
theorem D1.passNew {g:Gr} {ps:List (Option Nat)} {t:Nat} {r en:List Nat} {k j:Nat} (I:D1 g ps (t::r) en) (hk:ps[t]? = some (some k)) (hj:(adj g t)[k]? = some j) (hl:j<g.length) (hd:¬dis ps j):D1 g ((ps.set t (some (k+1))).set j (some 0)) (j::t::r) en:=by
 have ht:dis ps t:=⟨k,hk⟩
 have hne:¬t=j:=fun z=>hd (z▸ht)
 have J:=I.begin hl hd (fun t' r' e=>by cases e;exact bj hj)
 have htl:t<ps.length:=dis_lt ht
 have hkl:k<(adj g t).length:=(ay.mp hj).1
 have e1:(ps.set t (some (k+1))).set j (some 0)=(ps.set j (some 0)).set t (some (k+1)):=List.set_comm _ _ hne
 rw [e1];have hk':(ps.set j (some 0))[t]? = some (some k):=by rw [eK,ah (fun z=>hne z.symm)];exact hk
 exact {
  len:=by rw [cV];exact J.len
  disc:=fun i=>by
   constructor
   ·intro h;rcases dis_of_set h with rfl | h
    ·exact .inl (by simp)
    ·exact (J.disc i).mp h
   ·intro h;exact dis_set ((J.disc i).mpr h)
  nodup:=J.nodup
  cnt:=fun i k' e=>by
   rw [eK] at e;by_cases h:t=i
   ·rw [ao h,ao (by rw [cV];exact htl)] at e
    have e:=aA (aA e)
    subst e;subst h;obtain ⟨h1,h2⟩:=J.cnt t k hk'
    refine ⟨hkl,fun x hx=>dis_set ?_⟩
    rw [gE,hj,aT] at hx;rcases hx with hx | hx
    ·exact h2 x hx
    ·have hx:x∈[j]:=hx
     rw [aJ.mp hx];exact (J.disc j).mpr (.inl (by simp))
   ·rw [ah h] at e;obtain ⟨h1,h2⟩:=J.cnt i k' e
    exact ⟨h1,fun x hx=>dis_set (h2 x hx)⟩
  fin:=fun i hi=>by
   have hne':¬t=i:=fun z=>by
    have:=I.nodup
    rw [c9,bE] at this;exact this.1 (aT.mpr (.inr (z▸hi)))
   rw [eK,ah hne'];exact J.fin i hi
  path:=J.path
  i5:=J.i5
  best:=J.best }
theorem D1.ended {g:Gr} {ps:List (Option Nat)} {t:Nat} {r en:List Nat} (I:D1 g ps (t::r) en) (hk:ps[t]? = some (some (adj g t).length)):D1 g ps r (en++[t]):=by
 have nd:=I.nodup
 rw [c9,bE] at nd;have hte:t∉en:=fun z=>nd.1 (aT.mpr (.inr z))
 have htr:t∉r:=fun z=>nd.1 (aT.mpr (.inl z))
 have tl:∀ z∈r,Rch g z t:=fun z hz=>I.path.top z (by simp [hz])
 have snoc:∀ a w b,en++[t]=a++w::b→(b=[]∧w=t∧a=en)∨∃ b',b=b'++[t]∧en=a++w::b':=by
  intro a w b e;rcases fV b with rfl | ⟨b',x,rfl⟩
  ·have:=List.append_inj' e rfl
   exact .inl ⟨rfl,(List.singleton_inj.mp this.2).symm,this.1.symm⟩
  ·have e:en++[t]=(a++w::b')++[x]:=by rw [e];simp
   have:=List.append_inj' e rfl
   right
   refine ⟨b',?_,this.1⟩
   rw [fW,List.singleton_inj.mp this.2]
 exact {
  len:=I.len
  disc:=fun i=>by
   rw [I.disc i,aF,aT,aJ];constructor
   ·rintro ((h | h) | h)
    ·exact .inr (.inr h)
    ·exact .inl h
    ·exact .inr (.inl h)
   ·rintro (h | h | h)
    ·exact .inl (.inr h)
    ·exact .inr h
    ·exact .inl (.inl h)
  nodup:=by
   have p:(t::(r++en)).Perm (r++(en++[t])):=by
    rw [←bq];exact (List.perm_append_comm (l₁:=[t]) (l₂:=r++en))
   exact p.nodup (bE.mpr nd)
  cnt:=I.cnt
  fin:=fun i hi=>by
   rcases aT.mp hi with h | h
   ·exact I.fin i h
   ·rw [aJ.mp h];exact hk
  path:=I.path.tail
  i5:=fun a w b e y hy z hz hs=>by
   rcases snoc a w b e with ⟨rfl,rfl,rfl⟩ | ⟨b',rfl,e'⟩
   ·exact tl z hs
   ·exact I.i5 a w b' e' y hy z hz (by simp [hs])
  best:=fun a v b e u hu=>by
   rcases snoc a v b e with ⟨rfl,rfl,rfl⟩ | ⟨b',rfl,e'⟩
   ·by_cases hue:u∈a
    ·obtain ⟨y,z,h1,h2,h3,h4,h5⟩:=va hu hue hte
     have hz:dis ps z:=by
      obtain ⟨_,h⟩:=I.cnt y _ (I.fin y h2)
      exact h z (by rw [cZ];exact h3)
     have hzs:z∈v::r:=((I.disc z).mp hz).resolve_right h4
     have huz:Rch g u z:=h1.trans (.one h3)
     rcases tp h2 hue with ⟨c,d,e1,e2⟩ | ⟨c,d,e1,e2⟩
     ·exact ⟨z,⟨huz,I.i5 c u d e1 y e2 z h3 hzs⟩,h4⟩
     ·obtain ⟨w',hw,hnw⟩:=I.best c y d e1 u h1
      by_cases hwe:w'∈a
      ·have hin:∃ c' d',a=c'++w'::d'∧y∈c'++[w']:=by
        rcases tp h2 hwe with h | ⟨c',d',e3,e4⟩
        ·exact h
        ·exfalso
         have:c'=c:=by
          have nda:a.Nodup:=(dS.mp nd.2).2.1
          rw [e1] at e3 nda;exact (qN nda e3).symm
         exact hnw (this▸e4)
       obtain ⟨c',d',e3,e4⟩:=hin
       exact ⟨z,⟨huz,(I.i5 c' w' d' e3 y e4 z h3 hzs).trans hw.2⟩,h4⟩
      ·exact ⟨w',hw,hwe⟩
    ·exact ⟨u,Sc.refl g u,hue⟩
   ·exact I.best a v b' e' u hu }
def Turned (g b:Gr):Prop:=b.length=g.length∧∀ i j,i∈adj b j↔j∈adj g i
structure R2 (g:Gr) (dn:List Nat) (rs:List (Option Nat)):Prop where
 len:rs.length=g.length
 ful:∀ x∈dn,dis rs x
 scc:∀ x c,rs[x]? = some (some c)→Sc g x c
 cls:∀ x c,rs[x]? = some (some c)→∀ y,Sc g x y→rs[y]? = some (some c)
theorem R2.nil {g:Gr} {rs:List (Option Nat)} (hl:rs.length=g.length) (h:∀ i,¬dis rs i):R2 g [] rs where
 len:=hl
 ful:=fun x z=>by cases z
 scc:=fun x c e=>aP ⟨c,e⟩ (h x)
 cls:=fun x c e=>aP ⟨c,e⟩ (h x)
structure Fl (g b:Gr) (f:Nat) (r0 rs:List (Option Nat)) (left:List Nat):Prop where
 len:rs.length=r0.length
 old:∀ x,dis r0 x→rs[x]? = r0[x]?
 new:∀ x,dis rs x→¬dis r0 x→rs[x]? = some (some f)∧Rch g x f
 lf:∀ y∈left,Rch g y f∧y<g.length
 cl:∀ x,dis rs x→¬dis r0 x→∀ y∈adj b x,dis rs y∨y∈left
 st:dis rs f∨f∈left
theorem Fl.start {g b:Gr} {f:Nat} {r0:List (Option Nat)} (hf:f<g.length):Fl g b f r0 r0 [f] where
 len:=rfl
 old:=fun x _=>rfl
 new:=fun x h n=>aP h n
 lf:=fun y hy=>by rw [aJ.mp hy];exact ⟨.refl f,hf⟩
 cl:=fun x h n=>aP h n
 st:=.inr (by simp)
theorem Fl.skip {g b:Gr} {f i:Nat} {r0 rs:List (Option Nat)} {left:List Nat} (I:Fl g b f r0 rs (left++[i])) (h:dis rs i):Fl g b f r0 rs left where
 len:=I.len
 old:=I.old
 new:=I.new
 lf:=fun y hy=>I.lf y (by simp [hy])
 cl:=fun x h1 h2 y hy=>by
  rcases I.cl x h1 h2 y hy with z | z
  ·exact .inl z
  ·rcases aT.mp z with z | z
   ·exact .inr z
   ·rw [aJ.mp z];exact .inl h
 st:=by
  rcases I.st with z | z
  ·exact .inl z
  ·rcases aT.mp z with z | z
   ·exact .inr z
   ·rw [aJ.mp z];exact .inl h
theorem Fl.meet {g b:Gr} {f i:Nat} {r0 rs:List (Option Nat)} {left:List Nat} (T:Turned g b) (hg:GOk g) (hb:GOk b) (hl:r0.length=g.length) (I:Fl g b f r0 rs (left++[i])) (h:¬dis rs i):Fl g b f r0 (rs.set i (some f)) (left++adj b i):=by
 obtain ⟨hi1,hi2⟩:=I.lf i (by simp)
 have hil:i<rs.length:=by rw [I.len,hl];exact hi2
 have hi:dis (rs.set i (some f)) i:=⟨f,by rw [eK,ao rfl,ao hil]⟩
 exact {
  len:=by rw [cV];exact I.len
  old:=fun x hx=>by
   have e:=I.old x hx
   have hne:¬i=x:=fun z=>h (z▸(by unfold dis;rw [e];exact hx))
   rw [eK,ah hne];exact e
  new:=fun x h1 h2=>by
   by_cases e:i=x
   ·subst e;exact ⟨by rw [eK,ao rfl,ao hil],hi1⟩
   ·rw [eK,ah e];rcases dis_of_set h1 with z | z
    ·exact aP z.symm e
    ·exact I.new x z h2
  lf:=fun y hy=>by
   rcases aT.mp hy with z | z
   ·exact I.lf y (by simp [z])
   ·have e:=(T.2 y i).mp z
    refine ⟨.step e hi1,?_⟩
    rw [←T.1];exact hb i y z
  cl:=fun x h1 h2 y hy=>by
   by_cases e:i=x
   ·subst e;exact .inr (by simp [hy])
   ·rcases dis_of_set h1 with z | z
    ·exact aP z.symm e
    ·rcases I.cl x z h2 y hy with w | w
     ·exact .inl (dis_set w)
     ·rcases aT.mp w with w | w
      ·exact .inr (by simp [w])
      ·rw [aJ.mp w];exact .inl hi
  st:=by
   rcases I.st with z | z
   ·exact .inl (dis_set z)
   ·rcases aT.mp z with z | z
    ·exact .inr (by simp [z])
    ·exact .inl ((congrArg (dis (rs.set i (some f))) (aJ.mp z)).mpr hi) }
theorem Fl.done {g b:Gr} {f:Nat} {r0 rs:List (Option Nat)} {td dn:List Nat} {ps:List (Option Nat)} (T:Turned g b) (D:D1 g ps [] (td++f::dn)) (all:∀ i,i<g.length→i∈td++f::dn) (hg:GOk g)
  (J:R2 g dn r0) (hf:¬dis r0 f) (I:Fl g b f r0 rs []):R2 g (f::dn) rs:=by
 have hff:dis rs f:=I.st.resolve_right (fun z=>by cases z)
 have inr:∀ {x y:Nat},Rch g x y→y<g.length→x<g.length∨x=y:=fun {x y} h hy=>by
  cases h with
  | refl=>exact .inr rfl
  | step hj _ =>
   left
   have:x<g.length:=by
    rcases gu x g.length with z | z
    ·exact z
    ·exfalso
     unfold adj at hj;rw [bL.mpr z] at hj;cases hj
   exact this
 have hfl:f<g.length:=by
  have:=dis_lt hff
  rw [I.len,J.len] at this;exact this
 have new:∀ x,dis rs x→¬dis r0 x→Sc g x f:=fun x h1 h2=>by
  obtain ⟨e1,e2⟩:=I.new x h1 h2
  obtain ⟨w,hw,hn⟩:=D.best td f dn rfl x e2
  have hxl:x<g.length:=by
   have:=dis_lt h1
   rw [I.len,J.len] at this;exact this
  have hwl:w<g.length:=by
   rcases inr hw.2 hxl with z | z
   ·exact z
   ·rw [z];exact hxl
  have:=all w hwl
  rcases aT.mp this with z | z
  ·exact aP z hn
  ·rcases aF.mp z with z | z
   ·rw [z] at hw;exact hw
   ·exfalso
    obtain ⟨c,hc⟩:=J.ful w z
    exact h2 ⟨c,J.cls w c hc x hw.symm⟩
 have ring:∀ {x y:Nat},Rch g x y→Sc g x f→y=f→dis rs x∧¬dis r0 x:=fun {x y} h=>by
  induction h with
  | refl i =>
   intro _ e;rw [e];exact ⟨hff,hf⟩
  | @step i j k hj hr ih =>
   intro hs e;have hjf:Sc g j f:=⟨e▸hr,hs.2.trans (.one hj)⟩
   obtain ⟨a1,a2⟩:=ih hjf e
   have ha:dis rs i:=(I.cl j a1 a2 i ((T.2 i j).mpr hj)).resolve_right (fun z=>by cases z)
   refine ⟨ha,fun z=>?_⟩
   obtain ⟨c,hc⟩:=z
   exact hf ⟨c,J.cls i c hc f hs⟩
 have val:∀ x,Sc g x f→rs[x]? = some (some f):=fun x hs=>by
  obtain ⟨a1,a2⟩:=ring hs.1 hs rfl
  exact (I.new x a1 a2).1
 exact {
  len:=by rw [I.len];exact J.len
  ful:=fun x hx=>by
   rcases aF.mp hx with rfl | hx
   ·exact hff
   ·have:=J.ful x hx
    unfold dis;rw [I.old x this];exact this
  scc:=fun x c e=>by
   by_cases h:dis r0 x
   ·rw [I.old x h] at e;exact J.scc x c e
   ·have hx:dis rs x:=⟨c,e⟩
    rw [(I.new x hx h).1] at e;have e:=aA (aA e)
    rw [←e];exact new x hx h
  cls:=fun x c e y hs=>by
   by_cases h:dis r0 x
   ·rw [I.old x h] at e;have:=J.cls x c e y hs
    rw [I.old y ⟨c,this⟩];exact this
   ·have hx:dis rs x:=⟨c,e⟩
    rw [(I.new x hx h).1] at e;have e:=aA (aA e)
    rw [←e];exact val y (hs.symm.trans (new x hx h)) }
theorem R2.skip {g:Gr} {f:Nat} {dn:List Nat} {rs:List (Option Nat)} (J:R2 g dn rs) (h:dis rs f):R2 g (f::dn) rs where
 len:=J.len
 ful:=fun x hx=>by
  rcases aF.mp hx with rfl | hx
  ·exact h
  ·exact J.ful x hx
 scc:=J.scc
 cls:=J.cls
theorem R2.same {g:Gr} {dn:List Nat} {rs:List (Option Nat)} (J:R2 g dn rs) (all:∀ i,i<g.length→i∈dn) {i j:Nat} (hi:i<g.length) (hj:j<g.length):rs[i]? = rs[j]?↔Sc g i j:=by
 obtain ⟨c,hc⟩:=J.ful i (all i hi)
 constructor
 ·intro e;have hc':=hc
  rw [e] at hc'
  exact (J.scc i c hc).trans (J.scc j c hc').symm
 ·intro h;rw [hc,J.cls i c hc j h]
def Back (g:Gr) (i:Nat):Prop:=∃ j,j∈adj g i∧Rch g j i
theorem back_iff {g:Gr} (hg:GOk g) {i:Nat} (hi:i<g.length):Back g i↔i∈adj g i∨∃ j,j<g.length∧j≠i∧Sc g i j:=by
 constructor
 ·rintro ⟨j,h1,h2⟩
  by_cases e:j=i
  ·exact .inl (e▸h1)
  ·exact .inr ⟨j,hg i j h1,e,.one h1,h2⟩
 ·rintro (h | ⟨j,_,hne,h1,h2⟩)
  ·exact ⟨i,h,.refl i⟩
  ·cases h1 with
   | refl=>exact aP rfl hne
   | step hj hr=>exact ⟨_,hj,hr.trans h2⟩
end Ri
namespace Ri
open Sw
def iM (y:Array Bool×List Nat) (j:Nat):Array Bool×List Nat:=if y.1.getD j true=true then y else (y.1.setIfInBounds j true,j::y.2)
theorem jU {m:Array Bool} {j:Nat} {d:Bool}:m.getD j d=(m[j]?).getD d:=by
 rw [Array.getD_eq_getD_getElem?]
theorem si {y:Array Bool×List Nat} {j:Nat} (h:y.1[j]? = some false):iM y j=(y.1.setIfInBounds j true,j::y.2):=by
 unfold iM;rw [jU,h,ah (by decide)]
theorem um {y:Array Bool×List Nat} {j:Nat} (h:¬y.1[j]? = some false):iM y j=y:=by
 unfold iM;rw [jU];cases e:y.1[j]? with
 | none=>rfl
 | some b =>
  cases b with
  | true=>rfl
  | false=>exact aP e h
theorem yb {m:Array Bool} {i j:Nat}:(m.setIfInBounds i true)[j]? = some true↔m[j]? = some true∨(j=i∧i<m.size):=by
 rw [gj];by_cases h:i=j
 ·subst h;rw [ao rfl];by_cases h2:i<m.size
  ·rw [ao h2];exact ⟨fun _=>.inr ⟨rfl,h2⟩,fun _=>rfl⟩
  ·rw [ah h2];constructor
   ·intro z;cases z
   ·rintro (z | z)
    ·exact aP (bu.mp z).1 h2
    ·exact aP z.2 h2
 ·rw [ah h];exact ⟨fun z=>.inl z,fun z=>z.elim id (fun y=>aP y.1.symm h)⟩
theorem wF:∀ (js:List Nat) (y:Array Bool×List Nat),(js.foldl iM y).1.size=y.1.size∧(∀ j,(js.foldl iM y).1[j]? = some true↔y.1[j]? = some true∨(j∈js∧j<y.1.size))∧∀ j,j∈(js.foldl iM y).2↔j∈y.2∨(j∈js∧y.1[j]? = some false)
 | [],y=>⟨rfl,fun j=>⟨.inl,fun z=>z.elim id (fun w=>by cases w.1)⟩,fun j=>⟨.inl,fun z=>z.elim id (fun w=>by cases w.1)⟩⟩
 | i::js,y=>by
  rw [List.foldl_cons];obtain ⟨h1,h2,h3⟩:=wF js (iM y i)
  by_cases h:y.1[i]? = some false
  ·have hi:i<y.1.size:=(bu.mp h).1
   rw [si h] at h1 h2 h3 ⊢;dsimp only at h1 h2 h3;rw [Array.size_setIfInBounds] at h1 h2;refine ⟨h1,fun j=>?_,fun j=>?_⟩
   ·rw [h2,yb,aF];constructor
    ·rintro ((z | z) | z)
     ·exact .inl z
     ·exact .inr ⟨.inl z.1,z.1▸z.2⟩
     ·exact .inr ⟨.inr z.1,z.2⟩
    ·rintro (z | ⟨z | z,w⟩)
     ·exact .inl (.inl z)
     ·exact .inl (.inr ⟨z,hi⟩)
     ·exact .inr ⟨z,w⟩
   ·rw [h3,aF,aF,gj];by_cases e:i=j
    ·subst e;rw [ao rfl,ao hi];exact ⟨fun _=>.inr ⟨.inl rfl,h⟩,fun _=>.inl (.inl rfl)⟩
    ·rw [ah e];constructor
     ·rintro ((z | z) | z)
      ·exact aP z.symm e
      ·exact .inl z
      ·exact .inr ⟨.inr z.1,z.2⟩
     ·rintro (z | ⟨z | z,w⟩)
      ·exact .inl (.inr z)
      ·exact aP z.symm e
      ·exact .inr ⟨z,w⟩
  ·rw [um h] at h1 h2 h3 ⊢;refine ⟨h1,fun j=>?_,fun j=>?_⟩
   ·rw [h2,aF];constructor
    ·rintro (z | z)
     ·exact .inl z
     ·exact .inr ⟨.inr z.1,z.2⟩
    ·rintro (z | ⟨z | z,w⟩)
     ·exact .inl z
     ·left
      subst z;cases e:y.1[j]? with
      | none=>exact aP (cS.mp e) (by omega)
      | some b =>
       cases b with
       | true=>rfl
       | false=>exact aP e h
     ·exact .inr ⟨z,w⟩
   ·rw [h3,aF];constructor
    ·rintro (z | z)
     ·exact .inl z
     ·exact .inr ⟨.inr z.1,z.2⟩
    ·rintro (z | ⟨z | z,w⟩)
     ·exact .inl z
     ·subst z;exact aP w h
     ·exact .inr ⟨z,w⟩
def jd (g:Array (List Nat)) (x:Array Bool×List Nat) (i:Nat):Array Bool×List Nat:=(g.getD i []).foldl iM x
theorem wC (g:Array (List Nat)):∀ (l:List Nat) (y:Array Bool×List Nat),(l.foldl (jd g) y).1.size=y.1.size∧(∀ j,(l.foldl (jd g) y).1[j]? = some true↔y.1[j]? = some true∨(j<y.1.size∧∃ i∈l,j∈g.getD i []))∧∀ j,j∈(l.foldl (jd g) y).2↔j∈y.2∨(y.1[j]? = some false∧∃ i∈l,j∈g.getD i [])
 | [],y=>⟨rfl,fun j=>⟨.inl,fun z=>z.elim id (fun ⟨_,i,w,_⟩=>by cases w)⟩,fun j=>⟨.inl,fun z=>z.elim id (fun ⟨_,i,w,_⟩=>by cases w)⟩⟩
 | i::l,y=>by
  rw [List.foldl_cons];obtain ⟨a1,a2,a3⟩:=wF (g.getD i []) y
  obtain ⟨h1,h2,h3⟩:=wC g l (jd g y i)
  unfold jd at h1 h2 h3 ⊢;refine ⟨h1.trans a1,fun j=>?_,fun j=>?_⟩
  ·rw [h2,a2,a1];constructor
   ·rintro ((z | ⟨z,w⟩) | ⟨z,k,hk,w⟩)
    ·exact .inl z
    ·exact .inr ⟨w,i,by simp,z⟩
    ·exact .inr ⟨z,k,by simp [hk],w⟩
   ·rintro (z | ⟨z,k,hk,w⟩)
    ·exact .inl (.inl z)
    ·rcases aF.mp hk with rfl | hk
     ·exact .inl (.inr ⟨w,z⟩)
     ·exact .inr ⟨z,k,hk,w⟩
  ·rw [h3,a3];have fl:∀ j:Nat,((g.getD i []).foldl iM y).1[j]? = some false→y.1[j]? = some false:=fun j e=>by
    cases ey:y.1[j]? with
    | none =>
     have:=cS.mp ey
     have:=(bu.mp e).1
     omega
    | some b =>
     cases b with
     | false=>rfl
     | true =>
      have:=(a2 j).mpr (.inl ey)
      rw [e] at this;cases this
   constructor
   ·rintro ((z | ⟨z,w⟩) | ⟨z,k,hk,w⟩)
    ·exact .inl z
    ·exact .inr ⟨w,i,by simp,z⟩
    ·exact .inr ⟨fl j z,k,by simp [hk],w⟩
   ·rintro (z | ⟨z,k,hk,w⟩)
    ·exact .inl (.inl z)
    ·by_cases hin:j∈g.getD i []
     ·exact .inl (.inr ⟨hin,z⟩)
     ·rcases aF.mp hk with rfl | hk
      ·exact aP w hin
      ·right
       refine ⟨?_,k,hk,w⟩
       have hjl:=(bu.mp z).1
       cases ey:((g.getD i []).foldl iM y).1[j]? with
       | none =>
        have:=cS.mp ey
        omega
       | some b =>
        cases b with
        | false=>rfl
        | true =>
         rcases (a2 j).mp ey with u | u
         ·rw [z] at u;cases u
         ·exact aP u.1 hin
theorem yy (g:Array (List Nat)) (k:Nat) (l:List Nat) (m:Array Bool):metFrom g (k+1) l m=if (l.foldl (jd g) (m,[])).2.isEmpty=true then (l.foldl (jd g) (m,[])).1 else metFrom g k (l.foldl (jd g) (m,[])).2 (l.foldl (jd g) (m,[])).1:=rfl
theorem kj {p q:Nat→Bool} (h:∀ x,q x=true→p x=true):∀ (l:List Nat),(l.filter q).length≤(l.filter p).length∧((∃ x∈l,p x=true∧q x=false)→(l.filter q).length<(l.filter p).length)
 | []=>⟨aI _,fun ⟨x,hx,_⟩=>by cases hx⟩
 | a::l=>by
  obtain ⟨h1,h2⟩:=kj h l
  rw [List.filter_cons,List.filter_cons];cases hq:q a with
  | true =>
   rw [ao rfl,ao (h a hq),aE,aE];refine ⟨by omega,fun ⟨x,hx,hp,hn⟩=>?_⟩
   rcases aF.mp hx with rfl | hx
   ·rw [hq] at hn;cases hn
   ·have:=h2 ⟨x,hx,hp,hn⟩
    omega
  | false =>
   rw [ah (by decide)]
   cases hp:p a with
   | true =>
    rw [ao rfl,aE];exact ⟨by omega,fun _=>by omega⟩
   | false =>
    rw [ah (by decide)]
    refine ⟨h1,fun ⟨x,hx,hp',hn⟩=>?_⟩
    rcases aF.mp hx with rfl | hx
    ·rw [hp] at hp';cases hp'
    ·exact h2 ⟨x,hx,hp',hn⟩
def un (m:Array Bool):Nat:=((List.range m.size).filter fun j=>m[j]?==some false).length
theorem wc {g:Array (List Nat)} {i:Nat}:g.getD i []=adj g.toList i:=by
 unfold adj;rw [Array.getD_eq_getD_getElem?,cF]
theorem uo {g:Array (List Nat)} (hg:GOk g.toList) (s:Nat):∀ (k:Nat) (l:List Nat) (m:Array Bool),m.size=g.size→(∀ j,m[j]? = some true→∃ x∈adj g.toList s,Rch g.toList x j)→(∀ x∈l,x=s∨∃ y∈adj g.toList s,Rch g.toList y x) →
  (∀ x,(x=s∨m[x]? = some true)→x∉l→∀ j∈adj g.toList x,m[j]? = some true)→un m+1≤k→∀ j,j<g.size→((metFrom g k l m)[j]? = some true↔∃ x∈adj g.toList s,Rch g.toList x j)
 | 0,l,m,_,_,_,_,hk,_,_=>aP hk (by omega)
 | k+1,l,m,hs,h1,h2,h3,hk,j0,hj0=>by
  rw [yy];obtain ⟨f1,f2,f3⟩:=wC g l (m,[])
  dsimp only at f1 f2 f3;generalize l.foldl (jd g) (m,[])=y at *;simp only [wc] at f2 f3;have hl:g.toList.length=g.size:=cD
  have g1:∀ j,y.1[j]? = some true→∃ x∈adj g.toList s,Rch g.toList x j:=fun j e=>by
   rcases (f2 j).mp e with z | ⟨_,i,hi,hj⟩
   ·exact h1 j z
   ·rcases h2 i hi with rfl | ⟨x,hx,hr⟩
    ·exact ⟨j,hj,.refl j⟩
    ·exact ⟨x,hx,hr.trans (.one hj)⟩
  have g3:∀ x,(x=s∨y.1[x]? = some true)→x∉y.2→∀ j∈adj g.toList x,y.1[j]? = some true:=fun x hx hn j hj=>by
   have hjl:j<m.size:=by rw [hs,←hl];exact hg x j hj
   by_cases hold:x=s∨m[x]? = some true
   ·by_cases hin:x∈l
    ·exact (f2 j).mpr (.inr ⟨hjl,x,hin,hj⟩)
    ·exact (f2 j).mpr (.inl (h3 x hold hin j hj))
   ·exfalso
    rw [not_or] at hold;have hx:=hx.resolve_left hold.1
    rcases (f2 x).mp hx with z | ⟨z,i,hi,hxi⟩
    ·exact hold.2 z
    ·refine hn ((f3 x).mpr (.inr ⟨?_,i,hi,hxi⟩))
     cases e:m[x]? with
     | none=>exact aP (cS.mp e) (by omega)
     | some b =>
      cases b with
      | true=>exact aP e hold.2
      | false=>rfl
  cases ey:y.2 with
  | nil =>
   rw [ao (show ([]:List Nat).isEmpty=true from rfl)];refine ⟨g1 j0,fun ⟨x,hx,hr⟩=>?_⟩
   have start:y.1[x]? = some true:=g3 s (.inl rfl) (by rw [ey];simp) x hx
   have go:∀ {a b:Nat},Rch g.toList a b→y.1[a]? = some true→y.1[b]? = some true:=fun {a b} h=>by
    induction h with
    | refl=>exact id
    | @step i j k hj hr ih=>exact fun e=>ih (g3 i (.inr e) (by rw [ey];simp) j hj)
   exact go hr start
  | cons a r =>
   rw [ah (by simp),←ey]
   refine uo hg s k y.2 y.1 (f1.trans hs) g1 (fun x hx=>?_) g3 ?_ j0 hj0
   ·rcases (f3 x).mp hx with z | ⟨_,i,hi,hxi⟩
    ·cases z
    ·rcases h2 i hi with rfl | ⟨w,hw,hr⟩
     ·exact .inr ⟨x,hxi,.refl x⟩
     ·exact .inr ⟨w,hw,hr.trans (.one hxi)⟩
   ·have ha:a∈y.2:=by rw [ey];simp
    obtain ⟨z,i,hi,hxi⟩:=((f3 a).mp ha).resolve_left (fun z=>by cases z)
    have hal:=(bu.mp z).1
    have hlt:un y.1<un m:=by
     unfold un;rw [f1];refine (kj (fun x hx=>?_) _).2 ⟨a,fP.mpr hal,?_,?_⟩
     ·rw [beq_iff_eq] at hx ⊢;cases e:m[x]? with
      | none =>
       have:=cS.mp e
       have:=(bu.mp hx).1
       omega
      | some b =>
       cases b with
       | false=>rfl
       | true =>
        have:=(f2 x).mpr (.inl e)
        rw [hx] at this;cases this
     ·rw [z];rfl
     ·have:y.1[a]? = some true:=(f2 a).mpr (.inr ⟨hal,i,hi,hxi⟩)
      rw [this];rfl
    omega
theorem comes_iff {g:Array (List Nat)} (hg:GOk g.toList) {i:Nat} (hi:i<g.size):comesBack g i=true↔Back g.toList i:=by
 unfold comesBack Back;have h:=uo hg i (g.size+1) [i] (Array.replicate g.size false) (by simp) (fun j e=>?_) (fun x hx=>.inl (aJ.mp hx)) (fun x hx hn=>?_) ?_ i hi
 ·rw [jU,←h];cases (metFrom g (g.size+1) [i] (Array.replicate g.size false))[i]? with
  | none=>exact ⟨fun z=>(by cases z),fun z=>(by cases z)⟩
  | some b=>cases b<;>simp
 ·rw [Array.getElem?_replicate] at e;split at e<;>cases e
 ·exfalso
  rcases hx with rfl | e
  ·exact hn (by simp)
  ·rw [Array.getElem?_replicate] at e;split at e<;>cases e
 ·unfold un;have:((List.range (Array.replicate g.size false).size).filter fun j=>(Array.replicate g.size false)[j]?==some false).length≤(List.range (Array.replicate g.size false).size).length:=List.length_filter_le _ _
  rw [List.length_range,Array.size_replicate] at this;rw [Array.size_replicate];omega
theorem oJ {g g':Gr} (h:∀ i j,j∈adj g i→j∈adj g' i) {a b:Nat} (r:Rch g a b):Rch g' a b:=by
 induction r with
 | refl=>exact .refl _
 | step hj _ ih=>exact .step (h _ _ hj) ih
theorem back_same {g g':Gr} (h:∀ i j,j∈adj g i↔j∈adj g' i) (i:Nat):Back g i↔Back g' i:=by
 constructor
 ·rintro ⟨j,h1,h2⟩
  exact ⟨j,(h i j).mp h1,oJ (fun a b=>(h a b).mp) h2⟩
 ·rintro ⟨j,h1,h2⟩
  exact ⟨j,(h i j).mpr h1,oJ (fun a b=>(h a b).mpr) h2⟩
end Ri
namespace Fo
open Sw Pm
def hasN (v:Value) (ws:List (List UInt8)):Bool:=decide (v.kind=6)&&((rowOf v).names==ws)
def mem (v:Value) (i:Nat):Value:=match v.member i with
 | some (_,w)=>w
 | none=>.no
def isNo:Value→Bool
 | .no=>true
 | _=>false
def rowKids (p:List Nat):Nat→Row→List (List Nat×Value)
 | _,.nil=>[]
 | i,.cons _ v r=>(p++[i],v)::rowKids p (i+1) r
def W (s:String):List UInt8:=word s
def ownB (sz:Bool) (v:Value):Option (Nat×List (List Nat×Value)):=if (boundsOf sz v).isSome=true then some (0,[]) else none
def ownN (v:Value):Option (Nat×List (List Nat×Value)):=if (mem v 0).kind=6∧(mem v 1).kind=6∧apart (rowOf (mem v 0)).names (rowOf (mem v 1)).names=true then
  some (3,(rowKids [0] 0 (rowOf (mem v 0))++rowKids [1] 0 (rowOf (mem v 1)))++(if isNo (mem v 2)=true then [] else [([2],mem v 2)])) else none
def ownO (v:Value):Option (Nat×List (List Nat×Value)):=if (mem v 0).kind=5∧(rowOf (mem v 0)).length≠0 then some (4,rowKids [0] 0 (rowOf (mem v 0))) else none
def ownU (names:List Bytes) (v:Value):Option (Nat×List (List Nat×Value)):=match mem v 0 with
 | .text t=>if names.contains (utf8 t)=true then some (5,[]) else none
 | _=>none
def own (names:List Bytes) (v:Value):Option (Nat×List (List Nat×Value)):=match v with
 | .text t=>if (wordForm t).isSome=true then some (0,[]) else none
 | v=>if hasN v [W "is"]=true then some (1,[])
  else if hasN v [W "number"]=true then ownB false (mem v 0)
  else if hasN v [W "bytes"]=true then ownB true (mem v 0)
  else if hasN v [W "text"]=true then ownB true (mem v 0)
  else if hasN v [W "list",W "size"]=true then (if (boundsOf true (mem v 1)).isSome=true then some (2,[([0],mem v 0)]) else none)
  else if hasN v [W "maybe",W "must",W "rest"]=true then ownN v
  else if hasN v [W "one"]=true then ownO v
  else if hasN v [W "use"]=true then ownU names v
  else none
def onto (p:List Nat) (l:List (List Nat×Value)):List (List Nat×Value):=l.map fun (x:List Nat×Value)=>(p++x.1,x.2)
theorem onto_app (p:List Nat) (a b:List (List Nat×Value)):onto p (a++b)=onto p a++onto p b:=aO
theorem jC (p q:List Nat):∀ (i:Nat) (m:Row),onto p (rowKids q i m)=rowKids (p++q) i m
 | _,.nil=>rfl
 | i,.cons n v r=>by
  show (p++(q++[i]),v)::onto p (rowKids q (i+1) r)=((p++q)++[i],v)::rowKids (p++q) (i+1) r
  rw [jC p q (i+1) r,bq]
inductive Mc (names:List Bytes):List (List Nat×Value)→Option (List Nat)→Prop
 | nil:Mc names [] none
 | bad {p:List Nat} {v:Value} {st:List (List Nat×Value)}:own names v=none→Mc names ((p,v)::st) (some p)
 | step {p:List Nat} {v:Value} {st:List (List Nat×Value)} {sh:Nat} {l:List (List Nat×Value)} {r:Option (List Nat)}:own names v=some (sh,l)→Mc names (onto p l++st) r→Mc names ((p,v)::st) r
def cG {α:Type} (names:List Bytes) (x:Except (List Nat) α) (here st:List (List Nat×Value)):Prop:=match x with
 | .ok _=>∀ r,Mc names st r→Mc names (here++st) r
 | .error e=>Mc names (here++st) (some e)
theorem cG.map {α β:Type} {names:List Bytes} {x:Except (List Nat) α} {f:α→β} {here st:List (List Nat×Value)} (h:cG names x here st):cG names (x.map f) here st:=by
 cases x<;>exact h
theorem cG.one {α:Type} {names:List Bytes} {x:Except (List Nat) α} {p:List Nat} {v:Value} {sh:Nat} {l st:List (List Nat×Value)} (o:own names v=some (sh,l)) (h:cG names x (onto p l) st):cG names x [(p,v)] st:=by
 cases x with
 | ok a=>exact fun r m=>.step o (h r m)
 | error e=>exact .step o h
theorem cG.no {α:Type} {names:List Bytes} {p:List Nat} {v:Value} {st:List (List Nat×Value)} (o:own names v=none):cG names (.error p:Except (List Nat) α) [(p,v)] st:=.bad o
theorem cG.leaf {α:Type} {names:List Bytes} {p:List Nat} {v:Value} {sh:Nat} {st:List (List Nat×Value)} {a:α} (o:own names v=some (sh,[])):cG names (.ok a:Except (List Nat) α) [(p,v)] st:=fun r m=>.step o m
theorem jB (names:List Bytes) (m:Row):own names (.rec_ m)=if hasN (.rec_ m) [W "is"]=true then some (1,[])
  else if hasN (.rec_ m) [W "number"]=true then ownB false (mem (.rec_ m) 0)
  else if hasN (.rec_ m) [W "bytes"]=true then ownB true (mem (.rec_ m) 0)
  else if hasN (.rec_ m) [W "text"]=true then ownB true (mem (.rec_ m) 0)
  else if hasN (.rec_ m) [W "list",W "size"]=true then (if (boundsOf true (mem (.rec_ m) 1)).isSome=true then some (2,[([0],mem (.rec_ m) 0)]) else none)
  else if hasN (.rec_ m) [W "maybe",W "must",W "rest"]=true then ownN (.rec_ m)
  else if hasN (.rec_ m) [W "one"]=true then ownO (.rec_ m)
  else if hasN (.rec_ m) [W "use"]=true then ownU names (.rec_ m)
  else none:=rfl
theorem gN (m:Row) (ws:List (List UInt8)):hasN (.rec_ m) ws=(m.names==ws):=by
 unfold hasN;rw [aq (show (Value.rec_ m).kind=6 from rfl),Bool.true_and];rfl
theorem ua (names:List Bytes) (n:Bytes) (v:Value):own names (.rec_ (.cons n v .nil))=if n=W "is" then some (1,[]) else if n=W "number" then ownB false v else if n=W "bytes" then ownB true v else if n=W "text" then ownB true v
  else if n=W "one" then (if v.kind=5∧(rowOf v).length≠0 then some (4,rowKids [0] 0 (rowOf v)) else none) else if n=W "use" then ownU names (.rec_ (.cons n v .nil)) else none:=by
 rw [jB];simp only [gN,Row.names];have e1:∀ x:List UInt8,(([n]:List Bytes)==[x])=decide (n=x):=fun x=>by
  by_cases h:n=x
  ·subst h;simp
  ·rw [ax h,aQ];intro z;exact h (List.cons.inj z).1
 have e2:∀ x y:List UInt8,(([n]:List Bytes)==[x,y])=false:=fun x y=>by
  rw [aQ];intro z;cases z
 have e3:∀ x y z:List UInt8,(([n]:List Bytes)==[x,y,z])=false:=fun x y z=>by
  rw [aQ];intro z;cases z
 simp only [e1,e2,e3,bQ,b5,if_false];rfl
theorem t9 (names:List Bytes) (n k:Bytes) (v w:Value):own names (.rec_ (.cons n v (.cons k w .nil)))=if n=W "list"∧k=W "size" then (if (boundsOf true w).isSome=true then some (2,[([0],v)]) else none) else none:=by
 rw [jB];simp only [gN,Row.names];have e1:∀ x:List UInt8,(([n,k]:List Bytes)==[x])=false:=fun x=>by
  rw [aQ];intro z;cases z
 have e2:∀ x y:List UInt8,(([n,k]:List Bytes)==[x,y])=decide (n=x∧k=y):=fun x y=>by
  by_cases h:n=x∧k=y
  ·obtain ⟨rfl,rfl⟩:=h;simp
  ·rw [ax h,aQ];intro z;injection z with z1 z2;injection z2 with z2 z3;exact h ⟨z1,z2⟩
 have e3:∀ x y z:List UInt8,(([n,k]:List Bytes)==[x,y,z])=false:=fun x y z=>by
  rw [aQ];intro z;cases z
 simp only [e1,e2,e3,bQ,b5,if_false];rfl
theorem t8 (names:List Bytes) (n k l:Bytes) (v w u:Value):own names (.rec_ (.cons n v (.cons k w (.cons l u .nil))))=if n=W "maybe"∧k=W "must"∧l=W "rest" then (if v.kind=6∧w.kind=6∧apart (rowOf v).names (rowOf w).names=true then
  some (3,(rowKids [0] 0 (rowOf v)++rowKids [1] 0 (rowOf w))++(if isNo u=true then [] else [([2],u)])) else none) else none:=by
 rw [jB];simp only [gN,Row.names];have e1:∀ x:List UInt8,(([n,k,l]:List Bytes)==[x])=false:=fun x=>by
  rw [aQ];intro z;cases z
 have e2:∀ x y:List UInt8,(([n,k,l]:List Bytes)==[x,y])=false:=fun x y=>by
  rw [aQ];intro z;cases z
 have e3:∀ x y z:List UInt8,(([n,k,l]:List Bytes)==[x,y,z])=decide (n=x∧k=y∧l=z):=fun x y z=>by
  by_cases h:n=x∧k=y∧l=z
  ·obtain ⟨rfl,rfl,rfl⟩:=h;simp
  ·rw [ax h,aQ];intro z;injection z with z1 z2;injection z2 with z2 z3;injection z3 with z3 z4;exact h ⟨z1,z2,z3⟩
 simp only [e1,e2,e3,bQ,b5,if_false];rfl
theorem lg (names:List Bytes) (n k l o:Bytes) (v w u x:Value) (r:Row):own names (.rec_ (.cons n v (.cons k w (.cons l u (.cons o x r)))))=none:=by
 rw [jB];simp only [gN,Row.names];have e1:∀ x:List UInt8,((n::k::l::o::r.names:List Bytes)==[x])=false:=fun x=>by
  rw [aQ];intro z;cases z
 have e2:∀ x y:List UInt8,((n::k::l::o::r.names:List Bytes)==[x,y])=false:=fun x y=>by
  rw [aQ];intro z;cases z
 have e3:∀ x y z:List UInt8,((n::k::l::o::r.names:List Bytes)==[x,y,z])=false:=fun x y z=>by
  rw [aQ];intro z;cases z
 simp only [e1,e2,e3,b5,if_false]
theorem ny (names:List Bytes):own names (.rec_ .nil)=none:=by
 rw [jB];simp only [gN,Row.names];have e1:∀ x:List UInt8,(([]:List Bytes)==[x])=false:=fun x=>rfl
 have e2:∀ x y:List UInt8,(([]:List Bytes)==[x,y])=false:=fun x y=>rfl
 have e3:∀ x y z:List UInt8,(([]:List Bytes)==[x,y,z])=false:=fun x y z=>rfl
 simp only [e1,e2,e3,b5,if_false]
theorem uE (names:List Bytes) (p:List Nat) (t:List Nat):formOf names p (.text t)=match wordForm t with
  | some f=>.ok f
  | none=>.error p:=rfl
theorem f_1 (names:List Bytes) (p:List Nat) (n:Bytes) (v:Value):formOf names p (.rec_ (.cons n v .nil))=if n=word "is" then .ok (.is_ v)
  else if n=word "number" then (match boundsOf false v with
   | some (a,b)=>.ok (.num a b)
   | none=>.error p)
  else if n=word "bytes" then (match boundsOf true v with
   | some (a,b)=>.ok (.bytes a b)
   | none=>.error p)
  else if n=word "text" then (match boundsOf true v with
   | some (a,b)=>.ok (.text a b)
   | none=>.error p)
  else if n=word "one" then (match v with
   | .list (.cons k w r)=>(formsOf names (p++[0]) 0 (.cons k w r)).map Form.one
   | _=>.error p)
  else if n=word "use" then (match v with
   | .text t=>if nameOk (utf8 t)=true∧names.contains (utf8 t)=true then .ok (.use (utf8 t)) else .error p
   | _=>.error p)
  else .error p:=by
 cases v with
 | list r=>cases r<;>rfl
 | _=>rfl
theorem f_2 (names:List Bytes) (p:List Nat) (n k:Bytes) (v w:Value):formOf names p (.rec_ (.cons n v (.cons k w .nil)))=if n=word "list"∧k=word "size" then (match boundsOf true w with
   | some (a,b)=>(formOf names (p++[0]) v).map fun (f:Form)=>.list f a b
   | none=>.error p)
  else .error p:=rfl
set_option smartUnfolding false in
theorem f_3 (names:List Bytes) (p:List Nat) (n k l:Bytes) (a b:Row) (c:Value):formOf names p (.rec_ (.cons n (.rec_ a) (.cons k (.rec_ b) (.cons l c .nil))))=if n=word "maybe"∧k=word "must"∧l=word "rest"∧apart a.names b.names=true then (match formsOf names (p++[0]) 0 a with
   | .error e=>.error e
   | .ok x=>match formsOf names (p++[1]) 0 b with
    | .error e=>.error e
    | .ok y=>match c with
     | .no=>.ok (.rec_ x y .nil)
     | c=>(formOf names (p++[2]) c).map fun (f:Form)=>.rec_ x y (.cons [] f .nil))
  else .error p:=by
 cases c<;>rfl
theorem qo (names:List Bytes) (p:List Nat) (i:Nat) (n:Bytes) (v:Value) (r:Row):formsOf names p i (.cons n v r)=match formOf names (p++[i]) v with
  | .error e=>.error e
  | .ok f=>(formsOf names p (i+1) r).map fun (l:Forms)=>.cons n f l:=rfl
theorem uF (names:List Bytes) (p:List Nat) (n k l i:Bytes) (v w c u:Value) (r:Row):formOf names p (.rec_ (.cons n v (.cons k w (.cons l c (.cons i u r))))) = .error p:=by
 cases v<;>first | rfl | (cases w<;>rfl)
theorem f_3n (names:List Bytes) (p:List Nat) (n k l:Bytes) (v w c:Value) (h:¬(v.kind=6∧w.kind=6)):formOf names p (.rec_ (.cons n v (.cons k w (.cons l c .nil)))) = .error p:=by
 cases v<;>first | rfl | (cases w<;>first | rfl | exact aP ⟨rfl,rfl⟩ h)
mutual
theorem hZ {names:List Bytes} (hn:∀ n,names.contains n=true→nameOk n=true):∀ (v:Value) (p:List Nat) (st:List (List Nat×Value)),cG names (formOf names p v) [(p,v)] st
 | .text t,p,st=>by
  rw [uE];cases e:wordForm t with
  | none=>exact cG.no (by show (if (wordForm t).isSome=true then _ else _)=_;rw [e];rfl)
  | some f=>exact cG.leaf (sh:=0) (by show (if (wordForm t).isSome=true then _ else _)=_;rw [e];rfl)
 | .rec_ .nil,p,st=>by
  exact cG.no (ny names)
 | .rec_ (.cons n v .nil),p,st=>by
  have o:=ua names n v
  rw [f_1];by_cases h1:n=word "is"
  ·rw [ao h1];rw [ao (show n=W "is" from h1)] at o;exact cG.leaf o
  rw [ah h1];rw [ah (show ¬n=W "is" from h1)] at o;by_cases h2:n=word "number"
  ·rw [ao h2];rw [ao (show n=W "number" from h2)] at o;unfold ownB at o;cases eb:boundsOf false v with
   | none=>rw [eb] at o;exact cG.no o
   | some x=>rw [eb] at o;exact cG.leaf o
  rw [ah h2];rw [ah (show ¬n=W "number" from h2)] at o;by_cases h3:n=word "bytes"
  ·rw [ao h3];rw [ao (show n=W "bytes" from h3)] at o;unfold ownB at o;cases eb:boundsOf true v with
   | none=>rw [eb] at o;exact cG.no o
   | some x=>rw [eb] at o;exact cG.leaf o
  rw [ah h3];rw [ah (show ¬n=W "bytes" from h3)] at o;by_cases h4:n=word "text"
  ·rw [ao h4];rw [ao (show n=W "text" from h4)] at o;unfold ownB at o;cases eb:boundsOf true v with
   | none=>rw [eb] at o;exact cG.no o
   | some x=>rw [eb] at o;exact cG.leaf o
  rw [ah h4];rw [ah (show ¬n=W "text" from h4)] at o;by_cases h5:n=word "one"
  ·rw [ao h5];rw [ao (show n=W "one" from h5)] at o;match v,o with
   | .list (.cons k w r),o =>
    rw [ao ⟨rfl,by show r.length+1≠0;omega⟩] at o
    refine cG.one o ?_
    rw [jC];exact (forms_says hn (.cons k w r) (p++[0]) 0 st).map
   | .list .nil,o=>exact cG.no (o.trans (ah (by rintro ⟨_,z⟩;exact z rfl)))
   | .no,o=>exact cG.no (o.trans (ah (by rintro ⟨z,_⟩;cases z)))
   | .yes,o=>exact cG.no (o.trans (ah (by rintro ⟨z,_⟩;cases z)))
   | .num _,o=>exact cG.no (o.trans (ah (by rintro ⟨z,_⟩;cases z)))
   | .bytes _,o=>exact cG.no (o.trans (ah (by rintro ⟨z,_⟩;cases z)))
   | .text _,o=>exact cG.no (o.trans (ah (by rintro ⟨z,_⟩;cases z)))
   | .rec_ _,o=>exact cG.no (o.trans (ah (by rintro ⟨z,_⟩;cases z)))
   | .moment _,o=>exact cG.no (o.trans (ah (by rintro ⟨z,_⟩;cases z)))
   | .id _,o=>exact cG.no (o.trans (ah (by rintro ⟨z,_⟩;cases z)))
  rw [ah h5];rw [ah (show ¬n=W "one" from h5)] at o;by_cases h6:n=word "use"
  ·rw [ao h6];rw [ao (show n=W "use" from h6)] at o;match v,o with
   | .text t,o =>
    have o:own names (.rec_ (.cons n (.text t) .nil))=if names.contains (utf8 t)=true then some (5,[]) else none:=o
    by_cases c:names.contains (utf8 t)=true
    ·rw [ao c] at o;show cG names (if nameOk (utf8 t)=true∧names.contains (utf8 t)=true then _ else _) _ _
     rw [ao ⟨hn _ c,c⟩];exact cG.leaf o
    ·rw [ah c] at o;show cG names (if nameOk (utf8 t)=true∧names.contains (utf8 t)=true then _ else _) _ _
     rw [ah (fun z=>c z.2)]
     exact cG.no o
   | .no,o=>exact cG.no o
   | .yes,o=>exact cG.no o
   | .num _,o=>exact cG.no o
   | .bytes _,o=>exact cG.no o
   | .list _,o=>exact cG.no o
   | .rec_ _,o=>exact cG.no o
   | .moment _,o=>exact cG.no o
   | .id _,o=>exact cG.no o
  rw [ah h6];rw [ah (show ¬n=W "use" from h6)] at o;exact cG.no o
 | .rec_ (.cons n v (.cons k w .nil)),p,st=>by
  have o:=t9 names n k v w
  rw [f_2];by_cases h:n=word "list"∧k=word "size"
  ·rw [ao h];rw [ao (show n=W "list"∧k=W "size" from h)] at o;cases eb:boundsOf true w with
   | none=>rw [eb] at o;exact cG.no o
   | some x =>
    rw [eb] at o;exact cG.one o ((hZ hn v (p++[0]) st).map)
  ·rw [ah h];rw [ah (show ¬(n=W "list"∧k=W "size") from h)] at o;exact cG.no o
 | .rec_ (.cons n v (.cons k w (.cons l c .nil))),p,st=>by
  have o:=t8 names n k l v w c
  by_cases hvw:v.kind=6∧w.kind=6
  ·match v,w,hvw,o with
   | .rec_ a,.rec_ b,_,o =>
    rw [f_3];by_cases h:n=word "maybe"∧k=word "must"∧l=word "rest"
    ·rw [ao (show n=W "maybe"∧k=W "must"∧l=W "rest" from h)] at o;by_cases ha:apart a.names b.names=true
     ·rw [ao ⟨h.1,h.2.1,h.2.2,ha⟩];rw [ao ⟨rfl,rfl,ha⟩] at o;refine cG.one o ?_
      rw [onto_app,onto_app,jC,jC,bq];show cG names _ (rowKids (p++[0]) 0 a++(rowKids (p++[1]) 0 b++_)) st
      have f1:=forms_says hn a (p++[0]) 0
      have f2:=forms_says hn b (p++[1]) 0
      have f3:=hZ hn c (p++[2]) st
      generalize hA:rowKids (p++[0]) 0 a=A;generalize hB:rowKids (p++[1]) 0 b=B;generalize hC:onto p (if isNo c=true then [] else [([2],c)])=C;show cG names _ (A++(B++C)) st
      have f1:=f1 ((B++C)++st)
      have f2:=f2 (C++st)
      rw [hA] at f1;rw [hB] at f2;cases e1:formsOf names (p++[0]) 0 a with
      | error e =>
       rw [e1] at f1;show Mc names (A++(B++C)++st) (some e)
       rw [bq];exact f1
      | ok x =>
       rw [e1] at f1;have f1:∀ r,Mc names ((B++C)++st) r→Mc names (A++((B++C)++st)) r:=f1
       cases e2:formsOf names (p++[1]) 0 b with
       | error e =>
        rw [e2] at f2;show Mc names (A++(B++C)++st) (some e)
        rw [bq];refine f1 _ ?_
        rw [bq];exact f2
       | ok y =>
        rw [e2] at f2;have f2:∀ r,Mc names (C++st) r→Mc names (B++(C++st)) r:=f2
        have all:∀ r,Mc names (C++st) r→Mc names (A++(B++C)++st) r:=fun r m=>by
         rw [bq];refine f1 _ ?_
         rw [bq];exact f2 _ m
        have rest:(hno:isNo c=false)→cG names ((formOf names (p++[2]) c).map fun (f:Form)=>Form.rec_ x y (.cons [] f .nil)) (A++(B++C)) st:=fun hno=>by
         have hC':C=[(p++[2],c)]:=by rw [←hC,hno];rfl
         subst hC'
         cases e3:formOf names (p++[2]) c with
         | error e=>rw [e3] at f3;exact all _ f3
         | ok z=>rw [e3] at f3;exact fun r m=>all _ (f3 _ m)
        match c,rest,hC with
        | .no,_,hC =>
         have hC':C=[]:=hC.symm
         subst hC'
         exact fun r m=>all _ m
        | .yes,rest,_=>exact rest rfl
        | .num _,rest,_=>exact rest rfl
        | .bytes _,rest,_=>exact rest rfl
        | .text _,rest,_=>exact rest rfl
        | .list _,rest,_=>exact rest rfl
        | .rec_ _,rest,_=>exact rest rfl
        | .moment _,rest,_=>exact rest rfl
        | .id _,rest,_=>exact rest rfl
     ·rw [ah (fun z=>ha z.2.2.2)]
      rw [ah (fun z=>ha z.2.2)] at o
      exact cG.no o
    ·rw [ah (fun z=>h ⟨z.1,z.2.1,z.2.2.1⟩)]
     rw [ah (show ¬(n=W "maybe"∧k=W "must"∧l=W "rest") from h)] at o;exact cG.no o
  ·have o:own names (.rec_ (.cons n v (.cons k w (.cons l c .nil))))=none:=by
    rw [o];split
    ·exact ah (fun z=>hvw ⟨z.1,z.2.1⟩)
    ·rfl
   have e:=f_3n names p n k l v w c hvw
   rw [e];exact cG.no o
 | .rec_ (.cons n v (.cons k w (.cons l c (.cons i u r)))),p,st=>by
  have o:=lg names n k l i v w c u r
  have e:=uF names p n k l i v w c u r
  rw [e];exact cG.no o
 | .no,p,st=>cG.no rfl
 | .yes,p,st=>cG.no rfl
 | .num _,p,st=>cG.no rfl
 | .bytes _,p,st=>cG.no rfl
 | .list _,p,st=>cG.no rfl
 | .moment _,p,st=>cG.no rfl
 | .id _,p,st=>cG.no rfl
theorem forms_says {names:List Bytes} (hn:∀ n,names.contains n=true→nameOk n=true):∀ (m:Row) (p:List Nat) (i:Nat) (st:List (List Nat×Value)),cG names (formsOf names p i m) (rowKids p i m) st
 | .nil,p,i,st=>by
  exact fun r m=>m
 | .cons n v r,p,i,st=>by
  rw [qo];have f1:=hZ hn v (p++[i]) (rowKids p (i+1) r++st)
  have f2:=forms_says hn r p (i+1) st
  show cG names _ ((p++[i],v)::rowKids p (i+1) r) st
  cases e1:formOf names (p++[i]) v with
  | error e=>rw [e1] at f1;exact f1
  | ok x =>
   rw [e1] at f1;cases e2:formsOf names p (i+1) r with
   | error e=>rw [e2] at f2;exact f1 _ f2
   | ok y=>rw [e2] at f2;exact fun r m=>f1 _ (f2 _ m)
end
end Fo
namespace Fo
open Sw Pm
mutual
noncomputable def atV:Value→List Bytes
 | .rec_ (.cons n v .nil)=>if n=W "one" then atL v else if n=W "use" then (match v with | .text t=>[utf8 t] | _=>[]) else []
 | _=>[]
noncomputable def atL:Value→List Bytes
 | .list m=>atR m
 | _=>[]
noncomputable def atR:Row→List Bytes
 | .nil=>[]
 | .cons _ v r=>atV v++atR r
end
theorem v8 (n:Bytes) (v:Value):atV (.rec_ (.cons n v .nil))=if n=W "one" then atL v else if n=W "use" then (match v with | .text t=>[utf8 t] | _=>[]) else []:=by
 cases v<;>rfl
theorem pC (n:Bytes) (v:Value) (h1:n≠W "one") (h2:n≠W "use"):atV (.rec_ (.cons n v .nil))=[]:=by
 rw [v8,ah h1,ah h2]
theorem u9 {t:List Nat} {f:Form} (h:wordForm t=some f):f.at_=[]:=by
 unfold wordForm at h;cases e:wordForms.find? (fun (x:String×Form)=>word x.1==utf8 t) with
 | none=>rw [e] at h;cases h
 | some x =>
  rw [e] at h;have h:x.2=f:=aA h
  subst h;have hm:=List.mem_of_find?_eq_some e
  have:∀ x∈wordForms,x.2.at_=[]:=by
   intro x hx;unfold wordForms at hx;simp only [aF,bG,or_false] at hx;rcases hx with rfl | rfl | rfl | rfl | rfl | rfl | rfl | rfl | rfl<;>rfl
  exact this x hm
theorem lz {α β:Type} {x:Except (List Nat) α} {f:α→β} {y:β} (h:x.map f = .ok y):∃ a,x = .ok a∧f a=y:=by
 cases x with
 | error e=>cases h
 | ok a=>exact ⟨a,rfl,by injection h⟩
theorem jc {a b:String} (h:word a≠word b) {n:Bytes} (e:n=word a):n≠W b:=fun z=>h (by rw [←e,z];rfl)
mutual
theorem rh {names:List Bytes}:∀ (v:Value) (p:List Nat) (f:Form),formOf names p v = .ok f→f.at_=atV v
 | .text t,p,f,h=>by
  rw [uE] at h;cases e:wordForm t with
  | none=>rw [e] at h;cases h
  | some f' =>
   rw [e] at h;injection h with h;subst h;exact u9 e
 | .rec_ .nil,p,f,h=>by cases h
 | .rec_ (.cons n v .nil),p,f,h=>by
  rw [f_1] at h;by_cases h1:n=word "is"
  ·rw [ao h1] at h;injection h with h;subst h;exact (pC n v (jc (by decide) h1) (jc (by decide) h1)).symm
  rw [ah h1] at h;by_cases h2:n=word "number"
  ·rw [ao h2] at h;rw [pC n v (jc (by decide) h2) (jc (by decide) h2)]
   cases eb:boundsOf false v with
   | none=>rw [eb] at h;cases h
   | some x=>rw [eb] at h;injection h with h;subst h;rfl
  rw [ah h2] at h;by_cases h3:n=word "bytes"
  ·rw [ao h3] at h;rw [pC n v (jc (by decide) h3) (jc (by decide) h3)]
   cases eb:boundsOf true v with
   | none=>rw [eb] at h;cases h
   | some x=>rw [eb] at h;injection h with h;subst h;rfl
  rw [ah h3] at h;by_cases h4:n=word "text"
  ·rw [ao h4] at h;rw [pC n v (jc (by decide) h4) (jc (by decide) h4)]
   cases eb:boundsOf true v with
   | none=>rw [eb] at h;cases h
   | some x=>rw [eb] at h;injection h with h;subst h;rfl
  rw [ah h4] at h;rw [v8];by_cases h5:n=word "one"
  ·rw [ao h5] at h;rw [ao (show n=W "one" from h5)];match v,h with
   | .list (.cons k w r),h =>
    obtain ⟨l,e1,e2⟩:=lz h
    subst e2;exact forms_at (.cons k w r) (p++[0]) 0 l e1
  rw [ah h5] at h;rw [ah (show ¬n=W "one" from h5)];by_cases h6:n=word "use"
  ·rw [ao h6] at h;rw [ao (show n=W "use" from h6)];match v,h with
   | .text t,h =>
    have h:(if nameOk (utf8 t)=true∧names.contains (utf8 t)=true then (.ok (.use (utf8 t)):Except (List Nat) Form) else .error p) = .ok f:=h
    split at h
    ·injection h with h;subst h;rfl
    ·cases h
  rw [ah h6] at h;cases h
 | .rec_ (.cons n v (.cons k w .nil)),p,f,h=>by
  rw [f_2] at h;split at h
  ·cases eb:boundsOf true w with
   | none=>rw [eb] at h;cases h
   | some x =>
    rw [eb] at h;obtain ⟨l,e1,e2⟩:=lz h
    subst e2;rfl
  ·cases h
 | .rec_ (.cons n v (.cons k w (.cons l c .nil))),p,f,h=>by
  show f.at_=[]
  by_cases hvw:v.kind=6∧w.kind=6
  ·match v,w,hvw,h with
   | .rec_ a,.rec_ b,_,h =>
    rw [f_3] at h;split at h
    ·cases e1:formsOf names (p++[0]) 0 a with
     | error e=>rw [e1] at h;cases h
     | ok x =>
      rw [e1] at h;cases e2:formsOf names (p++[1]) 0 b with
      | error e=>rw [e2] at h;cases h
      | ok y =>
       rw [e2] at h;have hm:∀ z:Except (List Nat) Form,(z.map fun (f:Form)=>Form.rec_ x y (.cons [] f .nil)) = .ok f→f.at_=[]:=fun z hz=>by
        obtain ⟨l,_,e2⟩:=lz hz
        subst e2;rfl
       cases c<;>first | exact hm _ h | (injection h with h;subst h;rfl)
    ·cases h
  ·rw [f_3n names p n k l v w c hvw] at h;cases h
 | .rec_ (.cons n v (.cons k w (.cons l c (.cons i u r)))),p,f,h=>by
  rw [uF] at h;cases h
 | .no,p,f,h=>by cases h
 | .yes,p,f,h=>by cases h
 | .num _,p,f,h=>by cases h
 | .bytes _,p,f,h=>by cases h
 | .list _,p,f,h=>by cases h
 | .moment _,p,f,h=>by cases h
 | .id _,p,f,h=>by cases h
theorem forms_at {names:List Bytes}:∀ (m:Row) (p:List Nat) (i:Nat) (l:Forms),formsOf names p i m = .ok l→l.at_=atR m
 | .nil,p,i,l,h=>by
  have h:(Except.ok .nil:Except (List Nat) Forms) = .ok l:=h
  injection h with h;subst h;rfl
 | .cons n v r,p,i,l,h=>by
  rw [qo] at h;cases e1:formOf names (p++[i]) v with
  | error e=>rw [e1] at h;cases h
  | ok x =>
   rw [e1] at h;obtain ⟨y,e2,e3⟩:=lz h
   subst e3;show x.at_++y.at_=atV v++atR r
   rw [rh v _ x e1,forms_at r p (i+1) y e2]
end
def vals:Row→List Value
 | .nil=>[]
 | .cons _ v r=>v::vals r
theorem vals_len:∀ m:Row,(vals m).length=m.length
 | .nil=>rfl
 | .cons _ v r=>congrArg (· + 1) (vals_len r)
theorem vals_get:∀ (m:Row) (i:Nat),(vals m)[i]? = (m.get? i).map fun (x:Bytes×Value)=>x.2
 | .nil,i=>rfl
 | .cons n v r,0=>rfl
 | .cons n v r,i+1=>vals_get r i
theorem o9 {names:List Bytes}:∀ (m:Row) (p:List Nat) (i:Nat) (l:Forms),formsOf names p i m = .ok l→l.names=m.names∧l.list.map Form.at_=(vals m).map atV
 | .nil,p,i,l,h=>by
  have h:(Except.ok .nil:Except (List Nat) Forms) = .ok l:=h
  injection h with h;subst h;exact ⟨rfl,rfl⟩
 | .cons n v r,p,i,l,h=>by
  rw [qo] at h;cases e1:formOf names (p++[i]) v with
  | error e=>rw [e1] at h;cases h
  | ok x =>
   rw [e1] at h;obtain ⟨y,e2,e3⟩:=lz h
   subst e3;obtain ⟨h1,h2⟩:=o9 r p (i+1) y e2
   exact ⟨congrArg (n::·) h1,by show x.at_::y.list.map Form.at_=atV v::(vals r).map atV;rw [h2,rh v _ x e1]⟩
theorem qT (q:List Nat):∀ (i:Nat) (m:Row),(rowKids q i m).flatMap (fun (x:List Nat×Value)=>atV x.2)=atR m
 | _,.nil=>rfl
 | i,.cons n v r=>by
  show atV v++(rowKids q (i+1) r).flatMap _=atV v++atR r
  rw [qT q (i+1) r]
theorem own_at {names:List Bytes} {v:Value} {sh:Nat} {l:List (List Nat×Value)} (h:own names v=some (sh,l)) :
  (sh=5→∃ t,mem v 0 = .text t∧atV v=[utf8 t]∧names.contains (utf8 t)=true)∧(sh=4→atV v=l.flatMap (fun (x:List Nat×Value)=>atV x.2))∧(sh≠5→sh≠4→atV v=[]):=by
 have leaf:∀ (k:Nat),k<4→sh=k→atV v=[]→(sh=5→∃ t,mem v 0 = .text t∧atV v=[utf8 t]∧names.contains (utf8 t)=true)∧(sh=4→atV v=l.flatMap (fun (x:List Nat×Value)=>atV x.2))∧(sh≠5→sh≠4→atV v=[]):=fun k hk e ha =>
  ⟨fun z=>by omega,fun z=>by omega,fun _ _=>ha⟩
 match v,h,leaf with
 | .text t,h,leaf =>
  have h:(if (wordForm t).isSome=true then some (0,[]) else none)=some (sh,l):=h
  split at h
  ·injection h with h;injection h with h1 h2;exact leaf 0 (by decide) h1.symm rfl
  ·cases h
 | .rec_ .nil,h,leaf=>rw [ny] at h;cases h
 | .rec_ (.cons n v .nil),h,leaf =>
  rw [ua] at h;have bnd:∀ (s:Bool),ownB s v=some (sh,l)→sh=0:=fun s z=>by
   unfold ownB at z;split at z
   ·injection z with z;injection z with z1 z2;exact z1.symm
   ·cases z
  by_cases h1:n=W "is"
  ·rw [ao h1] at h;injection h with h;injection h with h1' h2
   exact leaf 1 (by decide) h1'.symm (pC n v (jc (by decide) h1) (jc (by decide) h1))
  rw [ah h1] at h;by_cases h2:n=W "number"
  ·rw [ao h2] at h;exact leaf 0 (by decide) (bnd _ h) (pC n v (jc (by decide) h2) (jc (by decide) h2))
  rw [ah h2] at h;by_cases h3:n=W "bytes"
  ·rw [ao h3] at h;exact leaf 0 (by decide) (bnd _ h) (pC n v (jc (by decide) h3) (jc (by decide) h3))
  rw [ah h3] at h;by_cases h4:n=W "text"
  ·rw [ao h4] at h;exact leaf 0 (by decide) (bnd _ h) (pC n v (jc (by decide) h4) (jc (by decide) h4))
  rw [ah h4] at h;by_cases h5:n=W "one"
  ·rw [ao h5] at h;split at h
   ·rename_i hk
    injection h with h;injection h with h1' h2'
    subst h1' h2'
    refine ⟨fun z=>aP z (by decide),fun _=>?_,fun _ z=>aP rfl z⟩
    rw [qT,v8,ao h5];match v,hk with
    | .list m,_=>rfl
   ·cases h
  rw [ah h5] at h;by_cases h6:n=W "use"
  ·rw [ao h6] at h;match v,h with
   | .text t,h =>
    have h:(if names.contains (utf8 t)=true then some (5,[]) else none)=some (sh,l):=h
    split at h
    ·rename_i hc
     injection h with h;injection h with h1' h2'
     subst h1' h2'
     refine ⟨fun _=>⟨t,rfl,?_,hc⟩,fun z=>aP z (by decide),fun z=>aP rfl z⟩
     rw [v8,ah h5,ao h6]
    ·cases h
  rw [ah h6] at h;cases h
 | .rec_ (.cons n v (.cons k w .nil)),h,leaf =>
  rw [t9] at h;split at h
  ·split at h
   ·injection h with h;injection h with h1 h2;exact leaf 2 (by decide) h1.symm rfl
   ·cases h
  ·cases h
 | .rec_ (.cons n v (.cons k w (.cons o u .nil))),h,leaf =>
  rw [t8] at h;split at h
  ·split at h
   ·injection h with h;injection h with h1 h2;exact leaf 3 (by decide) h1.symm rfl
   ·cases h
  ·cases h
 | .rec_ (.cons n v (.cons k w (.cons o u (.cons y x r)))),h,leaf=>rw [lg] at h;cases h
 | .no,h,leaf=>cases h
 | .yes,h,leaf=>cases h
 | .num _,h,leaf=>cases h
 | .bytes _,h,leaf=>cases h
 | .list _,h,leaf=>cases h
 | .moment _,h,leaf=>cases h
 | .id _,h,leaf=>cases h
def wtL (l:List (List Nat×Value)):Nat:=(l.map fun (x:List Nat×Value)=>cntV x.2+1).sum
theorem wt_app (a b:List (List Nat×Value)):wtL (a++b)=wtL a+wtL b:=by
 unfold wtL;rw [aO,dN]
theorem wt_row (q:List Nat):∀ (i:Nat) (m:Row),wtL (rowKids q i m)=cntR m
 | _,.nil=>by rw [cntR_nil];rfl
 | i,.cons n v r=>by
  show (cntV v+1)+wtL (rowKids q (i+1) r)=_
  rw [wt_row q (i+1) r,cntR_cons];omega
theorem wt_onto (p:List Nat):∀ l:List (List Nat×Value),wtL (onto p l)=wtL l
 | []=>rfl
 | x::l=>by
  show (cntV x.2+1)+wtL (onto p l)=(cntV x.2+1)+wtL l
  rw [wt_onto p l]
theorem wt_len:∀ l:List (List Nat×Value),l.length≤wtL l
 | []=>aI _
 | x::l=>by
  have:=wt_len l
  show l.length+1≤(cntV x.2+1)+wtL l
  omega
theorem cnt_rec (m:Row):cntV (.rec_ m)=cntR m:=by rw [cnt_row];rfl
theorem own_wt {names:List Bytes} {v:Value} {sh:Nat} {l:List (List Nat×Value)} (h:own names v=some (sh,l)):wtL l≤cntV v:=by
 match v,h with
 | .text t,h =>
  have h:(if (wordForm t).isSome=true then some (0,[]) else none)=some (sh,l):=h
  split at h
  ·injection h with h;injection h with h1 h2;subst h2;exact a8 _
  ·cases h
 | .rec_ .nil,h=>rw [ny] at h;cases h
 | .rec_ (.cons n v .nil),h =>
  rw [ua] at h;rw [cnt_rec,cntR_cons,cntR_nil];have bnd:∀ (s:Bool),ownB s v=some (sh,l)→wtL l≤1+cntV v+0:=fun s z=>by
   unfold ownB at z;split at z
   ·injection z with z;injection z with z1 z2;subst z2;exact a8 _
   ·cases z
  split at h
  ·injection h with h;injection h with h1 h2;subst h2;exact a8 _
  split at h
  ·exact bnd _ h
  split at h
  ·exact bnd _ h
  split at h
  ·exact bnd _ h
  split at h
  ·split at h
   ·injection h with h;injection h with h1 h2;subst h2;rw [wt_row,←cnt_row];omega
   ·cases h
  split at h
  ·match v,h with
   | .text t,h =>
    have h:(if names.contains (utf8 t)=true then some (5,[]) else none)=some (sh,l):=h
    split at h
    ·injection h with h;injection h with h1 h2;subst h2;exact a8 _
    ·cases h
  ·cases h
 | .rec_ (.cons n v (.cons k w .nil)),h =>
  rw [t9] at h;rw [cnt_rec,cntR_cons,cntR_cons,cntR_nil];split at h
  ·split at h
   ·injection h with h;injection h with h1 h2;subst h2;show (cntV v+1)+0≤_
    omega
   ·cases h
  ·cases h
 | .rec_ (.cons n v (.cons k w (.cons o u .nil))),h =>
  rw [t8] at h;rw [cnt_rec,cntR_cons,cntR_cons,cntR_cons,cntR_nil];split at h
  ·split at h
   ·injection h with h;injection h with h1 h2;subst h2;rw [wt_app,wt_app,wt_row,wt_row,←cnt_row,←cnt_row];have:wtL (if isNo u=true then [] else [([2],u)])≤cntV u+1:=by
     split
     ·exact a8 _
     ·exact aI _
    omega
   ·cases h
  ·cases h
 | .rec_ (.cons n v (.cons k w (.cons o u (.cons y x r)))),h=>rw [lg] at h;cases h
 | .no,h=>cases h
 | .yes,h=>cases h
 | .num _,h=>cases h
 | .bytes _,h=>cases h
 | .list _,h=>cases h
 | .moment _,h=>cases h
 | .id _,h=>cases h
def Wat (whole:Value) (path:List Nat) (v:Value) (p:Nat):Prop:=whole.at_ path=some v∧whole.placeOf path=p
theorem Wat.top (v:Value):Wat v [] v 0:=by
 constructor
 ·unfold Value.at_;rfl
 ·unfold Value.placeOf;rfl
theorem at_cons (v:Value) (i:Nat) (l:List Nat):v.at_ (i::l)=(v.member i).bind fun (x:Bytes×Value)=>x.2.at_ l:=by
 rw [Value.at_]
theorem Wat.mem:∀ {path:List Nat} {whole v:Value} {p i:Nat} {n:Bytes} {w:Value},Wat whole path v p→v.member i=some (n,w)→Wat whole (path++[i]) w (mplace v p i)
 | [],whole,v,p,i,n,w,h,e=>by
  obtain ⟨h1,h2⟩:=h
  unfold Value.at_ at h1;unfold Value.placeOf at h2;injection h1 with h1;subst h1 h2;constructor
  ·show whole.at_ [i]=some w
   rw [at_cons,e];show w.at_ []=some w
   unfold Value.at_;rfl
  ·show whole.placeOf [i]=_
   rw [place_one e];show mplace whole 0 i+w.placeOf []=_
   unfold Value.placeOf;rfl
 | j::path,whole,v,p,i,n,w,h,e=>by
  obtain ⟨h1,h2⟩:=h
  rw [at_cons] at h1;cases em:whole.member j with
  | none=>rw [em] at h1;cases h1
  | some x =>
   rw [em] at h1;rw [place_one em] at h2;have h1:x.2.at_ path=some v:=h1
   obtain ⟨a,b⟩:=Wat.mem (path:=path) (whole:=x.2) (p:=x.2.placeOf path) ⟨h1,rfl⟩ e
   constructor
   ·show whole.at_ (j::(path++[i]))=some w
    rw [at_cons,em];exact a
   ·show whole.placeOf (j::(path++[i]))=_
    rw [place_one em,b,lx v (x.2.placeOf path),lx v p,←h2];omega
end Fo
namespace Fo
open Sw Pm
def isBook (v:Value):Prop:=hasN v [W "forms",W "start"]=true∧(mem v 0).kind=6
noncomputable instance (v:Value):Decidable (isBook v):=by unfold isBook;exact inferInstance
def bkRow (v:Value):Row:=if isBook v then rowOf (mem v 0) else .nil
def bkStack (v:Value):List (List Nat×Value):=if isBook v then rowKids [0] 0 (rowOf (mem v 0))++[([1],mem v 1)] else [([],v)]
theorem uk {v:Value} (hp:v.plain=true) (n:Bytes) (h:(bkRow v).names.contains n=true):nameOk n=true:=by
 unfold bkRow at h;split at h
 ·rename_i hb
  obtain ⟨h1,h2⟩:=hb
  unfold mem at h h2;cases em:v.member 0 with
  | none=>rw [em] at h;cases h
  | some x =>
   obtain ⟨k,w⟩:=x
   rw [em] at h h2;have hw:=plain_mem hp em
   match w,h2,hw,h with
   | .rec_ m,_,hw,h =>
    have hw:(m.plain&&(m.names.all nameOk&&rising m.names))=true:=hw
    rw [bb,bb] at hw;exact dH.mp hw.2.1 n (eJ.mp h)
 ·cases h
theorem names_rise {v:Value} (hp:v.plain=true):rising (bkRow v).names=true:=by
 unfold bkRow;split
 ·rename_i hb
  obtain ⟨h1,h2⟩:=hb
  unfold mem at h2 ⊢;cases em:v.member 0 with
  | none=>rw [em] at h2;cases h2
  | some x =>
   obtain ⟨k,w⟩:=x
   rw [em] at h2;have hw:=plain_mem hp em
   match w,h2,hw with
   | .rec_ m,_,hw =>
    have hw:(m.plain&&(m.names.all nameOk&&rising m.names))=true:=hw
    rw [bb,bb] at hw;exact hw.2.2
 ·rfl
def Reads (v:Value) (x:Except (List Nat) Book):Prop:=match x with
 | .error e=>Mc (bkRow v).names (bkStack v) (some e)
 | .ok b=>Mc (bkRow v).names (bkStack v) none∧b.forms.names=(bkRow v).names∧b.forms.list.map Form.at_=(vals (bkRow v)).map atV
theorem cI {v:Value} (h:¬isBook v):Reads v ((formOf [] [] v).map fun (s:Form)=>(⟨.nil,s⟩:Book)):=by
 have hr:bkRow v = .nil:=ah h
 have hs:bkStack v=[([],v)]:=ah h
 unfold Reads;rw [hr,hs];have:=hZ (names:=[]) (fun n z=>by cases z) v [] []
 cases e:formOf [] [] v with
 | error e'=>rw [e] at this;exact this
 | ok f=>rw [e] at this;exact ⟨this _ .nil,rfl,rfl⟩
theorem not_book {v:Value} (h:hasN v [W "forms",W "start"]=false):¬isBook v:=fun z=>Bool.noConfusion (h.symm.trans z.1)
theorem p4 {v:Value} (hp:∀ n,(bkRow v).names.contains n=true→nameOk n=true):Reads v (readBook v):=by
 match v,hp with
 | .rec_ (.cons n (.rec_ m) (.cons k f .nil)),hp =>
  have hh:hasN (.rec_ (.cons n (.rec_ m) (.cons k f .nil))) [W "forms",W "start"]=([n,k]==[W "forms",W "start"]):=gN _ _
  by_cases c:n=word "forms"∧k=word "start"
  ·have hb:isBook (.rec_ (.cons n (.rec_ m) (.cons k f .nil))):=⟨by rw [hh];obtain ⟨rfl,rfl⟩:=c;exact beq_self_eq_true _,rfl⟩
   have hn:=hp
   have hr:bkRow (.rec_ (.cons n (.rec_ m) (.cons k f .nil)))=m:=ao hb
   have hs:bkStack (.rec_ (.cons n (.rec_ m) (.cons k f .nil)))=rowKids [0] 0 m++[([1],f)]:=ao hb
   rw [hr] at hn;show Reads _ (if n=word "forms"∧k=word "start" then (match formsOf m.names [0] 0 m with
    | .error e=>.error e
    | .ok l=>(formOf m.names [1] f).map fun (s:Form)=>⟨l,s⟩) else _)
   rw [ao c];unfold Reads;rw [hr,hs];have f1:=forms_says hn m [0] 0 [([1],f)]
   have f2:=hZ hn f [1] []
   cases e1:formsOf m.names [0] 0 m with
   | error e=>rw [e1] at f1;exact f1
   | ok l =>
    rw [e1] at f1;obtain ⟨g1,g2⟩:=o9 m [0] 0 l e1
    cases e2:formOf m.names [1] f with
    | error e=>rw [e2] at f2;exact f1 _ f2
    | ok s=>rw [e2] at f2;exact ⟨f1 _ (f2 _ .nil),g1,g2⟩
  ·show Reads _ (if n=word "forms"∧k=word "start" then _ else _)
   rw [ah c];refine cI (not_book ?_)
   rw [hh,aQ];intro z;injection z with z1 z2;injection z2 with z2 z3;exact c ⟨z1,z2⟩
 | .rec_ .nil,hp=>exact cI (not_book rfl)
 | .rec_ (.cons n v .nil),hp =>
  refine (?_:readBook (.rec_ (.cons n v .nil))=_)▸cI (not_book ?_)
  ·cases v<;>rfl
  ·rw [gN,aQ];intro z;cases z
 | .rec_ (.cons n v (.cons k f (.cons o u r))),hp =>
  have e:readBook (.rec_ (.cons n v (.cons k f (.cons o u r))))=(formOf [] [] (.rec_ (.cons n v (.cons k f (.cons o u r))))).map fun (s:Form)=>(⟨.nil,s⟩:Book):=by
   cases v<;>rfl
  rw [e];refine cI (not_book ?_)
  rw [gN,aQ];intro z;cases z
 | .rec_ (.cons n .no (.cons k f .nil)),hp=>exact cI (fun z=>by cases z.2)
 | .rec_ (.cons n .yes (.cons k f .nil)),hp=>exact cI (fun z=>by cases z.2)
 | .rec_ (.cons n (.num _) (.cons k f .nil)),hp=>exact cI (fun z=>by cases z.2)
 | .rec_ (.cons n (.bytes _) (.cons k f .nil)),hp=>exact cI (fun z=>by cases z.2)
 | .rec_ (.cons n (.text _) (.cons k f .nil)),hp=>exact cI (fun z=>by cases z.2)
 | .rec_ (.cons n (.list _) (.cons k f .nil)),hp=>exact cI (fun z=>by cases z.2)
 | .rec_ (.cons n (.moment _) (.cons k f .nil)),hp=>exact cI (fun z=>by cases z.2)
 | .rec_ (.cons n (.id _) (.cons k f .nil)),hp=>exact cI (fun z=>by cases z.2)
 | .text _,hp=>exact cI (not_book rfl)
 | .no,hp=>exact cI (not_book rfl)
 | .yes,hp=>exact cI (not_book rfl)
 | .num _,hp=>exact cI (not_book rfl)
 | .bytes _,hp=>exact cI (not_book rfl)
 | .list _,hp=>exact cI (not_book rfl)
 | .moment _,hp=>exact cI (not_book rfl)
 | .id _,hp=>exact cI (not_book rfl)
theorem read_book {v:Value} (hp:v.plain=true):Reads v (readBook v):=p4 (uk hp)
def Gsp (names:List Bytes) (vs:List Value) (g:Ri.Gr):Prop:=g.length=vs.length∧∀ i j,j∈Ri.adj g i↔∃ v n,vs[i]? = some v∧n∈atV v∧names[j]? = some n
theorem rise_nodup {ns:List Bytes} (h:rising ns=true) {i j:Nat} {n:Bytes} (hi:ns[i]? = some n) (hj:ns[j]? = some n):i=j:=by
 have irr:∀ a:Bytes,bytesBefore a a=false:=by
  intro a;induction a with
  | nil=>rfl
  | cons c a ih =>
   show (decide (c.toNat<c.toNat)||(c==c&&bytesBefore a a))=false
   rw [ih,ax (b4 _)];simp
 rcases Nat.lt_trichotomy i j with c | c | c
 ·have:=jj h c hi hj
  rw [irr] at this;cases this
 ·exact c
 ·have:=jj h c hj hi
  rw [irr] at this;cases this
theorem qZ {ns:List Bytes} (h:rising ns=true) {n:Bytes} {j:Nat}:ns.findIdx? (fun (x:Bytes)=>x==n)=some j↔ns[j]? = some n:=by
 rw [List.findIdx?_eq_some_iff_getElem];constructor
 ·rintro ⟨h1,h2,_⟩
  rw [aB h1,eq_of_beq h2]
 ·intro e;obtain ⟨h1,h2⟩:=ay.mp e
  refine ⟨h1,by rw [h2];exact beq_self_eq_true _,fun i hi z=>?_⟩
  have hl:i<ns.length:=by omega
  have:ns[i]? = some n:=by rw [aB hl,eq_of_beq z]
  have:=rise_nodup h this e
  omega
theorem uj {b:Book} {names:List Bytes} {vs:List Value} (hr:rising names=true) (h1:b.forms.names=names) (h2:b.forms.list.map Form.at_=vs.map atV):Gsp names vs b.next.toList∧b.next.size=vs.length:=by
 have hl:b.forms.list.length=vs.length:=by
  have:=congrArg List.length h2
  rwa [ae,ae] at this
 have e:b.next.toList=b.forms.list.map fun (f:Form)=>f.at_.eraseDups.filterMap fun (n:Bytes)=>b.forms.names.findIdx? fun (x:Bytes)=>x==n:=rfl
 refine ⟨⟨by rw [e,ae,hl],fun i j=>?_⟩,by show b.next.toList.length=_;rw [e,ae,hl]⟩
 unfold Ri.adj;rw [e,aD];have h3:=congrArg (fun l=>l[i]?) h2
 simp only [aD] at h3;cases ef:b.forms.list[i]? with
 | none =>
  rw [ef] at h3;constructor
  ·intro z;cases z
  ·rintro ⟨v,n,hv,_⟩
   rw [hv] at h3;cases h3
 | some f =>
  rw [ef] at h3;cases ev:vs[i]? with
  | none=>rw [ev] at h3;cases h3
  | some v =>
   rw [ev] at h3;have h3:f.at_=atV v:=aA h3
   show j∈(f.at_.eraseDups.filterMap fun (n:Bytes)=>b.forms.names.findIdx? fun (x:Bytes)=>x==n)↔_
   rw [gG,h1];constructor
   ·rintro ⟨n,hn,hj⟩
    exact ⟨v,n,rfl,by rw [←h3];exact List.mem_eraseDups.mp hn,(qZ hr).mp hj⟩
   ·rintro ⟨v',n,hv,hn,hj⟩
    injection hv with hv;subst hv;exact ⟨n,List.mem_eraseDups.mpr (by rw [h3];exact hn),(qZ hr).mpr hj⟩
theorem Gsp.ok {names:List Bytes} {vs:List Value} {g:Ri.Gr} (h:Gsp names vs g) (hl:names.length=vs.length):Ri.GOk g:=by
 intro i j hj;obtain ⟨v,n,_,_,e⟩:=(h.2 i j).mp hj
 rw [h.1,←hl];exact (ay.mp e).1
theorem tR {p:Nat→Bool} {n i:Nat} (hi:i<n) (h:p i=true) (hf:∀ j,j<i→p j=false):(List.range n).find? p=some i:=by
 rw [List.find?_range_eq_some];exact ⟨h,fP.mpr hi,fun j hj=>by rw [hf j hj];rfl⟩
theorem book_ring {v:Value} {b:Book} {g:Ri.Gr} (hp:v.plain=true) (hb:readBook v = .ok b) (hg:Gsp (bkRow v).names (vals (bkRow v)) g) :
  (∀ i,i<g.length→Ri.Back g i→(∀ j,j<i→¬Ri.Back g j)→bookOf v = .error [0,i])∧((∀ i,i<g.length→¬Ri.Back g i)→bookOf v = .ok b):=by
 have h:=read_book hp
 rw [hb] at h;obtain ⟨_,h1,h2⟩:=h
 have hr:=names_rise hp
 obtain ⟨n1,n2⟩:=uj hr h1 h2
 have hnl:(bkRow v).names.length=(vals (bkRow v)).length:=by
  have:∀ m:Row,m.names.length=m.length:=fun m=>by
   induction m using Row.rec (motive_1:=fun _=>True) with
   | nil=>rfl
   | cons n v r _ ih=>exact congrArg (· + 1) ih
   | _=>trivial
  rw [vals_len,this]
 have ok:=n1.ok hnl
 have same:∀ i,Ri.Back b.next.toList i↔Ri.Back g i:=fun i=>Ri.back_same (fun i j=>(n1.2 i j).trans (hg.2 i j).symm) i
 have eb:bookOf v=match (List.range b.next.size).find? (comesBack b.next) with
   | some i=>.error [0,i]
   | none=>.ok b:=by
  unfold bookOf;rw [hb];rfl
 have com:∀ i,i<g.length→(comesBack b.next i=true↔Ri.Back g i):=fun i hi=>(Ri.comes_iff ok (by rw [n2,←hg.1];exact hi)).trans (same i)
 constructor
 ·intro i hi hbk hf;rw [eb,tR (i:=i) (by rw [n2,←hg.1];exact hi) ((com i hi).mpr hbk) fun j hj=>?_]
  cases e:comesBack b.next j with
  | false=>rfl
  | true=>exact aP ((com j (by omega)).mp e) (hf j hj)
 ·intro hf;rw [eb];have:(List.range b.next.size).find? (comesBack b.next)=none:=by
   rw [gH];intro i hi z;have hi:=fP.mp hi
   rw [n2,←hg.1] at hi;exact hf i hi ((com i hi).mp z)
  rw [this]
end Fo
namespace L2.J
open PySem PySem.Spec PyProof.Rows L2.XC
theorem fs_{N P:List Str}{c:Scope}(a:c.kind=.function:=by rfl)(b:c.isCoroutine=false:=by rfl)(d:c.isGenerator=false:=by rfl)(e:N.Nodup:=by decide +kernel)(f:N.take P.length=P:=by rfl)(g:∀ x∈P,c.names.lookup x=some .local∨c.names.lookup x=some .cell:=by decide +kernel)(h:∀ y∈c.names,y.2≠.free:=by decide +kernel):bw N P c:=⟨a,b,d,e,f,g,h⟩
def top (i:Nat):Stmt:=PySem.Challenge.pw_onevalues_s14_form.main.body.getD i (.Pass ⟨0,0,0,0⟩)
abbrev sFI:Stmt:=f6 (top 15) 0
abbrev sRI:Stmt:=f6 (top 30) 0
abbrev sSB:Stmt:=f6 (top 30) 1
abbrev sRB:Stmt:=f6 (top 30) 2
abbrev sPB:Stmt:=f6 (top 30) 4
abbrev sRV:Stmt:=f6 (top 30) 5
abbrev sSL:Stmt:=top 34
abbrev sLS:Stmt:=top 35
abbrev sHS:Stmt:=top 36
abbrev sPS:Stmt:=top 37
abbrev sCU:Stmt:=top 38
abbrev sPI:Stmt:=f6 (top 40) 0
abbrev sRW:Stmt:=top 41
abbrev sLM:Stmt:=top 42
abbrev sDP:Stmt:=top 43
abbrev sBM:Stmt:=top 44
abbrev sBP:Stmt:=top 45
abbrev sPN:Stmt:=top 46
abbrev sPR:Stmt:=top 47
abbrev sRN:Stmt:=top 48
abbrev sAB:Stmt:=top 49
abbrev sIB:Stmt:=top 50
abbrev sAO:Stmt:=top 52
abbrev sNO:Stmt:=top 53
abbrev sUI:Stmt:=f6 (top 55) 0
abbrev sUB:Stmt:=f6 (top 56) 0
abbrev sSO:Stmt:=top 58
abbrev sHN:Stmt:=top 60
abbrev yi:Stmt:=f6 (top 68) 0
abbrev sF0:Stmt:=top 69
abbrev sXW:Stmt:=top 70
abbrev sF1:Stmt:=top 71
abbrev sF2:Stmt:=top 72
abbrev sF3:Stmt:=top 73
abbrev sF4:Stmt:=top 74
abbrev sF5:Stmt:=top 75
abbrev sR0:Stmt:=top 79
abbrev sR1:Stmt:=top 80
abbrev sR2:Stmt:=top 81
abbrev sR3:Stmt:=top 82
abbrev sR4:Stmt:=top 83
abbrev sR5:Stmt:=top 84
abbrev sR6:Stmt:=top 85
abbrev sBK:Stmt:=top 87
abbrev sSU:Stmt:=top 88
abbrev sFO:Stmt:=top 90
def bv (c:UInt8):V:=.int (c.toNat:Int)
def Kp (H H':Hp) (r:Addr):Prop:=∀ b o,H b=some o→b≠r→H' b=some o
theorem Kp.trans {H H1 H2:Hp} {r:Addr} (a:Kp H H1 r) (b:Kp H1 H2 r):Kp H H2 r:=fun c o e n=>b c o (a c o e n) n
theorem Kp.refl (H:Hp) (r:Addr):Kp H H r:=fun _ _ e _=>e
theorem iB {K:Fg_} {H H':Hp} {r a C dx:Addr} {fs:List (Str×V)} {xs:List V} (h:SqL K H a xs) (k:Kp H H' r) (hr:H r=some (.ins C dx fs)):SqL K H' a xs:=by
 rcases h with (h | ⟨o,h⟩) | h
 ·exact .inl (.inl (k _ _ h (fb h hr (by intro z;cases z))))
 ·exact .inl (.inr ⟨o,k _ _ h (fb h hr (by intro z;cases z))⟩)
 ·exact .inr h
def GI (mg:Str→Option Value) (x:Str) (n:Int):Prop:=∃ t,mg x=some (.int n t)
theorem pgi {X:Cx} {x:Str} {n:Int} {pos:Pos} (h:GI X.mg x n) (hg:Gl X x) (hd:(x==("__debug__" : Str))=false:=by decide):PE X (.Name x pos) (tC (.int n)):=by
 obtain ⟨t,e⟩:=h
 exact kC hg e ⟨t,rfl⟩ hd
def gR (b:List UInt8):List Int:=b.map fun c=>(c.toNat:Int)
theorem rB (b:List UInt8):b.map bv=(gR b).map V.int:=by
 unfold gR;rw [eD];rfl
theorem my:∀ (q m:List UInt8),HT.lexLe (gR m) (gR q) = !Sw.bytesBefore q m
 | [],[]=>rfl
 | [],_::_=>rfl
 | _::_,[]=>rfl
 | a::q,b::m=>by
  have ih:=my q m
  show (if (b.toNat:Int)=(a.toNat:Int) then HT.lexLe (gR m) (gR q) else decide ((b.toNat:Int)≤(a.toNat:Int))) = !(decide (a.toNat<b.toNat)||(a==b&&Sw.bytesBefore q m))
  by_cases e:a=b
  ·subst e;rw [ao rfl,ih,ax (b4 _),beq_self_eq_true];rfl
  ·have hn:¬a.toNat=b.toNat:=fun z=>e (UInt8.toNat_inj.mp z)
   have hb:(a==b)=false:=aQ.mpr e
   rw [ah (by omega),hb,Bool.false_and,Bool.or_false]
   by_cases hl:a.toNat<b.toNat
   ·rw [aq hl,ax (by omega)]
    rfl
   ·rw [ax hl,aq (by omega)]
    rfl
theorem ja (bs:List UInt8) (p n:Nat) (h:p+n≤bs.length) {x y:Int} (hx:x=(p:Int)) (hy:y=((p+n:Nat):Int)):sM (bs.map bv) (some x) (some y)=((bs.drop p).take n).map bv:=by
 unfold sM;rw [hx,hy,HT.sIx_nat,HT.sIx_nat,ae,cA (by omega),cA (by omega),←List.map_drop,←List.map_take]
 congr 2
 omega
theorem rN (bs:List UInt8):ValuesNeutral.text (gR bs)=bs:=by
 unfold ValuesNeutral.text gR;rw [eD];conv=>rhs;rw [←List.map_id bs]
 congr 1
 funext c
 simp
theorem ql:∀ (ns:List Int),(∀ x∈ns,0≤x∧x≤255)→∃ bs:List UInt8,ns=gR bs∧bs.length=ns.length
 | [],_=>⟨[],rfl,rfl⟩
 | x::ns,h=>by
  obtain ⟨bs,e,l⟩:=ql ns fun y hy=>h y (by simp [hy])
  obtain ⟨h0,h1⟩:=h x (by simp)
  refine ⟨UInt8.ofNat x.toNat::bs,?_,by simp [l]⟩
  show x::ns=((UInt8.ofNat x.toNat).toNat:Int)::gR bs
  rw [←e];congr 1
  rw [UInt8.toNat_ofNat'];omega
def ansL (a:Values.Answer):List Int:=a.num::(a.more++((a.bytes.getD []).map fun (x:UInt8)=>((x.toNat:Nat):Int)))
theorem ln1 {us:List Value} (h:us.length=1):∃ a,us=[a]:=List.length_eq_one_iff.mp h
theorem ln2 {us:List Value} (h:us.length=2):∃ a b,us=[a,b]:=by
 cases us with
 | nil=>cases h
 | cons a r =>
  obtain ⟨b,rfl⟩:=ln1 (us:=r) (Nat.succ.inj h)
  exact ⟨a,b,rfl⟩
theorem ln3 {us:List Value} (h:us.length=3):∃ a b c,us=[a,b,c]:=by
 cases us with
 | nil=>cases h
 | cons a r =>
  obtain ⟨b,c,rfl⟩:=ln2 (us:=r) (Nat.succ.inj h)
  exact ⟨a,b,c,rfl⟩
theorem ln4 {us:List Value} (h:us.length=4):∃ a b c d,us=[a,b,c,d]:=by
 cases us with
 | nil=>cases h
 | cons a r =>
  obtain ⟨b,c,d,rfl⟩:=ln3 (us:=r) (Nat.succ.inj h)
  exact ⟨a,b,c,d,rfl⟩
def rLen (K:Fg_) (xs:List V) (H:Hp) (Q:VK):Prop:=∃ p ys,xs=[.ref p]∧(SqL K H p ys∨SqT K H p ys)∧Q (.int ys.length) H
theorem eo {X:Cx}:jg X (.builtin "len") (rLen X.K):=nR
structure Co (P:Program) (w:World) (K:Fg_) (mg:Str→Option Value) (base:Heap) (CX:CXT) (k:Nat) (f:Addr) (fd:FuncData) (ps:List Str) (sp:Sp) (x:Str):Prop where
 g:bK P w K mg base CX k f fd ps sp
 b:bT K fd ps []
 k:PySem.W.keepIn K (.ref f)=true
 m:mg x=some (.ref f)
theorem cv {X:Cx} {CX:CXT} {k:Nat} {f:Addr} {fd:FuncData} {ps:List Str} {sp:Sp} {x:Str} {E:XK} {e:Expr} {es:List Expr} {t:TA} {p pos:Pos} (F:Co X.prog X.w X.K X.mg X.base CX k f fd ps sp x) (hr:cB k X.A) (hg:Gl X x) (hx:gC CX X E) (ha:PA X (e::es) t)
  (hdb:(x==("__debug__" : Str))=false:=by decide) (he:starEach (e::es) X.env=(false,eval e X.env)::starEach es X.env:=by rfl) (hpl:(backTo pos (starEach es X.env)).any (·.1)=false:=by rfl) :
  PE X (.Call (.Name x p) (e::es) [] pos) (tG sp [] E t):=kF F.g hr hg F.m F.k F.b .nil hx ha hdb he hpl
theorem b1_ {K:Fg_} {x q:Str} {st:Stmt} {f:Addr} {fd:FuncData} {a0:Str} (F:Fun K x q st f fd) (h:∀ (kV doc pm:Value) (an:Option Addr) (cdv ct u0:Value),bindArgs (PySem.W.fnOf x q (gq st) (fJ st) (a9 st) .none kV doc pm an cdv ct) ⟨[u0],[]⟩=pure [(a0,u0)]:=by intros;rfl):bT K fd [a0] []:=F.binds fun _ _ _ _ _ _ us hl=>by obtain ⟨_,rfl⟩:=ln1 hl;exact h ..
theorem b2_ {K:Fg_} {x q:Str} {st:Stmt} {f:Addr} {fd:FuncData} {a0 a1:Str} (F:Fun K x q st f fd) (h:∀ (kV doc pm:Value) (an:Option Addr) (cdv ct u0 u1:Value),bindArgs (PySem.W.fnOf x q (gq st) (fJ st) (a9 st) .none kV doc pm an cdv ct) ⟨[u0,u1],[]⟩=pure [(a0,u0),(a1,u1)]:=by intros;rfl):bT K fd [a0,a1] []:=F.binds fun _ _ _ _ _ _ us hl=>by obtain ⟨_,_,rfl⟩:=ln2 hl;exact h ..
theorem b3_ {K:Fg_} {x q:Str} {st:Stmt} {f:Addr} {fd:FuncData} {a0 a1 a2:Str} (F:Fun K x q st f fd) (h:∀ (kV doc pm:Value) (an:Option Addr) (cdv ct u0 u1 u2:Value),bindArgs (PySem.W.fnOf x q (gq st) (fJ st) (a9 st) .none kV doc pm an cdv ct) ⟨[u0,u1,u2],[]⟩=pure [(a0,u0),(a1,u1),(a2,u2)]:=by intros;rfl):bT K fd [a0,a1,a2] []:=F.binds fun _ _ _ _ _ _ us hl=>by obtain ⟨_,_,_,rfl⟩:=ln3 hl;exact h ..
theorem b4_ {K:Fg_} {x q:Str} {st:Stmt} {f:Addr} {fd:FuncData} {a0 a1 a2 a3:Str} (F:Fun K x q st f fd) (h:∀ (kV doc pm:Value) (an:Option Addr) (cdv ct u0 u1 u2 u3:Value),bindArgs (PySem.W.fnOf x q (gq st) (fJ st) (a9 st) .none kV doc pm an cdv ct) ⟨[u0,u1,u2,u3],[]⟩=pure [(a0,u0),(a1,u1),(a2,u2),(a3,u3)]:=by intros;rfl):bT K fd [a0,a1,a2,a3] []:=F.binds fun _ _ _ _ _ _ us hl=>by obtain ⟨_,_,_,_,rfl⟩:=ln4 hl;exact h ..
theorem fd_ {K:Fg_} {H:Hp} {a C dx:Addr} {fs:List (Str×V)} {f:Str} {v:V} {q:V→Prop} (h:H a=some (.ins C dx fs)) (c:Cls K C) (n:cC K C f) (l:fs.lookup f=some v) (z:q v):∃ a' C' dx' fs' v',V.ref a = .ref a'∧H a'=some (.ins C' dx' fs')∧Cls K C'∧cC K C' f∧fs'.lookup f=some v'∧q v':=⟨a,C,dx,fs,v,rfl,h,c,n,l,z⟩
theorem fw_ {K:Fg_} {H:Hp} {a C dx:Addr} {fs:List (Str×V)} {f:Str} {q:Addr→Addr→Addr→List (Str×V)→Prop} (h:H a=some (.ins C dx fs)) (c:Cls K C) (n:cC K C f) (l:fs.length<1000) (z:q a C dx fs):∃ a' C' dx' fs',V.ref a = .ref a'∧H a'=some (.ins C' dx' fs')∧Cls K C'∧cC K C' f∧fs'.length<1000∧q a' C' dx' fs':=⟨a,C,dx,fs,rfl,h,c,n,l,z⟩
variable {P:Program}{w:World}{K:Fg_}{mg:Str→Option Value}{base:Heap}{CF CR CP CT CS fFI U CN fUP CL fUL CV fUV fRV fPB fRB CO ak CB fUB fFO:Addr}{fdV fdP fdB fdO:FuncData}
def rf (a:Addr) (p:Nat):List (Str×V):=[("row",.ref a),("place",.int (p:Int))]
theorem gW (a:Addr) (p:Nat):(rf a p).lookup ("row" : Str)=some (.ref a):=rfl
theorem cX (a:Addr) (p:Nat):(rf a p).lookup ("place" : Str)=some (.int (p:Int)):=rfl
theorem iC (a:Addr) (p:Nat) {m:Str} (h1:¬m = "row") (h2:¬m = "place"):(rf a p).lookup m=none:=by
 have a1:(m==("row" : Str))=false:=aQ.mpr h1
 have a2:(m==("place" : Str))=false:=aQ.mpr h2
 simp only [rf,List.lookup,a1,a2]
def fu (CR:Addr) (H:Hp) (r a:Addr) (p:Nat):Prop:=∃ dx,H r=some (.ins CR dx (rf a p))
structure TxR (K:Fg_) (mg:Str→Option Value) (CF CR fFI:Addr):Prop where
 xc:j6 K CF fFI
 cR:Cls K CR
 nRow:cC K CR "row"
 nPl:cC K CR "place"
 mF:mg "Fault" = some (.ref CF)
 len:mg "len" = none
 rng:mg "range" = none
 e1:GI mg "ENDS_TOO_SOON" 1
 e3:GI mg "WRONG_VARYING" 3
 mv:GI mg "MOST_VARYING_BYTES" 5
 hv:GI mg "HIGHEST_VARYING" 4294967295
def xD (CR:Addr):Sp:=fun vs H Q _=>∃ (r dx a:Addr),vs=[.ref r,.ref a]∧H r=some (.ins CR dx [])∧∀ H':Hp,fu CR H' r a 0→Kp H H' r→Q .non H'
def xy (K:Fg_) (CF CR:Addr):Sp:=fun vs H Q E=>∃ (r a:Addr) (p:Nat) (bs:List UInt8),vs=[.ref r]∧fu CR H r a p∧SqL K H a (bs.map bv) ∧
 (match bs[p]? with
  | some c=>Q (bv c) H
  | none=>Err E CF (.int 1) (.int (bs.length:Int)))
def vj (K:Fg_) (CF CR:Addr):Sp:=fun vs H Q E=>∃ (r a:Addr) (p:Nat) (bs:List UInt8),vs=[.ref r]∧fu CR H r a p∧SqL K H a (bs.map bv) ∧
 (match bs[p]? with
  | some c=>∀ H':Hp,fu CR H' r a (p+1)→Kp H H' r→Q (bv c) H'
  | none=>Err E CF (.int 1) (.int (bs.length:Int)))
theorem scFI:bw ["self","kind","place"] ["self","kind","place"] (a9 sFI):=fs_
theorem mr {f:Addr} {fd:FuncData} (F:Fun K "__init__" "Fault.__init__" sFI f fd) (T:TxR K mg CF CR fFI):bK P w K mg base CX0 1 f fd ["self","kind","place"] (jK CF):=by
 refine F.ok scFI (fun vs H Q E h=>?_) (fun cdv A outer s H vs Q E hr h=>?_)
 ·obtain ⟨e,k,p,rfl,_⟩:=h
  rfl
 ·obtain ⟨e,k,p,rfl,he,q⟩:=h
  refine ⟨_,az (ps_x1 T.xc (.inl rfl) (pv 0) (pv 1) rfl) (aH (ps_x2 T.xc (.inr rfl) (pv 0) (pv 2) rfl)),?_⟩
  try dsimp only [cY]
  refine ⟨_,rfl,_,rfl,e,rfl,he,fun dx n ne=>?_⟩
  refine ⟨_,rfl,_,rfl,e,dx,_,rfl,au,by rw [aa ne,au],ne,by show 1≤1000;decide,?_⟩
  exact q dx _ ne (by rw [aa (aN ne),au]) au
theorem scRI:bw ["self","row"] ["self","row"] (a9 sRI):=fs_
theorem ok_RI {f:Addr} {fd:FuncData} (F:Fun K "__init__" "Reader.__init__" sRI f fd) (T:TxR K mg CF CR fFI):bK P w K mg base CX0 1 f fd ["self","row"] (xD CR):=by
 refine F.ok scRI (fun vs H Q E h=>?_) (fun cdv A outer s H vs Q E hr h=>?_)
 ·obtain ⟨r,dx,a,rfl,_⟩:=h
  rfl
 ·obtain ⟨r,dx,a,rfl,hp,k⟩:=h
  refine ⟨_,az (bN (pv 0) (pv 1) rfl) (aH (bN (pv 0) bh rfl)),?_⟩
  try dsimp only [cY];refine ⟨_,rfl,_,rfl,r,CR,dx,[],rfl,hp,T.cR,T.nRow,(by show 0<1000;decide),?_⟩
  refine ⟨_,rfl,r,CR,dx,_,rfl,au,T.cR,T.nPl,(by show 1<1000;decide),?_⟩
  exact k _ ⟨dx,au⟩ fun b o e n=>by rw [aa n,aa n];exact e
theorem scSB:bw ["self"] ["self"] (a9 sSB):=fs_
theorem ok_SB {f:Addr} {fd fdI:FuncData} (F:Fun K "see_byte" "Reader.see_byte" sSB f fd) (T:TxR K mg CF CR fFI) (FI:Fun K "__init__" "Fault.__init__" sFI fFI fdI) (bI:bT K fdI ["self","kind","place"] []) :
  bK P w K mg base (CXF P w) 3 f fd ["self"] (xy K CF CR):=by
 have GI:bK P w K mg base CX0 1 fFI fdI ["self","kind","place"] (jK CF):=mr FI T
 refine okX F scSB (fun vs H Q E h=>?_) (fun cdv A outer s H vs Q E hr h=>?_)
 ·obtain ⟨r,a,p,bs,rfl,_⟩:=h
  rfl
 ·obtain ⟨r,a,p,bs,rfl,⟨dx,hr1⟩,hs,q⟩:=h
  refine ⟨_,az (bY (bo op_ge (aU (pv 0) rfl) (di eo (by rfl) T.len b8 (aj (aU (pv 0) rfl) aL)) (bA _))
    (aH (dQ T.xc GI bI hr ck rfl rfl T.mF (aj (pgi T.e1 rfl) (aj (di eo (by rfl) T.len b8 (aj (aU (pv 0) rfl) aL)) aL)))) bF)
   (aH (b9 (cK bM (aU (pv 0) rfl) (aU (pv 0) rfl) (fun _ _=>rfl)))),?_⟩
  try dsimp only [cY];refine ⟨_,rfl,fd_ hr1 T.cR T.nPl (cX a p) ⟨_,rfl,fd_ hr1 T.cR T.nRow (gW a p) ⟨a,_,rfl,.inl hs,_,_,rfl,rfl,_,rfl,?_⟩⟩⟩
  rw [ae];refine jn (fun z=>?_) (fun z=>?_)
  ·have z:=of_decide_eq_true z
   have e:bs[p]? = none:=bL.mpr (by omega)
   rw [e] at q;exact ⟨_,rfl,fd_ hr1 T.cR T.nRow (gW a p) ⟨a,_,rfl,.inl hs,_,_,rfl,by rw [ae];exact q⟩⟩
  ·have z:p<bs.length:=by
    have z:=z
    simp at z
    omega
   have e:bs[p]? = some bs[p]:=aB z
   rw [e] at q;exact ⟨_,rfl,fd_ hr1 T.cR T.nRow (gW a p) ⟨_,rfl,fd_ hr1 T.cR T.nPl (cX a p) ⟨a,_,_,bv bs[p],rfl,rfl,hs,dR (by rw [aD,e];rfl),q⟩⟩⟩
theorem scRB:bw ["self","byte"] ["self"] (a9 sRB):=fs_
theorem ok_RB {f fSB:Addr} {fd fdS:FuncData} (F:Fun K "read_byte" "Reader.read_byte" sRB f fd) (T:TxR K mg CF CR fFI)
  (GS:bK P w K mg base (CXF P w) 3 fSB fdS ["self"] (xy K CF CR)) (bS:bT K fdS ["self"] []) (mS:km K CR "see_byte" fSB) :
  bK P w K mg base (CXF P w) 4 f fd ["self"] (vj K CF CR):=by
 refine okX F scRB (fun vs H Q E h=>?_) (fun cdv A outer s H vs Q E hr h=>?_)
 ·obtain ⟨r,a,p,bs,rfl,_⟩:=h
  rfl
 ·obtain ⟨r,a,p,bs,rfl,⟨dx,hr1⟩,hs,q⟩:=h
  refine ⟨_,az (br (i:=1) scRB.nd rfl (.inl rfl) (gz (pv 0) T.cR mS GS hr bS .nil dC))
   (az (mf (pv 0) bh uA) (aH (b9 (pv 1)))),?_⟩
  try dsimp only [cY];refine ⟨_,rfl,r,dx,_,rfl,hr1,iC a p (by decide +kernel) (by decide +kernel),r,a,p,bs,rfl,⟨dx,hr1⟩,hs,?_⟩
  cases e:bs[p]? with
  | none =>
   rw [e] at q;exact q
  | some c =>
   rw [e] at q;refine ⟨_,rfl,r,CR,dx,_,_,rfl,hr1,T.cR,T.nPl,cX a p,_,_,rfl,rfl,dx,_,hr1,(by show 2<1000;decide),?_⟩
   refine ⟨_,rfl,q _ ⟨dx,?_⟩ fun b o e n=>by rw [aa n];exact e⟩
   rw [au];rfl
def xQ (K:Fg_) (CF CR:Addr):Sp:=fun vs H Q E=>∃ (r a:Addr) (p n:Nat) (bs:List UInt8),vs=[.ref r,.int (n:Int)]∧fu CR H r a p∧SqL K H a (bs.map bv)∧p≤bs.length ∧
 (if bs.length - p<n then Err E CF (.int 1) (.int (bs.length:Int)) else ∀ H':Hp,fu CR H' r a (p+n)→Kp H H' r→Q (.int (p:Int)) H')
theorem scPB:bw ["self","how_many","first"] ["self","how_many"] (a9 sPB):=fs_
theorem ok_PB {f:Addr} {fd fdI:FuncData} (F:Fun K "pass_bytes" "Reader.pass_bytes" sPB f fd) (T:TxR K mg CF CR fFI) (FI:Fun K "__init__" "Fault.__init__" sFI fFI fdI) (bI:bT K fdI ["self","kind","place"] []) :
  bK P w K mg base (CXF P w) 3 f fd ["self","how_many"] (xQ K CF CR):=by
 have GI:bK P w K mg base CX0 1 fFI fdI ["self","kind","place"] (jK CF):=mr FI T
 refine okX F scPB (fun vs H Q E h=>?_) (fun cdv A outer s H vs Q E hr h=>?_)
 ·obtain ⟨r,a,p,n,bs,rfl,_⟩:=h
  rfl
 ·obtain ⟨r,a,p,n,bs,rfl,⟨dx,hr1⟩,hs,hp,q⟩:=h
  refine ⟨_,az (bY (bo iJ (pv 1) (fH ub (di eo (by rfl) T.len b8 (aj (aU (pv 0) rfl) aL)) (aU (pv 0) rfl)) (bA _))
    (aH (dQ T.xc GI bI hr ck rfl rfl T.mF (aj (pgi T.e1 rfl) (aj (di eo (by rfl) T.len b8 (aj (aU (pv 0) rfl) aL)) aL)))) bF)
   (az (br (i:=2) scPB.nd rfl (.inl rfl) (aU (pv 0) rfl))
   (az (mf (pv 0) (pv 1) uA) (aH (b9 (pv 2))))),?_⟩
  try dsimp only [cY];refine ⟨_,rfl,_,rfl,fd_ hr1 T.cR T.nRow (gW a p) ⟨a,_,rfl,.inl hs,_,rfl,fd_ hr1 T.cR T.nPl (cX a p) ⟨_,_,rfl,rfl,_,_,rfl,rfl,_,rfl,?_⟩⟩⟩
  rw [ae];refine jn (fun z=>?_) (fun z=>?_)
  ·have z:=of_decide_eq_true z
   rw [ao (by omega)] at q
   exact ⟨_,rfl,fd_ hr1 T.cR T.nRow (gW a p) ⟨a,_,rfl,.inl hs,_,_,rfl,by rw [ae];exact q⟩⟩
  ·have z:¬bs.length - p<n:=by
    have z:=z
    simp at z
    omega
   rw [ah z] at q;refine ⟨_,rfl,fd_ hr1 T.cR T.nPl (cX a p) ?_⟩
   refine ⟨_,rfl,r,CR,dx,_,_,rfl,hr1,T.cR,T.nPl,cX a p,_,rfl,_,_,rfl,rfl,dx,_,hr1,(by show 2<1000;decide),?_⟩
   refine ⟨_,rfl,q _ ⟨dx,?_⟩ fun b o e n=>by rw [aa n];exact e⟩
   rw [au];rfl
def Out {α:Type} (E:XK) (CF:Addr) (r:Except Sw.Fault α) (k:α→Prop):Prop:=match r with
 | .ok x=>k x
 | .error e=>Err E CF (.int (e.kind:Int)) (.int (e.place:Int))
def xB (K:Fg_) (CF CR:Addr):Sp:=fun vs H Q E=>∃ (r a:Addr) (p:Nat) (bs:List UInt8),vs=[.ref r]∧fu CR H r a p∧SqL K H a (bs.map bv)∧p≤bs.length ∧
 Out E CF (Sw.varyOf p (bs.drop p)) fun (x:Nat×Nat)=>∀ H':Hp,fu CR H' r a (p+x.2)→Kp H H' r→Q (.int (x.1:Int)) H'
theorem kq {j:Nat} {x y:Int} {σ:St} {H:Hp} {Q:Bool→Hp→Prop} (h:σ[j]? = some (some (.int x))) (q:Q (decide (y<x)) H):l9 (tOp (rI0 fun i j=>V.bl (decide (j<i))) (pU j) (tC (V.int y))) σ H Q :=
 ⟨_,h,_,_,rfl,rfl,_,rfl,q⟩
theorem oB:bw ["self","first","amount","weight","before","byte"] ["self"] (a9 sRV):=fs_
theorem ok_RV {f fRB:Addr} {fd fdI fdB:FuncData} (F:Fun K "read_varying" "Reader.read_varying" sRV f fd) (T:TxR K mg CF CR fFI) (FI:Fun K "__init__" "Fault.__init__" sFI fFI fdI) (bI:bT K fdI ["self","kind","place"] [])
  (GB:bK P w K mg base (CXF P w) 4 fRB fdB ["self"] (vj K CF CR)) (bB:bT K fdB ["self"] []) (mB:km K CR "read_byte" fRB) :
  bK P w K mg base (CXF P w) 5 f fd ["self"] (xB K CF CR):=by
 have GI:bK P w K mg base CX0 1 fFI fdI ["self","kind","place"] (jK CF):=mr FI T
 refine okX F oB (fun vs H Q E h=>?_) (fun cdv A outer s H vs Q E hr h=>?_)
 ·obtain ⟨r,a,p,bs,rfl,_⟩:=h
  rfl
 ·obtain ⟨r,a,p,bs,rfl,⟨dx,hr1⟩,hs,hp,q⟩:=h
  have hr2:cB 2 _:=hr.mono (by decide)
  refine ⟨_,az (br (i:=1) oB.nd rfl (.inl rfl) (aU (pv 0) rfl))
   (az (br (i:=2) oB.nd rfl (.inl rfl) bh)
   (az (br (i:=3) oB.nd rfl (.inl rfl) bh)
   (az (fm PassesOwn.leaving rfl (mj rfl T.rng (aj (pgi T.mv rfl) aL)) (cy (i:=4) oB.nd rfl (.inl rfl))
    (az (br (i:=5) oB.nd rfl (.inl rfl) (gz (pv 0) T.cR mB GB hr bB .nil dC))
    (az (p7 (i:=2) oB.nd rfl (.inl rfl) (fH ud (fH qc (pv 5) bh) (pv 3)) qV)
    (az (p7 (i:=3) oB.nd rfl (.inl rfl) bh vR)
    (aH (bY (bo kf (pv 5) bh (bA _))
     (az (bY (PW.pt (je (PW.pt (jM (bo d8 (pv 5) bh (bA _)) (i8 (bo iJ (pv 4) bh (bA _))))) (gX (bo iJ (pv 2) (pgi T.hv rfl) (bA _)))))
      (aH (dQ T.xc GI bI hr2 ck rfl rfl T.mF (aj (pgi T.e3 rfl) (aj (pv 1) aL)))) bF)
     (aH (b9 (pv 2)))) bF))))))
   (aH (dQ T.xc GI bI hr2 ck rfl rfl T.mF (aj (pgi T.e3 rfl) (aj (pv 1) aL))))))),?_⟩
  try dsimp only [cY];refine ⟨_,rfl,fd_ hr1 T.cR T.nPl (cX a p) ?_⟩
  refine ⟨5,rfl,by decide,by decide,jV (lo:=0) (n:=5) (fun i σ H'=>∃ (am wt:Int) (v4 v5:Option V),σ=[some (.ref r),some (.int (p:Int)),some (.int am),some (.int wt),v4,v5] ∧
    am=((Vm.val ((bs.drop p).take i):Nat):Int)∧wt=((128 ^ i:Nat):Int)∧fu CR H' r a (p+i)∧Kp H H' r∧i≤(bs.drop p).length∧Vm.High ((bs.drop p).take i))
   ⟨0,1,none,none,rfl,rfl,rfl,⟨dx,hr1⟩,Kp.refl H r,a8 _,fun c hc=>by simp at hc⟩ ?_ ?_⟩
  ·rintro i σ H1 hi ⟨am,wt,v4,v5,rfl,ham,hwt,⟨dx1,h1⟩,k1,li,hh⟩
   have sq:=iB hs k1 hr1
   have ldrop:(bs.drop p).length=bs.length - p:=aC
   have ltk:((bs.drop p).take i).length=i:=by rw [aY];omega
   have hx:(bs.drop p)[i]? = bs[p+i]?:=by rw [fz]
   refine ⟨_,rfl,r,dx1,_,rfl,h1,iC a (p+i) (by decide +kernel) (by decide +kernel),r,a,p+i,bs,rfl,⟨dx1,h1⟩,sq,?_⟩
   cases e:bs[p+i]? with
   | none =>
    have l1:bs.length≤p+i:=bL.mp e
    have e1:(bs.drop p).take i=bs.drop p:=bJ (by omega)
    rw [e1] at hh;have e2:=Vm.vary_end (p:=p) hh (by omega)
    rw [e2] at q;have e3:p+(bs.drop p).length=bs.length:=by omega
    have q':Err E CF (.int 1) (.int ((p+(bs.drop p).length:Nat):Int)):=q
    rw [e3] at q'
    exact q'
   | some c =>
    intro H2 hr2' k2
    have l1:p+i<bs.length:=(ay.mp e).1
    have e0:bs.drop p=(bs.drop p).take i++c::bs.drop (p+i+1):=by
     have t1:(bs.drop p).drop i=c::bs.drop (p+i+1):=by
      rw [bZ,bz l1];rw [aB l1] at e;cases e;rfl
     rw [←t1,dI]
    have e1:(bs.drop p).take (i+1)=(bs.drop p).take i++[c]:=by
     rw [cw,hx,e];rfl
    have ev:=Vm.val_snoc ((bs.drop p).take i) c
    rw [ltk] at ev;have ea:am+((c.toNat:Int) % 128)*wt=((Vm.val ((bs.drop p).take (i+1)):Nat):Int):=by
     rw [ham,hwt,e1,ev,Int.natCast_add,Int.natCast_mul,Int.natCast_emod];rfl
    have ew:wt*128=((128 ^ (i+1):Nat):Int):=by
     rw [hwt,fM,Int.natCast_mul];rfl
    refine ⟨_,rfl,_,rfl,_,_,rfl,rfl,(by show (0:Int)<128;decide),_,rfl,_,_,rfl,rfl,.inl ⟨?_,?_⟩,_,_,rfl,rfl,?_⟩
    ·show -(2 ^ 64:Int)<(c.toNat:Int) % 128
     omega
    ·show (c.toNat:Int) % 128<2 ^ 64
     omega
    refine ⟨_,rfl,_,_,rfl,rfl,.inr ⟨by decide,by decide⟩,?_⟩
    refine ⟨_,rfl,_,_,rfl,rfl,_,rfl,?_⟩
    refine jn (fun z=>?_) (fun z=>?_)
    ·have z:=of_decide_eq_true z
     have hc:c.toNat<128:=by omega
     have ev3:=(congrArg (Sw.varyOf p) e0).trans (Vm.vary_stop (r:=bs.drop (p+i+1)) hh (by omega) hc)
     rw [ltk,←e1] at ev3;rw [ev3] at q;have bad:(i>0∧c=0)∨2 ^ 32≤Vm.val ((bs.drop p).take (i+1))→Err E CF (.int 3) (.int (p:Int)):=fun hb=>by
      rcases hb with hb | hb
      ·rw [ao hb] at q;exact q
      ·by_cases hz:i>0∧c=0
       ·rw [ao hz] at q;exact q
       ·rw [ah hz,ao hb] at q;exact q
     have good:¬(i>0∧c=0)→¬2 ^ 32≤Vm.val ((bs.drop p).take (i+1))→Q (.int (am+((c.toNat:Int) % 128)*wt)) H2:=fun h1 h2=>by
      rw [ah h1,ah h2] at q;rw [ea];exact q H2 (by show fu CR H2 r a (p+(i+1));rw [←bp];exact hr2') (k1.trans k2)
     have c0:(V.int (c.toNat:Int)=V.int 0)↔c=0:=by
      constructor
      ·intro hh0;injection hh0 with hh0;exact UInt8.toNat_inj.mp (by show c.toNat=0;omega)
      ·intro hh0;rw [hh0];rfl
     refine ⟨_,rfl,rfl,_,rfl,jn (fun z1=>?_) (fun z1=>?_)⟩
     ·have z1:=c0.mp (of_decide_eq_true z1)
      refine ⟨_,rfl,_,_,rfl,rfl,_,rfl,?_⟩
      by_cases z2:i>0
      ·rw [aq (show (0:Int)<0+(i:Int) by omega)]
       exact ⟨_,rfl,_,_,rfl,bad (.inl ⟨z2,z1⟩)⟩
      ·rw [ax (show ¬(0:Int)<0+(i:Int) by omega)]
       refine kq rfl (jn (fun z3=>?_) (fun z3=>?_))
       ·have z3:=of_decide_eq_true z3
        exact ⟨_,rfl,_,_,rfl,bad (.inr (by omega))⟩
       ·exact ⟨_,rfl,good (fun hz=>z2 hz.1) fun hz=>z3 (aq (by omega))⟩
     ·refine kq rfl (jn (fun z3=>?_) (fun z3=>?_))
      ·have z3:=of_decide_eq_true z3
       exact ⟨_,rfl,_,_,rfl,bad (.inr (by omega))⟩
      ·exact ⟨_,rfl,good (fun hz=>z1 (aq (c0.mpr hz.2))) fun hz=>z3 (aq (by omega))⟩
    ·have z:¬c.toNat<128:=by
      have z:=z
      simp at z
      omega
     refine ⟨_,_,_,_,rfl,ea,ew,?_,k1.trans k2,by omega,?_⟩
     ·rw [←bp];exact hr2'
     ·rw [e1];intro d hd;rcases aT.mp hd with hd | hd
      ·exact hh d hd
      ·rw [aJ.mp hd];omega
  ·rintro σ H1 ⟨am,wt,v4,v5,rfl,_,_,_,_,l5,hh⟩
   have e5:=Vm.vary_five (p:=p) (r:=(bs.drop p).drop 5) hh (by rw [aY];omega)
   rw [dI] at e5;rw [e5] at q;exact ⟨_,rfl,_,_,rfl,q⟩
structure TxU (mg:Str→Option Value):Prop where
 lf:GI mg "LOWEST_FURTHER" 128
 hf:GI mg "HIGHEST_FURTHER" 191
 e5:GI mg "WRONG_UTF8" 5
 mn:mg "min" = none
def vn (c:Nat):Nat:=if Um.cf c=0 then 0 else Um.cf c+1
def yk (p:Nat) (c:UInt8) (b:List UInt8):Except Nat Nat:=if Um.cf c.toNat=0 then .error p else match Um.fbad (Um.ls c.toNat) (Um.hs c.toNat) (p+1) (b.take (Um.cf c.toNat)) with
 | some q=>.error q
 | none=>.ok (p+1+Um.cf c.toNat)
def spN (g:Nat→Nat):Sp:=fun vs H Q _=>∃ c:Nat,vs=[.int (c:Int)]∧Q (.int ((g c:Nat):Int)) H
def xM (K:Fg_) (CF:Addr):Sp:=fun vs H Q E=>∃ (a:Addr) (pl en:Nat) (c:UInt8) (bs:List UInt8),vs=[.ref a,.int (pl:Int),.int (en:Int)]∧SqL K H a (bs.map bv)∧bs[pl]? = some c∧pl<en∧en≤bs.length∧bs.length≤65536 ∧
 (match yk pl c ((bs.drop (pl+1)).take (en - (pl+1))) with
  | .error q=>Err E CF (.int 5) (.int (q:Int))
  | .ok z=>Q (.int (z:Int)) H)
def vk (K:Fg_) (CF:Addr):Sp:=fun vs H Q E=>∃ (a:Addr) (st en:Nat) (bs:List UInt8),vs=[.ref a,.int (st:Int),.int (en:Int)]∧SqL K H a (bs.map bv)∧st≤en∧en≤bs.length∧bs.length≤65536 ∧
 (match Um.urun 0 128 191 st ((bs.drop st).take (en - st)) with
  | some q=>Err E CF (.int 5) (.int (q:Int))
  | none=>Q .non H)
theorem scSL:bw ["first"] ["first"] (a9 sSL):=fs_
theorem nW {lo hi c:Nat} {i:Nat} {σ:St} {H:Hp} {Q:Bool→Hp→Prop} (h:σ[i]? = some (some (.int (c:Int)))) (q:Q (decide (lo≤c∧c≤hi)) H) :
  l9 (tF (rI0 fun i j=>V.bl (decide (i≤j))) (rI0 fun i j=>V.bl (decide (i≤j))) (tC (.int (lo:Int))) (pU i) (tC (.int (hi:Int)))) σ H Q:=by
 refine ⟨_,h,_,_,rfl,rfl,_,rfl,?_⟩
 by_cases h1:lo≤c
 ·rw [aq (show (lo:Int)≤(c:Int) by omega)]
  refine cq ⟨_,_,rfl,rfl,_,rfl,?_⟩
  have e:decide ((c:Int)≤(hi:Int))=decide (lo≤c∧c≤hi):=by
   by_cases h2:c≤hi
   ·rw [aq (show (c:Int)≤(hi:Int) by omega),aq ⟨h1,h2⟩]
   ·rw [ax (show ¬(c:Int)≤(hi:Int) by omega),ax (fun z=>h2 z.2)]
  rw [e];exact q
 ·rw [ax (show ¬(lo:Int)≤(c:Int) by omega)]
  refine cp ⟨_,rfl,?_⟩
  rw [ax (fun z=>h1 z.1)] at q
  exact q
theorem ok_SL {f:Addr} {fd:FuncData} (F:Fun K "scalar_length" "scalar_length" sSL f fd):bK P w K mg base CX0 1 f fd ["first"] (spN vn):=by
 refine F.ok scSL (fun vs H Q E h=>?_) (fun cdv A outer s H vs Q E hr h=>?_)
 ·obtain ⟨c,rfl,_⟩:=h
  rfl
 ·obtain ⟨c,rfl,q⟩:=h
  refine ⟨_,az (bY (kW mq mq bh (pv 0) bh) (aH (b9 bh)) bF)
   (az (bY (kW mq mq bh (pv 0) bh) (aH (b9 bh)) bF)
   (az (bY (kW mq mq bh (pv 0) bh) (aH (b9 bh)) bF) (aH (b9 bh)))),?_⟩
  try dsimp only [cY]
  unfold vn Um.cf at q
  refine nW (lo:=194) (hi:=223) rfl (jn (fun z=>?_) (fun z=>?_))
  ·rw [ao (of_decide_eq_true z)] at q
   exact q
  ·rw [ah (fun y=>z (aq y))] at q
   refine nW (lo:=224) (hi:=239) rfl (jn (fun z=>?_) (fun z=>?_))
   ·rw [ao (of_decide_eq_true z)] at q
    exact q
   ·rw [ah (fun y=>z (aq y))] at q
    refine nW (lo:=240) (hi:=244) rfl (jn (fun z=>?_) (fun z=>?_))
    ·rw [ao (of_decide_eq_true z)] at q
     exact q
    ·rw [ah (fun y=>z (aq y))] at q
     exact q
theorem iS {n c:Nat} {i:Nat} {σ:St} {H:Hp} {Q:Bool→Hp→Prop} (h:σ[i]? = some (some (.int (c:Int)))) (q:Q (decide (c=n)) H):l9 (tOp rEq (pU i) (tC (.int (n:Int)))) σ H Q:=by
 refine ⟨_,h,rfl,_,rfl,?_⟩
 have e:decide (V.int (c:Int)=V.int (n:Int))=decide (c=n):=by
  by_cases z:c=n
  ·rw [z,aq rfl,aq rfl]
  ·rw [ax z,ax (fun y=>z (by injection y with y;omega))]
 rw [e];exact q
theorem scLS:bw ["first"] ["first"] (a9 sLS):=fs_
theorem ok_LS {f:Addr} {fd:FuncData} (F:Fun K "lowest_second" "lowest_second" sLS f fd) (U:TxU mg):bK P w K mg base CX0 1 f fd ["first"] (spN Um.ls):=by
 refine F.ok scLS (fun vs H Q E h=>?_) (fun cdv A outer s H vs Q E hr h=>?_)
 ·obtain ⟨c,rfl,_⟩:=h
  rfl
 ·obtain ⟨c,rfl,q⟩:=h
  refine ⟨_,az (bY (bo d8 (pv 0) bh (bA _)) (aH (b9 bh)) bF)
   (az (bY (bo d8 (pv 0) bh (bA _)) (aH (b9 bh)) bF) (aH (b9 (pgi U.lf rfl)))),?_⟩
  try dsimp only [cY]
  unfold Um.ls at q
  refine iS (n:=224) rfl (jn (fun z=>?_) (fun z=>?_))
  ·rw [ao (of_decide_eq_true z)] at q
   exact q
  ·rw [ah (fun y=>z (aq y))] at q
   refine iS (n:=240) rfl (jn (fun z=>?_) (fun z=>?_))
   ·rw [ao (of_decide_eq_true z)] at q
    exact q
   ·rw [ah (fun y=>z (aq y))] at q
    exact q
theorem scHS:bw ["first"] ["first"] (a9 sHS):=fs_
theorem ok_HS {f:Addr} {fd:FuncData} (F:Fun K "highest_second" "highest_second" sHS f fd) (U:TxU mg):bK P w K mg base CX0 1 f fd ["first"] (spN Um.hs):=by
 refine F.ok scHS (fun vs H Q E h=>?_) (fun cdv A outer s H vs Q E hr h=>?_)
 ·obtain ⟨c,rfl,_⟩:=h
  rfl
 ·obtain ⟨c,rfl,q⟩:=h
  refine ⟨_,az (bY (bo d8 (pv 0) bh (bA _)) (aH (b9 bh)) bF)
   (az (bY (bo d8 (pv 0) bh (bA _)) (aH (b9 bh)) bF) (aH (b9 (pgi U.hf rfl)))),?_⟩
  try dsimp only [cY]
  unfold Um.hs at q
  refine iS (n:=237) rfl (jn (fun z=>?_) (fun z=>?_))
  ·rw [ao (of_decide_eq_true z)] at q
   exact q
  ·rw [ah (fun y=>z (aq y))] at q
   refine iS (n:=244) rfl (jn (fun z=>?_) (fun z=>?_))
   ·rw [ao (of_decide_eq_true z)] at q
    exact q
   ·rw [ah (fun y=>z (aq y))] at q
    exact q
theorem oE:bw ["row","place","end","first","length","lowest","highest","further"] ["row","place","end"] (a9 sPS):=fs_
theorem ok_PS {f f1 f2 f3:Addr} {fd fdI fd1 fd2 fd3:FuncData} (F:Fun K "pass_scalar" "pass_scalar" sPS f fd) (T:TxR K mg CF CR fFI) (U:TxU mg) (FI:Fun K "__init__" "Fault.__init__" sFI fFI fdI) (bI:bT K fdI ["self","kind","place"] [])
  (F1:Fun K "scalar_length" "scalar_length" sSL f1 fd1) (b1:bT K fd1 ["first"] []) (m1:mg "scalar_length" = some (.ref f1))
  (F2:Fun K "lowest_second" "lowest_second" sLS f2 fd2) (b2:bT K fd2 ["first"] []) (m2:mg "lowest_second" = some (.ref f2))
  (F3:Fun K "highest_second" "highest_second" sHS f3 fd3) (b3:bT K fd3 ["first"] []) (m3:mg "highest_second" = some (.ref f3)) :
  bK P w K mg base (CXF P w) 3 f fd ["row","place","end"] (xM K CF):=by
 have GI:bK P w K mg base CX0 1 fFI fdI ["self","kind","place"] (jK CF):=mr FI T
 have G1:bK P w K mg base CX0 1 f1 fd1 ["first"] (spN vn):=ok_SL F1
 have G2:bK P w K mg base CX0 1 f2 fd2 ["first"] (spN Um.ls):=ok_LS F2 U
 have G3:bK P w K mg base CX0 1 f3 fd3 ["first"] (spN Um.hs):=ok_HS F3 U
 refine okX F oE (fun vs H Q E h=>?_) (fun cdv A outer s H vs Q E hr h=>?_)
 ·obtain ⟨a,pl,en,c,bs,rfl,_⟩:=h
  rfl
 ·obtain ⟨a,pl,en,c,bs,rfl,hs,hc,h1,h2,h3,q⟩:=h
  have hr1:cB 1 _:=hr.mono (by decide)
  refine ⟨_,az (br (i:=3) oE.nd rfl (.inl rfl) (cK bM (pv 0) (pv 1) (fun _ _=>rfl)))
   (az (br (i:=4) oE.nd rfl (.inl rfl) (kF G1 hr1 rfl m1 F1.kp b1 .nil cM (aj (pv 3) aL)))
   (az (bY (bo d8 (pv 4) bh (bA _)) (aH (dQ T.xc GI bI hr ck rfl rfl T.mF (aj (pgi U.e5 rfl) (aj (pv 1) aL)))) bF)
   (az (br (i:=5) oE.nd rfl (.inl rfl) (kF G2 hr1 rfl m2 F2.kp b2 .nil cM (aj (pv 3) aL)))
   (az (br (i:=6) oE.nd rfl (.inl rfl) (kF G3 hr1 rfl m3 F3.kp b3 .nil cM (aj (pv 3) aL)))
   (az (fm PassesOwn.leaving rfl (rX rfl T.rng (aj (fH ir (pv 1) bh) (aj (di (sN rfl) (by rfl) U.mn boot_min (aj (fH ir (pv 1) (pv 4)) (aj (pv 2) aL))) aL))) (cy (i:=7) oE.nd rfl (.inl rfl))
    (az (bY (PW.pt (je (bo kf (cK bM (pv 0) (pv 7) (fun _ _=>rfl)) (pv 5) (bA _)) (gX (bo iJ (cK bM (pv 0) (pv 7) (fun _ _=>rfl)) (pv 6) (bA _)))))
      (aH (dQ T.xc GI bI hr ck rfl rfl T.mF (aj (pgi U.e5 rfl) (aj (pv 7) aL)))) bF)
    (az (br (i:=5) oE.nd rfl (.inl rfl) (pgi U.lf rfl)) (aH (br (i:=6) oE.nd rfl (.inl rfl) (pgi U.hf rfl))))))
   (aH (b9 (fH ir (pv 1) (pv 4))))))))),?_⟩
  try dsimp only [cY];refine ⟨_,rfl,_,rfl,a,_,_,bv c,rfl,rfl,hs,dR (by rw [aD,hc];rfl),?_⟩
  refine ⟨_,rfl,c.toNat,rfl,?_⟩
  refine iS (n:=0) rfl ?_
  unfold yk at q;unfold vn;by_cases h0:Um.cf c.toNat=0
  ·rw [ao h0] at q;rw [ao h0,aq rfl];exact cq ⟨_,rfl,_,_,rfl,q⟩
  ·rw [ah h0] at q;rw [ah h0,ax (by omega)]
   refine cp ⟨_,rfl,c.toNat,rfl,_,rfl,c.toNat,rfl,?_⟩
   generalize hk:Um.cf c.toNat=k at q h0;generalize hseg:((bs.drop (pl+1)).take (en - (pl+1))).take k=seg at q;have lseg:seg.length=min k (en - (pl+1)):=by rw [←hseg,aY,aY,aC];omega
   have hat:∀ i,i<seg.length→seg[i]? = bs[pl+1+i]?:=fun i hi=>by
    rw [←hseg,d7 (by omega),d7 (by omega),fz]
   generalize hR:Um.fbad (Um.ls c.toNat) (Um.hs c.toNat) (pl+1) seg=R at q;have eM:(if (en:Int)<(pl:Int)+((k+1:Nat):Int) then (en:Int) else (pl:Int)+((k+1:Nat):Int))=((pl+1+seg.length:Nat):Int):=by
    rw [lseg];by_cases z:(en:Int)<(pl:Int)+((k+1:Nat):Int)
    ·rw [ao z];omega
    ·rw [ah z];omega
   refine ⟨_,rfl,_,_,rfl,rfl,_,rfl,_,rfl,_,_,rfl,rfl,_,rfl,_,_,rfl,_,_,rfl,?_,?_⟩
   ·rw [eM];exact ⟨by omega,by omega,by omega,by omega⟩
   rw [eM,show (((pl+1+seg.length:Nat):Int) - ((pl:Int)+1)).toNat=seg.length by omega]
   refine jV (lo:=(pl:Int)+1) (n:=seg.length) (fun i σ H'=>H'=H∧∃ (lo hi:Nat) (loi hii:Int) (v7:Option V),loi=(lo:Int)∧hii=(hi:Int) ∧
     σ=[some (.ref a),some (.int (pl:Int)),some (.int (en:Int)),some (bv c),some (.int ((k+1:Nat):Int)),some (.int loi),some (.int hii),v7]∧Um.fbad lo hi (pl+1+i) (seg.drop i)=R)
    ⟨rfl,Um.ls c.toNat,Um.hs c.toNat,_,_,none,rfl,rfl,rfl,hR⟩ ?_ ?_
   ·rintro i σ H1 hi ⟨rfl,lo,hi',loi,hii,v7,rfl,rfl,rfl,hrun⟩
    have eb:seg[i]? = some seg[i]:=aB hi
    have eb2:=hat i hi
    have ed:seg.drop i=seg[i]::seg.drop (i+1):=bz hi
    rw [ed] at hrun;generalize seg[i]=d at eb hrun;rw [eb] at eb2;have ei:((pl:Int)+1+(i:Int))=((pl+1+i:Nat):Int):=by omega
    have hix:atI (bs.map bv) ((pl:Int)+1+(i:Int))=some (bv d):=fK ei (by rw [aD,←eb2];rfl)
    unfold Um.fbad at hrun;refine ⟨_,rfl,_,rfl,a,_,_,bv d,rfl,rfl,hs,hix,_,rfl,_,_,rfl,rfl,_,rfl,?_⟩
    by_cases hb:d.toNat<lo∨hi'<d.toNat
    ·rw [ao hb] at hrun;subst hrun;have q':Err E CF (.int 5) (.int ((pl:Int)+1+(i:Int))):=by rw [ei];exact q
     by_cases hb1:d.toNat<lo
     ·rw [aq (show (d.toNat:Int)<(lo:Int) by omega)]
      exact ⟨_,rfl,_,_,rfl,q'⟩
     ·rw [ax (show ¬(d.toNat:Int)<(lo:Int) by omega)]
      refine ⟨_,rfl,_,rfl,a,_,_,bv d,rfl,rfl,hs,hix,_,rfl,_,_,rfl,rfl,_,rfl,?_⟩
      rw [aq (show (hi':Int)<(d.toNat:Int) by omega)]
      exact ⟨_,rfl,_,_,rfl,q'⟩
    ·rw [ah hb] at hrun;rw [ax (show ¬(d.toNat:Int)<(lo:Int) by omega)]
     refine ⟨_,rfl,_,rfl,a,_,_,bv d,rfl,rfl,hs,hix,_,rfl,_,_,rfl,rfl,_,rfl,?_⟩
     rw [ax (show ¬(hi':Int)<(d.toNat:Int) by omega)]
     refine cp ?_
     exact ⟨rfl,128,191,_,_,_,rfl,rfl,rfl,by rw [←bp];exact hrun⟩
   ·rintro σ H1 ⟨rfl,lo,hi',loi,hii,v7,rfl,rfl,rfl,hrun⟩
    rw [eE (aI _)] at hrun;have hrun:none=R:=hrun
    subst hrun;have q':Q (.int ((pl+1+k:Nat):Int)) H1:=q
    have e9:((pl+1+k:Nat):Int)=(pl:Int)+((k+1:Nat):Int):=by omega
    rw [e9] at q'
    exact ⟨_,rfl,_,rfl,_,_,rfl,rfl,q'⟩
theorem vy:bw ["row","start","end","place"] ["row","start","end"] (a9 sCU):=fs_
theorem ok_CU {f fPS:Addr} {fd fdI fdS:FuncData} (F:Fun K "check_utf8" "check_utf8" sCU f fd) (T:TxR K mg CF CR fFI) (U:TxU mg) (FI:Fun K "__init__" "Fault.__init__" sFI fFI fdI) (bI:bT K fdI ["self","kind","place"] [])
  (GS:Co P w K mg base (CXF P w) 3 fPS fdS ["row","place","end"] (xM K CF) "pass_scalar") :
  bK P w K mg base (CXF P w) 4 f fd ["row","start","end"] (vk K CF):=by
 have GI:bK P w K mg base CX0 1 fFI fdI ["self","kind","place"] (jK CF):=mr FI T
 refine okX F vy (fun vs H Q E h=>?_) (fun cdv A outer s H vs Q E hr h=>?_)
 ·obtain ⟨a,st,en,bs,rfl,_⟩:=h
  rfl
 ·obtain ⟨a,st,en,bs,rfl,hs,h1,h2,h3,q⟩:=h
  have hr2:cB 2 _:=hr.mono (by decide)
  refine ⟨_,az (br (i:=3) vy.nd rfl (.inl rfl) (pv 1))
   (az (gy PassesOwn.leaving (bo kf (pv 3) (pv 2) (bA _))
    (aH (bY (bo kf (cK bM (pv 0) (pv 3) (fun _ _=>rfl)) (pgi U.lf rfl) (bA _))
     (aH (p7 (i:=3) vy.nd rfl (.inl rfl) bh qV))
     (aH (br (i:=3) vy.nd rfl (.inl rfl) (cv GS hr rfl dC (aj (pv 0) (aj (pv 3) (aj (pv 2) aL)))))))))
   (aH (bY (bo iJ (pv 3) (pv 2) (bA _)) (aH (dQ T.xc GI bI hr2 ck rfl rfl T.mF (aj (pgi U.e5 rfl) (aj (pv 2) aL)))) bF))),?_⟩
  try dsimp only [cY];generalize hR:Um.urun 0 128 191 st ((bs.drop st).take (en - st))=R at q;refine ⟨_,rfl,fun n σ H'=>H'=H∧∃ pl:Nat,σ=[some (.ref a),some (.int (st:Int)),some (.int (en:Int)),some (.int (pl:Int))]∧n=en - pl∧((pl≤en∧Um.urun 0 128 191 pl ((bs.drop pl).take (en - pl))=R)∨(en<pl∧R=some en)),⟨en - st,rfl,st,rfl,rfl,.inl ⟨h1,hR⟩⟩,?_⟩
  rintro n σ H1 ⟨rfl,pl,rfl,hn,hcase⟩
  refine ⟨_,rfl,_,rfl,_,_,rfl,rfl,_,rfl,?_⟩
  by_cases hlt:pl<en
  ·rw [aq (show (pl:Int)<(en:Int) by omega)]
   refine cq ⟨_,fun σ' G' h=>h,?_⟩
   have hrun:Um.urun 0 128 191 pl ((bs.drop pl).take (en - pl))=R:=by
    rcases hcase with h | h
    ·exact h.2
    ·omega
   have lt:pl<bs.length:=by omega
   have eb:bs[pl]? = some bs[pl]:=aB lt
   have ed:(bs.drop pl).take (en - pl)=bs[pl]::(bs.drop (pl+1)).take (en - (pl+1)):=by
    rw [bz lt,show en - pl=(en - (pl+1))+1 by omega,eY]
   rw [ed] at hrun;generalize bs[pl]=c at eb hrun;unfold Um.urun at hrun;rw [ah (b4 0)] at hrun;refine ⟨_,rfl,_,rfl,a,_,_,bv c,rfl,rfl,hs,dR (by rw [aD,eb];rfl),_,_,rfl,rfl,_,rfl,?_⟩
   by_cases hc:128≤c.toNat
   ·rw [ax (show ¬(c.toNat:Int)<(128:Int) by omega)]
    rw [ao hc] at hrun;refine cp ⟨_,rfl,_,rfl,_,rfl,a,pl,en,c,bs,rfl,hs,eb,hlt,h2,h3,?_⟩
    unfold yk;by_cases h0:Um.cf c.toNat=0
    ·rw [ao h0] at hrun;rw [ao h0];subst hrun;exact q
    ·rw [ah h0,Um.urun_further] at hrun;rw [ah h0];cases hf:Um.fbad (Um.ls c.toNat) (Um.hs c.toNat) (pl+1) (((bs.drop (pl+1)).take (en - (pl+1))).take (Um.cf c.toNat)) with
     | some z =>
      rw [hf] at hrun;have hrun:some z=R:=hrun
      subst hrun;exact q
     | none =>
      rw [hf] at hrun;have lsg:((bs.drop (pl+1)).take (en - (pl+1))).length=en - (pl+1):=by rw [aY,aC];omega
      have hrun:(if ((bs.drop (pl+1)).take (en - (pl+1))).length<Um.cf c.toNat then some (pl+1+((bs.drop (pl+1)).take (en - (pl+1))).length) else Um.urun 0 128 191 (pl+1+Um.cf c.toNat) (((bs.drop (pl+1)).take (en - (pl+1))).drop (Um.cf c.toNat)))=R:=hrun
      refine ⟨en - (pl+1+Um.cf c.toNat),by omega,rfl,pl+1+Um.cf c.toNat,rfl,rfl,?_⟩
      rw [lsg] at hrun;by_cases hl:en - (pl+1)<Um.cf c.toNat
      ·rw [ao hl,show pl+1+(en - (pl+1))=en by omega] at hrun
       exact .inr ⟨by omega,hrun.symm⟩
      ·rw [ah hl] at hrun;refine .inl ⟨by omega,?_⟩
       rw [List.drop_take,bZ,show en - (pl+1) - Um.cf c.toNat=en - (pl+1+Um.cf c.toNat) by omega] at hrun
       exact hrun
   ·rw [aq (show (c.toNat:Int)<(128:Int) by omega)]
    rw [ah hc] at hrun;refine cq ⟨_,rfl,_,_,rfl,rfl,?_⟩
    refine ⟨en - (pl+1),by omega,rfl,pl+1,rfl,rfl,.inl ⟨by omega,hrun⟩⟩
  ·rw [ax (show ¬(pl:Int)<(en:Int) by omega)]
   refine cp ⟨_,rfl,_,rfl,_,_,rfl,rfl,_,rfl,?_⟩
   rcases hcase with ⟨h,hrun⟩ | ⟨h,hrun⟩
   ·have e0:pl=en:=by omega
    subst e0;rw [dB,cQ] at hrun;have hrun:none=R:=hrun
    subst hrun;rw [ax (show ¬(pl:Int)<(pl:Int) by omega)]
    exact cp q
   ·subst hrun;rw [aq (show (en:Int)<(pl:Int) by omega)]
    exact cq ⟨_,rfl,_,_,rfl,q⟩
abbrev PD:=Pm.PD
abbrev PT:=Pm.PT
def pf (d:PD) (n l:Addr):List (Str×V):=[("kind",.int (d.kind:Int)),("place",.int (d.place:Int)),("inside",.int (d.ins:Int)),("end",.int (d.fin:Int)),("size",.int (d.size:Int)),("depth",.int (d.depth:Int)),
 ("name_place",.int (d.np:Int)),("name",.ref n),("members",.ref l)]
def gA (CP:Addr) (H:Hp) (a:Addr) (d:PD) (n l:Addr):Prop:=∃ dx,H a=some (.ins CP dx (pf d n l))
structure TxP (K:Fg_) (mg:Str→Option Value) (CP:Addr):Prop where
 cP:Cls K CP
 nKi:cC K CP "kind"
 nPl:cC K CP "place"
 nIn:cC K CP "inside"
 nEn:cC K CP "end"
 nSi:cC K CP "size"
 nDe:cC K CP "depth"
 nNp:cC K CP "name_place"
 nNl:cC K CP "name"
 nMe:cC K CP "members"
 ln:GI mg "LONGEST_NAME" 255
 e6:GI mg "WRONG_NAME" 6
def Kp2 (H H':Hp) (r m:Addr):Prop:=∀ b o,H b=some o→b≠r→b≠m→H' b=some o
theorem me {CP CR:Addr} {G:Hp} {a n l r b dx:Addr} {d:PD} {p:Nat} (h:G a=some (.ins CP dx (pf d n l))) (h':fu CR G r b p):a≠r:=by
 obtain ⟨dy,h'⟩:=h'
 exact fb h h' (by intro z;injection z with _ _ z3;exact aP (congrArg List.length z3) (by show ¬9=2;decide))
structure TxN (mg:Str→Option Value):Prop where
 ln:GI mg "LONGEST_NUMBER" 4096
 e4:GI mg "WRONG_NUMBER" 4
 tx:GI mg "TEXT" 4
def xO (K:Fg_) (CF CR CP:Addr):Sp:=fun vs H Q E=>∃ (r a m nm lm:Addr) (p:Nat) (d:PD) (bs:List UInt8),vs=[.ref r,.ref m]∧fu CR H r a p∧SqL K H a (bs.map bv)∧gA CP H m d nm lm∧p≤bs.length ∧
 Out E CF (Hm.numAt d.place p (bs.drop p)) fun (x:Nat×Nat)=>∀ H':Hp,fu CR H' r a (p+x.1+x.2)→gA CP H' m { d with ins:=p+x.1 } nm lm→Kp2 H H' r m→Q .non H'
def xN (K:Fg_) (CF CR CP:Addr):Sp:=fun vs H Q E=>∃ (r a m nm lm:Addr) (p:Nat) (d:PD) (bs:List UInt8),vs=[.ref r,.ref m]∧fu CR H r a p∧SqL K H a (bs.map bv)∧gA CP H m d nm lm∧p≤bs.length∧bs.length≤65536 ∧
 Out E CF (Hm.strAt (decide (d.kind=4)) p (bs.drop p)) fun (x:Nat×Nat)=>∀ H':Hp,fu CR H' r a (p+x.2+x.1)→gA CP H' m { d with size:=x.1,ins:=p+x.2 } nm lm→Kp2 H H' r m→Q .non H'
theorem qJ {tA tB:TT} {σ:St} {H:Hp} {Q:Bool→Hp→Prop} {a b:Bool} (ha:∀ Q':Bool→Hp→Prop,Q' a H→tA σ H Q') (hb:a=true→∀ Q':Bool→Hp→Prop,Q' b H→tB σ H Q') (q:Q (a&&b) H):xp tA tB σ H Q:=by
 refine ha _ ?_
 cases a with
 | true=>exact cq (hb rfl _ q)
 | false=>exact cp q
theorem wY {tA tB:TT} {σ:St} {H:Hp} {Q:Bool→Hp→Prop} {a b:Bool} (ha:∀ Q':Bool→Hp→Prop,Q' a H→tA σ H Q') (hb:a=false→∀ Q':Bool→Hp→Prop,Q' b H→tB σ H Q') (q:Q (a||b) H):tOr tA tB σ H Q:=by
 refine ha _ ?_
 cases a with
 | true=>exact cq q
 | false=>exact cp (hb rfl _ q)
theorem tK {tA tB:TT} {t u rest:TS} {D:ie} {σ:St} {H:Hp} {a b:Bool} (ha:∀ Q':Bool→Hp→Prop,Q' a H→tA σ H Q') (hb:a=false→∀ Q':Bool→Hp→Prop,Q' b H→tB σ H Q')
  (q:if (a||b)=true then t { D with nx:=rest D } σ H else u { D with nx:=rest D } σ H):w8 (xg (tOr tA tB) t u) rest D σ H :=
 wY (tA:=tA) (tB:=tB) (Q:=fun c H1=>if c=true then t { D with nx:=rest D } σ H1 else u { D with nx:=rest D } σ H1) ha hb q
theorem yJ {tA tB:TT} {t u:TS} {D:ie} {σ:St} {H:Hp} {a b:Bool} (ha:∀ Q':Bool→Hp→Prop,Q' a H→tA σ H Q') (hb:a=true→∀ Q':Bool→Hp→Prop,Q' b H→tB σ H Q')
  (q:if (a&&b)=true then t D σ H else u D σ H):xg (xp tA tB) t u D σ H :=
 qJ (tA:=tA) (tB:=tB) (Q:=fun c H1=>if c=true then t D σ H1 else u D σ H1) ha hb q
theorem fT {x y:Int}:decide (V.int x=V.int y)=decide (x=y):=by
 by_cases h:x=y
 ·rw [h,aq rfl,aq rfl]
 ·rw [ax h,ax (fun z=>h (by injection z))]
section
variable {P:Program} {w:World} {K:Fg_} {mg:Str→Option Value} {base:Heap} {CF CR CP fFI:Addr}
theorem vv:bw ["reader","part","told","length","below_0"] ["reader","part"] (a9 sPN):=fs_
structure uY (P:Program) (w:World) (K:Fg_) (mg:Str→Option Value) (base:Heap) (CF CR fRV fPB fRB:Addr) (fdV fdP fdB:FuncData):Prop where
 gV:bK P w K mg base (CXF P w) 5 fRV fdV ["self"] (xB K CF CR)
 bV:bT K fdV ["self"] []
 mV:km K CR "read_varying" fRV
 gP:bK P w K mg base (CXF P w) 3 fPB fdP ["self","how_many"] (xQ K CF CR)
 bP:bT K fdP ["self","how_many"] []
 mP:km K CR "pass_bytes" fPB
 gB:bK P w K mg base (CXF P w) 4 fRB fdB ["self"] (vj K CF CR)
 bB:bT K fdB ["self"] []
 mB:km K CR "read_byte" fRB
variable {fRV fPB fRB:Addr} {fdV fdP fdB:FuncData}
theorem ok_PN {f:Addr} {fd fdI:FuncData} (F:Fun K "pass_number" "pass_number" sPN f fd) (T:TxR K mg CF CR fFI) (TP:TxP K mg CP) (N:TxN mg) (GI:bK P w K mg base CX0 1 fFI fdI ["self","kind","place"] (jK CF)) (bI:bT K fdI ["self","kind","place"] [])
  (R:uY P w K mg base CF CR fRV fPB fRB fdV fdP fdB):bK P w K mg base (CXF P w) 6 f fd ["reader","part"] (xO K CF CR CP):=by
 refine okX F vv (fun vs H Q E h=>?_) (fun cdv A outer s H vs Q E hr h=>?_)
 ·obtain ⟨r,a,m,nm,lm,p,d,bs,rfl,_⟩:=h
  rfl
 ·obtain ⟨r,a,m,nm,lm,p,d,bs,rfl,⟨dx,hr1⟩,hs,⟨xm,hm⟩,hp,q⟩:=h
  have hr2:cB 2 _:=hr.mono (by decide)
  have hr3:cB 3 _:=hr.mono (by decide)
  refine ⟨_,az (br (i:=2) vv.nd rfl (.inl rfl) (gz (pv 0) T.cR R.mV R.gV hr R.bV .nil dC))
   (az (br (i:=3) vv.nd rfl (.inl rfl) (fH vK (pv 2) bh))
   (az (br (i:=4) vv.nd rfl (.inl rfl) (kE d8 (fH qc (pv 2) bh) bh (bA _)))
   (az (bY (PW.pt (je (bo iJ (pv 3) (pgi N.ln rfl) (bA _)) (gX (PW.pt (jM (bo d8 (pv 3) bh (bA _)) (i8 (cN (pv 4) (fun _=>rfl))))))))
    (aH (dQ T.xc GI bI hr2 ck rfl rfl T.mF (aj (pgi N.e4 rfl) (aj (aU (pv 1) rfl) aL)))) bF)
   (az (bN (pv 1) (jA (pv 0) T.cR R.mP R.gP hr3 R.bP .nil dC (aj (pv 3) aL)) rfl)
   (aH (bY (PW.pt (jM (bo iJ (pv 3) bh (bA _)) (i8 (bo d8 (cK bM (aU (pv 0) rfl) (fH ub (aU (pv 0) rfl) bh) (fun _ _=>rfl)) bh (bA _)))))
    (aH (dQ T.xc GI bI hr2 ck rfl rfl T.mF (aj (pgi N.e4 rfl) (aj (aU (pv 1) rfl) aL)))) bF)))))),?_⟩
  try dsimp only [cY];have nmr:m≠r:=me hm ⟨dx,hr1⟩
  refine ⟨_,rfl,r,dx,_,rfl,hr1,iC a p (by decide +kernel) (by decide +kernel),r,a,p,bs,rfl,⟨dx,hr1⟩,hs,hp,?_⟩
  unfold Hm.numAt at q;cases ev:Sw.varyOf p (bs.drop p) with
  | error e =>
   rw [ev] at q;exact q
  | ok zl =>
   obtain ⟨z,l⟩:=zl
   rw [ev] at q;obtain ⟨u1,u2,u3,u4⟩:=Vm.vary_used ev
   rw [aC] at u2;rintro H1 ⟨dx1,h1⟩ k1
   have sq1:=iB hs k1 hr1
   have hm1:=k1 _ _ hm nmr
   have ez:((z:Int) / 2)=((z / 2:Nat):Int):=by omega
   refine ⟨_,rfl,_,_,rfl,rfl,⟨by decide,by decide⟩,?_⟩
   refine ⟨_,rfl,_,_,rfl,rfl,(by show (0:Int)<2;decide),rfl,?_⟩
   dsimp only at q;dsimp only [lH];refine tK (fun Q' h=>⟨_,rfl,_,_,rfl,rfl,_,rfl,h⟩) (fun _ Q' h=>qJ (fun Q' h=>⟨_,rfl,rfl,_,rfl,h⟩) (fun _ Q' h=>⟨_,rfl,_,rfl,h⟩) h) ?_
   rw [fT,fT];refine jn (fun c=>?_) (fun c=>?_)
   ·refine ⟨_,rfl,fd_ hm1 TP.cP TP.nPl rfl ⟨_,_,rfl,?_⟩⟩
    simp only [eG,bb,bQ] at c;by_cases c1:Sw.NUMBER<z / 2
    ·rw [ao c1] at q;exact q
    ·have c1':¬4096<z / 2:=c1
     have z1:z=1:=by omega
     rw [ah c1,Hm.some_of (by omega)] at q
     dsimp only at q;rw [ao (.inr z1)] at q;exact q
   ·simp only [eG,bb,bQ,not_or,not_and] at c;have c1:¬Sw.NUMBER<z / 2:=by
     show ¬4096<z / 2
     omega
    have z1:¬z=1:=by omega
    rw [ah c1] at q;refine ⟨_,rfl,r,dx1,_,rfl,h1,iC a (p+l) (by decide +kernel) (by decide +kernel),_,rfl,r,a,p+l,z / 2,bs,by rw [ez];rfl,⟨dx1,h1⟩,sq1,by omega,?_⟩
    by_cases c2:bs.length - (p+l)<z / 2
    ·rw [ao c2];rw [Hm.some_no (by rw [aC,aC];omega)] at q
     have e3:p+l+((bs.drop p).drop l).length=bs.length:=by rw [aC,aC];omega
     have q':Err E CF (.int 1) (.int ((p+l+((bs.drop p).drop l).length:Nat):Int)):=q
     rw [e3] at q'
     exact q'
    ·rw [ah c2];have hle:z / 2≤((bs.drop p).drop l).length:=by rw [aC,aC];omega
     rw [Hm.some_of hle] at q;dsimp only at q;rintro H2 ⟨dx2,h2⟩ k2
     have sq2:=iB sq1 k2 h1
     have hm2:=k2 _ _ hm1 nmr
     refine ⟨_,rfl,m,CP,xm,_,rfl,hm2,TP.cP,TP.nIn,(by show 9<1000;decide),?_⟩
     generalize hH3:upd H2 m (.ins CP xm (eX "inside" (.int ((p+l:Nat):Int)) (pf d nm lm)))=H3;have hm3:H3 m=some (.ins CP xm (pf { d with ins:=p+l } nm lm)):=by rw [←hH3,au];rfl
     have k3:∀ b o,H2 b=some o→b≠m→H3 b=some o:=fun b o e n=>by rw [←hH3,aa n];exact e
     have h3:=k3 _ _ h2 (aN nmr)
     have sq3:SqL K H3 a (bs.map bv):=iB (r:=m) sq2 (fun b o e n=>k3 b o e n) hm2
     have kk:Kp2 H H3 r m:=fun b o e n1 n2=>k3 b o (k2 b o (k1 b o e n1) n1) n2
     by_cases c3:0<z / 2
     ·have eL:(((bs.drop p).drop l).take (z / 2)).getLast? = bs[p+l+z / 2 - 1]?:=by
       rw [Hm.last_of hle c3,bZ,fz];congr 1
       omega
      have lt:p+l+z / 2 - 1<bs.length:=by omega
      have eb:bs[p+l+z / 2 - 1]? = some bs[p+l+z / 2 - 1]:=aB lt
      generalize bs[p+l+z / 2 - 1]=c at eb;have ei:((p+l+z / 2:Nat):Int) - 1=((p+l+z / 2 - 1:Nat):Int):=by omega
      dsimp only;refine yJ (fun Q' h=>⟨_,rfl,_,_,rfl,rfl,_,rfl,h⟩) (fun _ Q' h=>⟨_,rfl,r,CR,dx2,_,_,rfl,h3,T.cR,T.nRow,gW a _,_,rfl,r,CR,dx2,_,_,rfl,h3,T.cR,T.nPl,cX a _,_,_,rfl,rfl,
       a,_,_,bv c,rfl,rfl,sq3,fK ei (by rw [aD,eb];rfl),rfl,_,rfl,h⟩) ?_
      rw [aq (show (0:Int)<(z:Int) / 2 by omega),Bool.true_and]
      have c0:(V.int (c.toNat:Int)=V.int 0)↔c=0:=by
       constructor
       ·intro hh0;injection hh0 with hh0;exact UInt8.toNat_inj.mp (by show c.toNat=0;omega)
       ·intro hh0;rw [hh0];rfl
      by_cases c4:c=0
      ·rw [aq (show bv c=V.int 0 from c0.mpr c4)];rw [ao (.inl (by rw [eL,eb,c4]))] at q
       exact cq ⟨_,rfl,fd_ hm3 TP.cP TP.nPl rfl ⟨_,_,rfl,q⟩⟩
      ·rw [ax (show ¬bv c=V.int 0 from fun h=>c4 (c0.mp h))]
       rw [ah (fun h=>h.elim (fun h=>c4 (aA ((eL.trans eb).symm.trans h))) z1)] at q
       exact cp (q H3 ⟨dx2,h3⟩ ⟨xm,hm3⟩ kk)
     ·have z0:z / 2=0:=by omega
      refine ⟨_,rfl,_,_,rfl,rfl,_,rfl,?_⟩
      rw [ax (show ¬(0:Int)<(z:Int) / 2 by omega)]
      rw [ah (fun h=>h.elim (fun h=>by rw [z0,cQ] at h;cases h) z1)] at q
      exact cp (cp (q H3 ⟨dx2,h3⟩ ⟨xm,hm3⟩ kk))
end
def tI (K:Fg_) (CP:Addr):Sp:=fun vs H Q _=>∃ (a m n l:Addr) (d:PD) (bs:List UInt8),vs=[.ref a,.ref m]∧SqL K H a (bs.map bv)∧gA CP H m d n l∧d.ins≤d.fin∧d.fin≤bs.length ∧
 ∀ x,H x=none→Q (.ref x) (upd H x (.lst (((bs.drop d.ins).take (d.fin - d.ins)).map bv)))
def n9 (CP:Addr) (H:Hp) (ms:List Addr) (prev:Option (List UInt8)):Prop:=match ms.getLast? with
 | none=>prev=none
 | some m=>∃ d n l q,gA CP H m d n l∧H n=some (.lst (q.map bv))∧prev=some q
def xC (K:Fg_) (CF CR CP:Addr):Sp:=fun vs H Q E=>∃ (r a h n l:Addr) (p:Nat) (bs:List UInt8) (d:PD) (ms:List Addr) (prev:Option (List UInt8)),vs=[.ref r,.ref h]∧fu CR H r a p∧SqL K H a (bs.map bv)∧p≤bs.length∧bs.length≤65536 ∧
 gA CP H h d n l∧H l=some (.lst (ms.map V.ref))∧n9 CP H ms prev∧(∀ m∈ms,m≠r) ∧
 Out E CF (Hm.nameAt prev p (bs.drop p)) fun (x:Nat×Nat)=>∀ H':Hp,fu CR H' r a (p+x.2+x.1)→Kp H H' r→Q (.int ((p+x.2:Nat):Int)) H'
theorem scPR:bw ["reader","part"] ["reader","part"] (a9 sPR):=fs_
theorem ok_PR {f fCU:Addr} {fd fdU:FuncData} (F:Fun K "pass_row" "pass_row" sPR f fd) (T:TxR K mg CF CR fFI) (TP:TxP K mg CP) (N:TxN mg) (R:uY P w K mg base CF CR fRV fPB fRB fdV fdP fdB)
  (GU:Co P w K mg base (CXF P w) 4 fCU fdU ["row","start","end"] (vk K CF) "check_utf8") :
  bK P w K mg base (CXF P w) 6 f fd ["reader","part"] (xN K CF CR CP):=by
 refine okX F scPR (fun vs H Q E h=>?_) (fun cdv A outer s H vs Q E hr h=>?_)
 ·obtain ⟨r,a,m,nm,lm,p,d,bs,rfl,_⟩:=h
  rfl
 ·obtain ⟨r,a,m,nm,lm,p,d,bs,rfl,⟨dx,hr1⟩,hs,⟨xm,hm⟩,hp,hz,q⟩:=h
  have hr3:cB 3 _:=hr.mono (by decide)
  have hr4:cB 4 _:=hr.mono (by decide)
  refine ⟨_,az (bN (pv 1) (gz (pv 0) T.cR R.mV R.gV hr R.bV .nil dC) rfl)
   (az (bN (pv 1) (jA (pv 0) T.cR R.mP R.gP hr3 R.bP .nil dC (aj (aU (pv 1) rfl) aL)) rfl)
   (aH (bY (bo d8 (aU (pv 1) rfl) (pgi N.tx rfl) (bA _)) (aH (b6 (cv GU hr4 rfl dC (aj (aU (pv 0) rfl) (aj (aU (pv 1) rfl) (aj (aU (pv 0) rfl) aL)))))) bF))),?_⟩
  try dsimp only [cY];have nmr:m≠r:=me hm ⟨dx,hr1⟩
  refine ⟨_,rfl,r,dx,_,rfl,hr1,iC a p (by decide +kernel) (by decide +kernel),r,a,p,bs,rfl,⟨dx,hr1⟩,hs,hp,?_⟩
  unfold Hm.strAt at q;cases ev:Sw.varyOf p (bs.drop p) with
  | error e =>
   rw [ev] at q;exact q
  | ok zl =>
   obtain ⟨n,l⟩:=zl
   rw [ev] at q;obtain ⟨u1,u2,u3,u4⟩:=Vm.vary_used ev
   rw [aC] at u2;rintro H1 ⟨dx1,h1⟩ k1
   have sq1:=iB hs k1 hr1
   have hm1:=k1 _ _ hm nmr
   dsimp only at q;refine ⟨_,rfl,m,CP,xm,_,rfl,hm1,TP.cP,TP.nSi,(by show 9<1000;decide),?_⟩
   generalize hH2:upd H1 m (.ins CP xm (eX "size" (.int (n:Int)) (pf d nm lm)))=H2;have hm2:H2 m=some (.ins CP xm (pf { d with size:=n } nm lm)):=by rw [←hH2,au];rfl
   have k2:∀ b o,H1 b=some o→b≠m→H2 b=some o:=fun b o e n=>by rw [←hH2,aa n];exact e
   have h2:=k2 _ _ h1 (aN nmr)
   have sq2:SqL K H2 a (bs.map bv):=iB (r:=m) sq1 (fun b o e n=>k2 b o e n) hm1
   refine ⟨_,rfl,r,dx1,_,rfl,h2,iC a (p+l) (by decide +kernel) (by decide +kernel),_,rfl,fd_ hm2 TP.cP TP.nSi rfl ⟨r,a,p+l,n,bs,rfl,⟨dx1,h2⟩,sq2,by omega,?_⟩⟩
   by_cases c2:bs.length - (p+l)<n
   ·rw [ao c2];rw [Hm.some_no (by rw [aC,aC];omega)] at q
    have e3:p+l+((bs.drop p).drop l).length=bs.length:=by rw [aC,aC];omega
    have q':Err E CF (.int 1) (.int ((p+l+((bs.drop p).drop l).length:Nat):Int)):=q
    rw [e3] at q'
    exact q'
   ·rw [ah c2];have hle:n≤((bs.drop p).drop l).length:=by rw [aC,aC];omega
    rw [Hm.some_of hle] at q;dsimp only at q;rintro H3 ⟨dx3,h3⟩ k3
    have sq3:=iB sq2 k3 h2
    have hm3:=k3 _ _ hm2 nmr
    refine ⟨_,rfl,m,CP,xm,_,rfl,hm3,TP.cP,TP.nIn,(by show 9<1000;decide),?_⟩
    generalize hH4:upd H3 m (.ins CP xm (eX "inside" (.int ((p+l:Nat):Int)) (pf { d with size:=n } nm lm)))=H4
    have hm4:H4 m=some (.ins CP xm (pf { d with size:=n,ins:=p+l } nm lm)):=by rw [←hH4,au];rfl
    have k4:∀ b o,H3 b=some o→b≠m→H4 b=some o:=fun b o e n=>by rw [←hH4,aa n];exact e
    have h4:=k4 _ _ h3 (aN nmr)
    have sq4:SqL K H4 a (bs.map bv):=iB (r:=m) sq3 (fun b o e n=>k4 b o e n) hm3
    have kk:Kp2 H H4 r m:=fun b o e n1 n2=>k4 b o (k3 b o (k2 b o (k1 b o e n1) n2) n1) n2
    refine ⟨_,rfl,fd_ hm4 TP.cP TP.nKi rfl ⟨rfl,_,rfl,?_⟩⟩
    rw [fT];by_cases c3:d.kind=4
    ·rw [aq (show (d.kind:Int)=4 by omega)]
     rw [ao (aq c3)] at q;refine cq ?_
     refine ⟨_,rfl,fd_ h4 T.cR T.nRow (gW a _) ⟨_,rfl,fd_ hm4 TP.cP TP.nIn rfl ⟨_,rfl,fd_ h4 T.cR T.nPl (cX a _) ⟨a,p+l,p+l+n,bs,rfl,sq4,by omega,by omega,hz,?_⟩⟩⟩⟩
     have tr:=Um.text_run (p+l) (((bs.drop p).drop l).take n)
     rw [bZ] at tr q;rw [show p+l+n - (p+l)=n by omega]
     cases et:Sw.textOf (p+l) ((bs.drop (p+l)).take n) with
     | error e =>
      rw [et] at tr q;obtain ⟨t1,t2⟩:=tr
      rw [t2];have q':Err E CF (.int (e.kind:Int)) (.int (e.place:Int)):=q
      rw [t1] at q'
      exact q'
     | ok t =>
      rw [et] at tr q;rw [tr];exact q H4 ⟨dx3,h4⟩ ⟨xm,hm4⟩ kk
    ·rw [ax (show ¬(d.kind:Int)=4 by omega)]
     rw [ah (by rw [ax c3];exact aS)] at q
     exact cp (q H4 ⟨dx3,h4⟩ ⟨xm,hm4⟩ kk)
theorem vp:bw ["reader","holder","told_at","length","first"] ["reader","holder"] (a9 sRN):=fs_
theorem ok_RN {f fCU:Addr} {fd fdI fdU:FuncData} (F:Fun K "read_name" "read_name" sRN f fd) (T:TxR K mg CF CR fFI) (TP:TxP K mg CP) (GI:bK P w K mg base CX0 1 fFI fdI ["self","kind","place"] (jK CF)) (bI:bT K fdI ["self","kind","place"] [])
  (R:uY P w K mg base CF CR fRV fPB fRB fdV fdP fdB)
  (GU:Co P w K mg base (CXF P w) 4 fCU fdU ["row","start","end"] (vk K CF) "check_utf8") :
  bK P w K mg base (CXF P w) 6 f fd ["reader","holder"] (xC K CF CR CP):=by
 refine okX F vp (fun vs H Q E h=>?_) (fun cdv A outer s H vs Q E hr h=>?_)
 ·obtain ⟨r,a,h,n,l,p,bs,d,ms,prev,rfl,_⟩:=h
  rfl
 ·obtain ⟨r,a,h,nh,ll,p,bs,d,ms,prev,rfl,⟨dx,hr1⟩,hs,hp,hz,⟨dh,hh⟩,hl,hlast,hne,q⟩:=h
  have hr1':cB 1 _:=hr.mono (by decide)
  have hr2:cB 2 _:=hr.mono (by decide)
  have hr3:cB 3 _:=hr.mono (by decide)
  have hr4:cB 4 _:=hr.mono (by decide)
  refine ⟨_,az (br (i:=2) vp.nd rfl (.inl rfl) (aU (pv 0) rfl))
   (az (br (i:=3) vp.nd rfl (.inl rfl) (gz (pv 0) T.cR R.mV R.gV hr R.bV .nil dC))
   (az (bY (PW.pt (je (bo d8 (pv 3) bh (bA _)) (gX (bo iJ (pv 3) (pgi TP.ln rfl) (bA _)))))
    (aH (dQ T.xc GI bI hr2 ck rfl rfl T.mF (aj (pgi TP.e6 rfl) (aj (pv 2) aL)))) bF)
   (az (br (i:=4) vp.nd rfl (.inl rfl) (jA (pv 0) T.cR R.mP R.gP hr3 R.bP .nil dC (aj (pv 3) aL)))
   (az (b6 (cv GU hr4 rfl dC (aj (aU (pv 0) rfl) (aj (pv 4) (aj (aU (pv 0) rfl) aL)))))
   (az (bY (PW.pt (jM (cN (aU (pv 1) rfl) (fun _=>rfl)) (i8 (bo (yt hr.units0) (jz kr (aU (pv 0) rfl) (gJ (pv 4)) (gJ (aU (pv 0) rfl))) (aU (cK bM (aU (pv 1) rfl) (kZ ji bh) (fun _ _=>rfl)) rfl) (bA _)))))
     (aH (dQ T.xc GI bI hr2 ck rfl rfl T.mF (aj (pgi TP.e6 rfl) (aj (pv 2) aL)))) bF)
   (aH (b9 (pv 4)))))))),?_⟩
  try dsimp only [cY];have nhr:h≠r:=fb hh hr1 (by intro z;injection z with _ _ z3;exact aP (congrArg List.length z3) (by show ¬9=2;decide))
  have nlr:ll≠r:=fb hl hr1 (by intro z;cases z)
  refine ⟨_,rfl,fd_ hr1 T.cR T.nPl (cX a p) ?_⟩
  refine ⟨_,rfl,r,dx,_,rfl,hr1,iC a p (by decide +kernel) (by decide +kernel),r,a,p,bs,rfl,⟨dx,hr1⟩,hs,hp,?_⟩
  unfold Hm.nameAt at q;cases ev:Sw.varyOf p (bs.drop p) with
  | error e =>
   rw [ev] at q;exact q
  | ok zl =>
   obtain ⟨k,l⟩:=zl
   rw [ev] at q;obtain ⟨u1,u2,u3,u4⟩:=Vm.vary_used ev
   rw [aC] at u2;rintro H1 ⟨dx1,h1⟩ k1
   have sq1:=iB hs k1 hr1
   dsimp only at q;dsimp only [lH];refine tK (fun Q' h=>⟨_,rfl,rfl,_,rfl,h⟩) (fun _ Q' h=>⟨_,rfl,_,_,rfl,rfl,_,rfl,h⟩) ?_
   rw [fT];refine jn (fun c=>?_) (fun c=>?_)
   ·refine ⟨_,rfl,_,_,rfl,?_⟩
    simp only [eG,bQ] at c;rw [ao (by show k=0∨255<k;omega)] at q
    exact q
   ·simp only [eG,bQ,not_or] at c;rw [ah (by show ¬(k=0∨255<k);omega)] at q
    refine ⟨_,rfl,r,dx1,_,rfl,h1,iC a (p+l) (by decide +kernel) (by decide +kernel),_,rfl,r,a,p+l,k,bs,rfl,⟨dx1,h1⟩,sq1,by omega,?_⟩
    by_cases c2:bs.length - (p+l)<k
    ·rw [ao c2];rw [Hm.some_no (by rw [aC,aC];omega)] at q
     have e3:p+l+((bs.drop p).drop l).length=bs.length:=by rw [aC,aC];omega
     have q':Err E CF (.int 1) (.int ((p+l+((bs.drop p).drop l).length:Nat):Int)):=q
     rw [e3] at q'
     exact q'
    ·rw [ah c2];have hle:k≤((bs.drop p).drop l).length:=by rw [aC,aC];omega
     rw [Hm.some_of hle] at q;dsimp only at q;rintro H2 ⟨dx2,h2⟩ k2
     have sq2:=iB sq1 k2 h1
     have k12:=k1.trans k2
     have hh2:=k12 _ _ hh nhr
     have hl2:=k12 _ _ hl nlr
     refine ⟨_,rfl,fd_ h2 T.cR T.nRow (gW a _) ⟨_,rfl,_,rfl,fd_ h2 T.cR T.nPl (cX a _) ⟨a,p+l,p+l+k,bs,rfl,sq2,by omega,by omega,hz,?_⟩⟩⟩
     have tr:=Um.text_run (p+l) (((bs.drop p).drop l).take k)
     rw [bZ] at tr q;rw [show p+l+k - (p+l)=k by omega]
     cases et:Sw.textOf (p+l) ((bs.drop (p+l)).take k) with
     | error e =>
      rw [et] at tr q;obtain ⟨t1,t2⟩:=tr
      rw [t2];have q':Err E CF (.int (e.kind:Int)) (.int (e.place:Int)):=q
      rw [t1] at q'
      exact q'
     | ok t =>
      rw [et] at tr q;rw [tr];dsimp only at q;refine ⟨_,rfl,fd_ hh2 TP.cP TP.nMe rfl ⟨_,.inl ⟨_,SqL.of hl2,rfl⟩,?_⟩⟩
      unfold n9 at hlast;cases eg:ms.getLast? with
      | none =>
       rw [eg] at hlast;have em:ms=[]:=List.getLast?_eq_none_iff.mp eg
       subst em;subst hlast;rw [ah (show ¬true=false from fun z=>nomatch z)] at q
       exact cp (cp ⟨_,rfl,q H2 ⟨dx2,h2⟩ k12⟩)
      | some m =>
       rw [eg] at hlast;obtain ⟨dm,nn,lm,qn,⟨xm,hm⟩,hnn,ep⟩:=hlast
       have mm:m∈ms:=List.mem_of_getLast? eg
       have hm2:=k12 _ _ hm (hne m mm)
       have hn2:=k12 _ _ hnn (fb hnn hr1 (by intro z;cases z))
       obtain ⟨ms',em⟩:∃ ms',ms=ms'++[m]:=List.getLast?_eq_some_iff.mp eg
       subst em;rw [show (!((ms'++[m]).map V.ref).isEmpty)=true by simp]
       subst ep;refine cq ?_
       refine ⟨_,rfl,fd_ h2 T.cR T.nRow (gW a _) ⟨_,rfl,_,rfl,_,rfl,fd_ h2 T.cR T.nPl (cX a _) ⟨_,rfl,a,_,rfl,sq2,fun x hx=>?_⟩⟩⟩
       rw [ja bs (p+l) k (by omega) rfl rfl]
       have nr:r≠x:=af h2 hx
       have nm:m≠x:=af hm2 hx
       refine ⟨_,rfl,fd_ ((aa (af hh2 hx)).trans hh2) TP.cP TP.nMe rfl ⟨_,rfl,ll,_,_,V.ref m,rfl,rfl,SqL.of ((aa (af hl2 hx)).trans hl2),by rw [aO];exact jH _ _,?_⟩⟩
       refine fd_ ((aa nm).trans hm2) TP.cP TP.nNl rfl ?_
       refine ⟨x,nn,gR ((bs.drop (p+l)).take k),gR qn,rfl,rfl,by rw [au,rB],by rw [aa (af hn2 hx),hn2,rB],_,rfl,?_⟩
       rw [my];by_cases cb:Sw.bytesBefore qn ((bs.drop (p+l)).take k)=false
       ·rw [ao cb] at q;rw [cb];exact cq ⟨_,rfl,_,_,rfl,q⟩
       ·rw [ah cb] at q;have cb':Sw.bytesBefore qn ((bs.drop (p+l)).take k)=true:=by
         cases hb:Sw.bytesBefore qn ((bs.drop (p+l)).take k) with
         | true=>rfl
         | false=>exact aP hb cb
        rw [cb'];refine cp ⟨_,rfl,q _ ⟨dx2,by rw [aa nr];exact h2⟩ fun b o e n=>?_⟩
        have z:=k12 b o e n
        rw [aa (af z hx)];exact z
structure TxB (mg:Str→Option Value) (CP:Addr):Prop where
 mP:mg "Part" = some (.ref CP)
 mx:mg "max" = none
 k2:GI mg "NUMBER" 2
 k3:GI mg "BYTES" 3
 k4:GI mg "TEXT" 4
 k5:GI mg "LIST" 5
 k6:GI mg "RECORD" 6
 k7:GI mg "MOMENT" 7
 k8:GI mg "IDENTITY" 8
 lk:GI mg "LAST_KIND" 8
 dp:GI mg "DEEPEST" 64
 ml:GI mg "MOMENT_LENGTH" 8
 il:GI mg "IDENTITY_LENGTH" 32
 e2:GI mg "WRONG_KIND" 2
 e7:GI mg "TOO_DEEP" 7
def xP (CP:Addr):Sp:=fun vs H Q _=>∃ (m dx:Addr) (k p:Nat),vs=[.ref m,.int (k:Int),.int (p:Int)]∧H m=some (.ins CP dx []) ∧
 ∀ (n l:Addr) (H':Hp),H n=none→H l=none→n≠m→l≠m→n≠l→gA CP H' m ⟨k,p,p+1,p,0,1,0,0⟩ n l→H' n=some (.lst [])→H' l=some (.lst [])→Kp H H' m→Q .non H'
def xS (CP:Addr):Sp:=fun vs H Q _=>∃ (m n l:Addr) (d:PD) (ms:List Addr),vs=[.ref m]∧gA CP H m d n l∧H l=some (.lst (ms.map V.ref)) ∧
 ∀ H':Hp,bC H H'→Q (.bl (decide ((d.kind=5∨d.kind=6)∧ms.length<d.size))) H'
def xZ (CP:Addr):Sp:=fun vs H Q _=>∃ (h m nh lh nm lm:Addr) (dh dm:PD),vs=[.ref h,.ref m]∧gA CP H h dh nh lh∧gA CP H m dm nm lm ∧
 ∀ H':Hp,gA CP H' h { dh with depth:=max dh.depth (dm.depth+1) } nh lh→Kp H H' h→Q .non H'
theorem scPI:bw ["self","kind","place"] ["self","kind","place"] (a9 sPI):=fs_
theorem ok_PI {f:Addr} {fd:FuncData} (F:Fun K "__init__" "Part.__init__" sPI f fd) (TP:TxP K mg CP):bK P w K mg base CX0 1 f fd ["self","kind","place"] (xP CP):=by
 refine F.ok scPI (fun vs H Q E h=>?_) (fun cdv A outer s H vs Q E hr h=>?_)
 ·obtain ⟨m,dx,k,p,rfl,_⟩:=h
  rfl
 ·obtain ⟨m,dx,k,p,rfl,hm,q⟩:=h
  refine ⟨_,az (bN (pv 0) (pv 1) rfl) (az (bN (pv 0) (pv 2) rfl) (az (bN (pv 0) (fH ir (pv 2) bh) rfl) (az (bN (pv 0) (pv 2) rfl) (az (bN (pv 0) bh rfl) (az (bN (pv 0) bh rfl)
   (az (bN (pv 0) bh rfl) (az (bN (pv 0) (dX aL) rfl) (aH (bN (pv 0) (dX aL) rfl))))))))),?_⟩
  try dsimp only [cY];refine ⟨_,rfl,_,rfl,m,CP,dx,[],rfl,hm,TP.cP,TP.nKi,(by show 0<1000;decide),?_⟩
  refine ⟨_,rfl,_,rfl,m,CP,dx,_,rfl,au,TP.cP,TP.nPl,(by show 1<1000;decide),?_⟩
  refine ⟨_,rfl,_,_,rfl,rfl,_,rfl,m,CP,dx,_,rfl,au,TP.cP,TP.nIn,(by show 2<1000;decide),?_⟩
  refine ⟨_,rfl,_,rfl,m,CP,dx,_,rfl,au,TP.cP,TP.nEn,(by show 3<1000;decide),?_⟩
  refine ⟨_,rfl,m,CP,dx,_,rfl,au,TP.cP,TP.nSi,(by show 4<1000;decide),?_⟩
  refine ⟨_,rfl,m,CP,dx,_,rfl,au,TP.cP,TP.nDe,(by show 5<1000;decide),?_⟩
  refine ⟨_,rfl,m,CP,dx,_,rfl,au,TP.cP,TP.nNp,(by show 6<1000;decide),?_⟩
  refine ⟨a8 _,fun n hn=>?_⟩
  have nnm:n≠m:=fun z=>by rw [z,au] at hn;cases hn
  refine ⟨_,rfl,m,CP,dx,_,rfl,by rw [aa (aN nnm)];exact au,TP.cP,TP.nNl,(by show 7<1000;decide),?_⟩
  refine ⟨a8 _,fun l hl=>?_⟩
  have nlm:l≠m:=fun z=>by rw [z,au] at hl;cases hl
  have nnl:n≠l:=fun z=>by rw [←z,aa nnm,au] at hl;cases hl
  refine ⟨_,rfl,m,CP,dx,_,rfl,by rw [aa (aN nlm)];exact au,TP.cP,TP.nMe,(by show 8<1000;decide),?_⟩
  rw [aa nnm,aa nnm,aa nnm,aa nnm,aa nnm,aa nnm,aa nnm] at hn;rw [aa nlm,aa (aN nnl),aa nlm,aa nlm,aa nlm,aa nlm,aa nlm,aa nlm,aa nlm] at hl;refine q n l _ hn hl nnm nlm nnl ⟨dx,au⟩ (by rw [aa nnm,aa nnl,aa nnm,au]) (by rw [aa nlm,au]) fun b o e n'=>?_
  have nbl:b≠l:=fun z=>by
   rw [z,hl] at e;cases e
  have nbn:b≠n:=fun z=>by
   rw [z,hn] at e;cases e
  rw [aa n',aa nbl,aa n',aa nbn,aa n',aa n',aa n',aa n',aa n',aa n',aa n'];exact e
theorem scLM:bw ["part"] ["part"] (a9 sLM):=fs_
theorem uz {k a b:Nat}:inV (.int (k:Int)) [.int (a:Int),.int (b:Int)]=decide (k=a∨k=b):=by
 show ((((a:Int)==(k:Int))||((((b:Int)==(k:Int)))||false)))=_
 by_cases h1:k=a
 ·subst h1;rw [beq_self_eq_true,aq (.inl rfl)];rfl
 ·by_cases h2:k=b
  ·subst h2;rw [beq_self_eq_true,aq (.inr rfl),aQ.mpr (show (a:Int)≠(k:Int) by omega)]
   rfl
  ·rw [aQ.mpr (show (a:Int)≠(k:Int) by omega),aQ.mpr (show (b:Int)≠(k:Int) by omega),ax (by omega)]
   rfl
theorem ok_LM {f:Addr} {fd:FuncData} (F:Fun K "lacks_members" "lacks_members" sLM f fd) (TP:TxP K mg CP) (B:TxB mg CP) (hlen:mg "len" = none):bK P w K mg base CX0 1 f fd ["part"] (xS CP):=by
 refine F.ok scLM (fun vs H Q E h=>?_) (fun cdv A outer s H vs Q E hr h=>?_)
 ·obtain ⟨m,n,l,d,ms,rfl,_⟩:=h
  rfl
 ·obtain ⟨m,n,l,d,ms,rfl,⟨dx,hm⟩,hl,q⟩:=h
  refine ⟨_,aH (b9 (yq (kE i9 (aU (pv 0) rfl) (fq (aj (pgi B.k5 rfl) (aj (pgi B.k6 rfl) aL))) (by with_unfolding_all rfl))
   (yp (kE kf (di eo (by rfl) hlen b8 (aj (aU (pv 0) rfl) aL)) (aU (pv 0) rfl) (bA _))))),?_⟩
  try dsimp only [cY];refine ⟨_,rfl,fd_ hm TP.cP TP.nKi rfl ⟨(by show 2≤sizeLine;decide),fun t ht=>?_⟩⟩
  have hm2:upd H t (.tup [.int 5,.int 6]) m=_:=(aa (af hm ht)).trans hm
  have hl2:upd H t (.tup [.int 5,.int 6]) l=_:=(aa (af hl ht)).trans hl
  have sm:bC H (upd H t (.tup [.int 5,.int 6])):=fun b o e=>(aa (af e ht)).trans e
  refine ⟨t,_,rfl,.inr (SqT.of au),rfl,rfl,_,rfl,?_⟩
  rw [show (if false=true then !inV (.int (d.kind:Int)) [.int 5,.int 6] else inV (.int (d.kind:Int)) [.int 5,.int 6])=decide (d.kind=5∨d.kind=6) from uz (a:=5) (b:=6)]
  by_cases hk:d.kind=5∨d.kind=6
  ·rw [aq hk];refine cq ?_
   refine ⟨_,rfl,fd_ hm2 TP.cP TP.nMe rfl ⟨l,_,rfl,.inl (SqL.of hl2),_,rfl,fd_ hm2 TP.cP TP.nSi rfl ⟨_,_,rfl,rfl,?_⟩⟩⟩
   have e:decide (((ms.map V.ref).length:Int)<(d.size:Int))=decide ((d.kind=5∨d.kind=6)∧ms.length<d.size):=by
    rw [ae];by_cases h2:ms.length<d.size
    ·rw [aq (show (ms.length:Int)<(d.size:Int) by omega),aq ⟨hk,h2⟩]
    ·rw [ax (show ¬(ms.length:Int)<(d.size:Int) by omega),ax (fun z=>h2 z.2)]
   show Q (V.bl (decide (((ms.map V.ref).length:Int)<(d.size:Int)))) _
   rw [e];exact q _ sm
  ·rw [ax hk];refine cp ?_
   have q2:=q _ sm
   rw [ax (fun z=>hk z.1)] at q2
   exact q2
theorem scDP:bw ["holder","part"] ["holder","part"] (a9 sDP):=fs_
theorem ok_DP {f:Addr} {fd:FuncData} (F:Fun K "deepen" "deepen" sDP f fd) (TP:TxP K mg CP) (B:TxB mg CP):bK P w K mg base CX0 1 f fd ["holder","part"] (xZ CP):=by
 refine F.ok scDP (fun vs H Q E h=>?_) (fun cdv A outer s H vs Q E hr h=>?_)
 ·obtain ⟨h,m,nh,lh,nm,lm,dh,dm,rfl,_⟩:=h
  rfl
 ·obtain ⟨h,m,nh,lh,nm,lm,dh,dm,rfl,⟨xh,hh⟩,⟨xm,hm⟩,q⟩:=h
  refine ⟨_,aH (bN (pv 0) (di (sO rfl) (by rfl) B.mx boot_max (aj (aU (pv 0) rfl) (aj (fH ir (aU (pv 1) rfl) bh) aL))) rfl),?_⟩
  try dsimp only [cY];refine ⟨_,rfl,h,CP,xh,_,_,rfl,hh,TP.cP,TP.nDe,rfl,_,rfl,m,CP,xm,_,_,rfl,hm,TP.cP,TP.nDe,rfl,_,_,rfl,rfl,_,_,rfl,_,rfl,h,CP,xh,_,rfl,hh,TP.cP,TP.nDe,(by show 9<1000;decide),?_⟩
  refine q _ ⟨xh,?_⟩ fun b o e n=>by rw [aa n];exact e
  rw [au];have e:(if (dm.depth:Int)+1>(dh.depth:Int) then (dm.depth:Int)+1 else (dh.depth:Int))=((max dh.depth (dm.depth+1):Nat):Int):=by
   by_cases z:(dm.depth:Int)+1>(dh.depth:Int)
   ·rw [ao z];omega
   ·rw [ah z];omega
  show some (HO.ins CP xh (eX "depth" (V.int (if (dm.depth:Int)+1>(dh.depth:Int) then (dm.depth:Int)+1 else (dh.depth:Int))) (pf dh nh lh)))=_
  rw [e];rfl
theorem qX {K:Fg_} {j x1 x2 c:Nat} {σ:St} {H:Hp} {Q:Bool→Hp→Prop} (h:σ[j]? = some (some (.int (c:Int)))) (q:∀ t,H t=none→Q (decide (c=x1∨c=x2)) (upd H t (.tup [.int (x1:Int),.int (x2:Int)]))) :
  l9 (tOp (rIn K false) (pU j) (tTup (tE (tC (.int (x1:Int))) (tE (tC (.int (x2:Int))) w9)))) σ H Q:=by
 refine ⟨_,h,(by show 2≤sizeLine;decide),fun t ht=>⟨t,_,rfl,.inr (SqT.of au),rfl,rfl,_,rfl,?_⟩⟩
 have e:(if false=true then !inV (.int (c:Int)) [.int (x1:Int),.int (x2:Int)] else inV (.int (c:Int)) [.int (x1:Int),.int (x2:Int)])=decide (c=x1∨c=x2):=uz
 rw [e];exact q t ht
structure lS (CP:Addr) (H H':Hp) (m n l:Addr) (d:PD) (nb:List V):Prop where
 nm:H m=none
 nn:H n=none
 nl:H l=none
 ne:m≠l
 nmn:m≠n
 nnl:n≠l
 pt:gA CP H' m d n l
 ns:H' n=some (.lst nb)
 ls:H' l=some (.lst [])
def vm (K:Fg_) (CF CR CP:Addr):Sp:=fun vs H Q E=>∃ (r a:Addr) (lv p:Nat) (bs:List UInt8),vs=[.ref r,.int (lv:Int)]∧fu CR H r a p∧SqL K H a (bs.map bv)∧p≤bs.length∧bs.length≤65536 ∧
 Out E CF (Pm.headAt lv p (bs.drop p)) fun (x:Nat×Nat×Nat×Nat)=>∀ (m n l:Addr) (H':Hp),lS CP H H' m n l ⟨x.1,p,p+x.2.2.1,p,x.2.1,1,0,0⟩ []→fu CR H' r a (p+x.2.2.2)→Kp H H' r→Q (.ref m) H'
theorem vz:bw ["reader","level","place","kind","part"] ["reader","level"] (a9 sBP):=fs_
theorem ok_BP {f fPI fPN fPR:Addr} {fd fdI fdP' fdN fdR:FuncData} (F:Fun K "begin_part" "begin_part" sBP f fd) (T:TxR K mg CF CR fFI) (TP:TxP K mg CP) (B:TxB mg CP) (GI:bK P w K mg base CX0 1 fFI fdI ["self","kind","place"] (jK CF)) (bI:bT K fdI ["self","kind","place"] [])
  (R:uY P w K mg base CF CR fRV fPB fRB fdV fdP fdB)
  (M:Mk K CP fPI) (GP:bK P w K mg base CX0 1 fPI fdP' ["self","kind","place"] (xP CP)) (bP:bT K fdP' ["self","kind","place"] [])
  (GN:Co P w K mg base (CXF P w) 6 fPN fdN ["reader","part"] (xO K CF CR CP) "pass_number")
  (GR:Co P w K mg base (CXF P w) 6 fPR fdR ["reader","part"] (xN K CF CR CP) "pass_row") :
  bK P w K mg base (CXF P w) 7 f fd ["reader","level"] (vm K CF CR CP):=by
 refine okX F vz (fun vs H Q E h=>?_) (fun cdv A outer s H vs Q E hr h=>?_)
 ·obtain ⟨r,a,lv,p,bs,rfl,_⟩:=h
  rfl
 ·obtain ⟨r,a,lv,p,bs,rfl,⟨dx,hr1⟩,hs,hp,hz,q⟩:=h
  have hr2:cB 2 _:=hr.mono (by decide)
  have hr3:cB 3 _:=hr.mono (by decide)
  have hr4:cB 4 _:=hr.mono (by decide)
  have hr5:cB 5 _:=hr.mono (by decide)
  refine ⟨_,az (br (i:=2) vz.nd rfl (.inl rfl) (aU (pv 0) rfl))
   (az (br (i:=3) vz.nd rfl (.inl rfl) (gz (pv 0) T.cR R.mB R.gB hr4 R.bB .nil dC))
   (az (bY (bo iJ (pv 3) (pgi B.lk rfl) (bA _)) (aH (dQ T.xc GI bI hr2 ck rfl rfl T.mF (aj (pgi B.e2 rfl) (aj (pv 2) aL)))) bF)
   (az (bY (bo iJ (pv 1) (pgi B.dp rfl) (bA _)) (aH (dQ T.xc GI bI hr2 ck rfl rfl T.mF (aj (pgi B.e7 rfl) (aj (pv 2) aL)))) bF)
   (az (br (i:=4) vz.nd rfl (.inl rfl) (gn M GP hr2 rfl B.mP bP .nil cM (aj (pv 3) (aj (pv 2) aL))))
   (az (bY (bo d8 (pv 3) (pgi B.k2 rfl) (bA _)) (aH (b6 (cv GN hr rfl dC (aj (pv 0) (aj (pv 4) aL)))))
    (aH (bY (bo i9 (pv 3) (fq (aj (pgi B.k3 rfl) (aj (pgi B.k4 rfl) aL))) (by with_unfolding_all rfl))
     (aH (b6 (cv GR hr rfl dC (aj (pv 0) (aj (pv 4) aL)))))
     (aH (bY (bo i9 (pv 3) (fq (aj (pgi B.k5 rfl) (aj (pgi B.k6 rfl) aL))) (by with_unfolding_all rfl))
      (az (bN (pv 4) (gz (pv 0) T.cR R.mV R.gV hr5 R.bV .nil dC) rfl) (aH (bN (pv 4) (aU (pv 0) rfl) rfl)))
      (aH (bY (bo d8 (pv 3) (pgi B.k7 rfl) (bA _)) (aH (b6 (jA (pv 0) T.cR R.mP R.gP hr3 R.bP .nil dC (aj (pgi B.ml rfl) aL))))
       (aH (bY (bo d8 (pv 3) (pgi B.k8 rfl) (bA _)) (aH (b6 (jA (pv 0) T.cR R.mP R.gP hr3 R.bP .nil dC (aj (pgi B.il rfl) aL)))) bF)))))))))
   (aH (b9 (pv 4)))))))),?_⟩
  try dsimp only [cY];refine ⟨_,rfl,fd_ hr1 T.cR T.nPl (cX a p) ?_⟩
  refine ⟨_,rfl,r,dx,_,rfl,hr1,iC a p (by decide +kernel) (by decide +kernel),r,a,p,bs,rfl,⟨dx,hr1⟩,hs,?_⟩
  unfold Pm.headAt at q;cases eb:bs[p]? with
  | none =>
   have l0:bs.length≤p:=bL.mp eb
   have ed:bs.drop p=[]:=eE l0
   rw [ed] at q;have q':Err E CF (.int 1) (.int (p:Int)):=q
   rw [show p=bs.length by omega] at q'
   exact q'
  | some c =>
   have l0:p<bs.length:=(ay.mp eb).1
   have ed:bs.drop p=c::bs.drop (p+1):=by
    rw [bz l0];rw [aB l0] at eb;cases eb;rfl
   rw [ed] at q;dsimp only at q;rintro H1 ⟨dx1,h1⟩ k1
   have sq1:=iB hs k1 hr1
   refine kq rfl ?_
   by_cases c8:8<c.toNat
   ·rw [ao c8] at q;rw [aq (show (8:Int)<(c.toNat:Int) by omega)]
    exact cq ⟨_,rfl,_,_,rfl,q⟩
   ·rw [ah c8] at q;rw [ax (show ¬(8:Int)<(c.toNat:Int) by omega)]
    refine cp (kq rfl ?_)
    by_cases cd:Sw.DEEP<lv
    ·rw [ao cd] at q;have cd':64<lv:=cd
     rw [aq (show (64:Int)<(lv:Int) by omega)]
     exact cq ⟨_,rfl,_,_,rfl,q⟩
    ·rw [ah cd] at q;have cd':¬64<lv:=cd
     rw [ax (show ¬(64:Int)<(lv:Int) by omega)]
     refine cp ?_
     refine ⟨_,rfl,_,rfl,fun m dm hm hdm ndm=>?_⟩
     refine ⟨m,dm,c.toNat,p,rfl,au,fun nn l H2 hn hl nnm nlm nnl pt ns ls k2=>⟨rfl,?_⟩⟩
     have hm1:H1 m=none:=hm
     have hl1:H1 l=none:=by
      rw [aa nlm] at hl;by_cases z:l=dm
      ·rw [z,au] at hl;cases hl
      ·rw [aa z] at hl;exact hl
     have hn1:H1 nn=none:=by
      rw [aa nnm] at hn;by_cases z:nn=dm
      ·rw [z,au] at hn;cases hn
      ·rw [aa z] at hn;exact hn
     have k3:Kp H1 H2 m:=fun b o e n=>k2 b o (by rw [aa n,aa (af e hdm)];exact e) n
     have keep:∀ b o,H1 b=some o→H2 b=some o:=fun b o e=>k3 b o e (af e hm1)
     have h2:=keep _ _ h1
     have nmr:m≠r:=fun z=>by rw [z,h1] at hm1;cases hm1
     have nlr:l≠r:=fun z=>by rw [z,h1] at hl1;cases hl1
     have nnr:nn≠r:=fun z=>by rw [z,h1] at hn1;cases hn1
     have free0:∀ x,H1 x=none→H x=none:=fun x hx=>by
      cases z:H x with
      | none=>rfl
      | some o =>
       by_cases y:x=r
       ·rw [y,h1] at hx;cases hx
       ·rw [k1 x o z y] at hx;cases hx
     have np:∀ (d:PD) (H':Hp),gA CP H' m d nn l→H' nn=some (.lst [])→H' l=some (.lst [])→lS CP H H' m nn l d []:=fun d H' z1 z0 z2=>⟨free0 m hm1,free0 nn hn1,free0 l hl1,aN nlm,aN nnm,nnl,z1,z0,z2⟩
     have kk:∀ H':Hp,Kp H2 H' r→Kp H H' r:=fun H' z b o e n=>z b o (keep b o (k1 b o e n)) n
     have sq2:SqL K H2 a (bs.map bv):=bC.seq keep sq1
     obtain ⟨xm,pt'⟩:=pt
     have kg:∀ G H':Hp,bC H2 G→Kp G H' r→Kp H2 H' r:=fun G H' g z b o e n=>z b o (g b o e) n
     have done:∀ (n i u:Nat) (G H3:Hp),bC H2 G→fu CR H3 r a (p+u)→gA CP H3 m ⟨c.toNat,p,p+i,p,n,1,0,0⟩ nn l→Kp2 G H3 r m →
       Out E CF (.ok (c.toNat,n,i,u)) (fun (x:Nat×Nat×Nat×Nat)=>∀ (m n l:Addr) (H':Hp),lS CP H H' m n l ⟨x.1,p,p+x.2.2.1,p,x.2.1,1,0,0⟩ []→fu CR H' r a (p+x.2.2.2)→Kp H H' r→Q (.ref m) H')→Q (.ref m) H3:=fun n i u G H3 g rd pt3 k4 q =>
      q m nn l H3 (np _ H3 pt3 (k4 _ _ (g _ _ ns) nnr nnm) (k4 _ _ (g _ _ ls) nlr nlm)) rd fun b o e n'=>k4 b o (g b o (keep b o (k1 b o e n'))) n' (af e (free0 m hm1))
     have pass_end:∀ (n:Nat) (G:Hp),bC H2 G→Out E CF (match Sw.someOf (p+1) n (bs.drop (p+1)) with
        | .error e=>.error e
        | .ok _=>.ok (c.toNat,0,1,1+n)) (fun (x:Nat×Nat×Nat×Nat)=>∀ (m n l:Addr) (H':Hp),lS CP H H' m n l ⟨x.1,p,p+x.2.2.1,p,x.2.1,1,0,0⟩ []→fu CR H' r a (p+x.2.2.2)→Kp H H' r→Q (.ref m) H') →
       if bs.length - (p+1)<n then Err E CF (.int 1) (.int (bs.length:Int)) else ∀ H':Hp,fu CR H' r a (p+1+n)→Kp G H' r→tRet (pU 4) { nx:=fun _ H'=>Q .non H',rt:=Q } [some (.ref r),some (.int (lv:Int)),some (.int (p:Int)),some (bv c),some (.ref m)] H':=fun n G g q=>by
      by_cases cn:bs.length - (p+1)<n
      ·rw [ao cn];rw [Hm.some_no (by rw [aC];omega)] at q
       have q':Err E CF (.int 1) (.int ((p+1+(bs.drop (p+1)).length:Nat):Int)):=q
       rw [aC,show p+1+(bs.length - (p+1))=bs.length by omega] at q'
       exact q'
      ·rw [ah cn];rw [Hm.some_of (by rw [aC];omega)] at q
       intro H3 rd3 k4;exact ⟨_,rfl,done 0 1 (1+n) G H3 g (by rw [←bp];exact rd3) ⟨xm,k4 _ _ (g _ _ pt') nmr⟩ (fun b o e n1 _=>k4 b o e n1) q⟩
     refine iS (n:=2) rfl ?_
     by_cases c2:c.toNat=2
     ·rw [aq c2];rw [ao c2] at q;refine cq ⟨_,rfl,_,rfl,r,a,m,nn,l,p+1,_,bs,rfl,⟨dx1,h2⟩,sq2,⟨xm,pt'⟩,by omega,?_⟩
      dsimp only;cases en:Hm.numAt p (p+1) (bs.drop (p+1)) with
      | error e =>
       rw [en] at q;exact q
      | ok x =>
       obtain ⟨u,h⟩:=x
       rw [en] at q;intro H3 rd3 pt3 k4;have e1:p+1+u+h=p+(1+u+h):=by omega
       have e2:p+1+u=p+(1+u):=by omega
       dsimp only at rd3 pt3;rw [e1] at rd3;rw [e2] at pt3;exact ⟨_,rfl,done 0 (1+u) (1+u+h) H2 H3 (fun b o e=>e) rd3 pt3 k4 q⟩
     ·rw [ax c2];rw [ah c2] at q;refine cp ?_
      refine qX (x1:=3) (x2:=4) rfl fun t ht=>?_
      have g1:bC H2 (upd H2 t (.tup [.int 3,.int 4])):=fun b o e=>(aa (af e ht)).trans e
      by_cases c34:c.toNat=3∨c.toNat=4
      ·rw [aq c34];rw [ao c34] at q;refine cq ⟨_,rfl,_,rfl,r,a,m,nn,l,p+1,_,bs,rfl,⟨dx1,g1 _ _ h2⟩,g1.seq sq2,⟨xm,g1 _ _ pt'⟩,by omega,hz,?_⟩
       dsimp only;cases en:Hm.strAt (decide (c.toNat=4)) (p+1) (bs.drop (p+1)) with
       | error e =>
        rw [en] at q;exact q
       | ok x =>
        obtain ⟨n,u⟩:=x
        rw [en] at q;intro H3 rd3 pt3 k4;have e1:p+1+u+n=p+(1+u+n):=by omega
        have e2:p+1+u=p+(1+u):=by omega
        dsimp only at rd3 pt3;rw [e1] at rd3;rw [e2] at pt3;exact ⟨_,rfl,done n (1+u) (1+u+n) _ H3 g1 rd3 pt3 k4 q⟩
      ·rw [ax c34];rw [ah c34] at q;refine cp ?_
       refine qX (x1:=5) (x2:=6) rfl fun t2 ht2=>?_
       have g2:bC H2 (upd (upd H2 t (.tup [.int 3,.int 4])) t2 (.tup [.int 5,.int 6])):=fun b o e=>(aa (af (g1 b o e) ht2)).trans (g1 b o e)
       by_cases c56:c.toNat=5∨c.toNat=6
       ·rw [aq c56];rw [ao c56] at q;refine cq ⟨_,rfl,r,dx1,_,rfl,g2 _ _ h2,iC a (p+1) (by decide +kernel) (by decide +kernel),r,a,p+1,bs,rfl,⟨dx1,g2 _ _ h2⟩,g2.seq sq2,by omega,?_⟩
        cases en:Sw.varyOf (p+1) (bs.drop (p+1)) with
        | error e =>
         rw [en] at q;exact q
        | ok x =>
         obtain ⟨n,u⟩:=x
         rw [en] at q;rintro H3 ⟨dx3,rd3⟩ k4
         have pt3:=k4 _ _ (g2 _ _ pt') nmr
         have e2:p+1+u=p+(1+u):=by omega
         dsimp only at rd3;refine ⟨_,rfl,m,CP,xm,_,rfl,pt3,TP.cP,TP.nSi,(by show 9<1000;decide),?_⟩
         refine ⟨_,rfl,r,CR,dx3,_,_,rfl,by rw [aa (aN nmr)];exact rd3,T.cR,T.nPl,cX a _,_,rfl,m,CP,xm,_,rfl,au,TP.cP,TP.nIn,(by show 9<1000;decide),?_⟩
         refine ⟨_,rfl,done n (1+u) (1+u) _ _ g2 ⟨dx3,?_⟩ ⟨xm,?_⟩ (fun b o e n1 n2=>?_) q⟩
         ·rw [aa (aN nmr),aa (aN nmr),rd3,e2]
         ·rw [au,e2];rfl
         ·rw [aa n2,aa n2];exact k4 b o e n1
       ·rw [ax c56];rw [ah c56] at q;refine cp (iS (n:=7) rfl ?_)
        by_cases c7:c.toNat=7
        ·rw [aq c7];rw [ao c7] at q;refine cq ⟨_,rfl,r,dx1,_,rfl,g2 _ _ h2,iC a (p+1) (by decide +kernel) (by decide +kernel),r,a,p+1,8,bs,rfl,⟨dx1,g2 _ _ h2⟩,g2.seq sq2,by omega,?_⟩
         exact pass_end 8 _ g2 q
        ·rw [ax c7];rw [ah c7] at q;refine cp (iS (n:=8) rfl ?_)
         by_cases c8':c.toNat=8
         ·rw [aq c8'];rw [ao c8'] at q;refine cq ⟨_,rfl,r,dx1,_,rfl,g2 _ _ h2,iC a (p+1) (by decide +kernel) (by decide +kernel),r,a,p+1,32,bs,rfl,⟨dx1,g2 _ _ h2⟩,g2.seq sq2,by omega,?_⟩
          exact pass_end 32 _ g2 q
         ·rw [ax c8'];rw [ah c8'] at q;exact cp ⟨_,rfl,done 0 1 1 _ _ g2 ⟨dx1,g2 _ _ h2⟩ ⟨xm,g2 _ _ pt'⟩ (fun b o e _ _=>e) q⟩
def x6 (K:Fg_) (CF CR CP:Addr):Sp:=fun vs H Q E=>∃ (r a h nh lh:Addr) (lv p:Nat) (bs:List UInt8) (dh:PD) (ms:List Addr) (prev:Option (List UInt8)),vs=[.ref r,.ref h,.int (lv:Int)]∧fu CR H r a p∧SqL K H a (bs.map bv)∧p≤bs.length∧bs.length≤65536 ∧
 gA CP H h dh nh lh∧H lh=some (.lst (ms.map V.ref))∧ms.length≤65536∧(dh.kind=6→n9 CP H ms prev)∧(∀ m∈ms,m≠r) ∧
 Out E CF (Pm.memAt (decide (dh.kind=6)) prev lv p (bs.drop p)) fun (x:Nat×Nat×Nat×Nat×Nat×Nat)=>∀ (m nm lm:Addr) (H':Hp),lS CP H H' m nm lm (Pm.newD (decide (dh.kind=6)) p x) (((bs.drop (Pm.newD (decide (dh.kind=6)) p x).np).take (Pm.newD (decide (dh.kind=6)) p x).nl).map bv) →
  fu CR H' r a (p+x.2.1+x.1+x.2.2.2.2.2)→H' lh=some (.lst ((ms++[m]).map V.ref))→(∀ b o,H b=some o→b≠r→b≠lh→H' b=some o)→Q (.ref m) H'
theorem n9.same {CP:Addr} {H H':Hp} {ms:List Addr} {prev:Option (List UInt8)} (k:bC H H') (h:n9 CP H ms prev):n9 CP H' ms prev:=by
 unfold n9 at *
 cases e:ms.getLast? with
 | none=>rw [e] at h;exact h
 | some m =>
  rw [e] at h;obtain ⟨d,n,l,q,⟨dx,h1⟩,h2,h3⟩:=h
  exact ⟨d,n,l,q,⟨dx,k _ _ h1⟩,k _ _ h2,h3⟩
theorem uP {CP CR:Addr} {H G H2:Hp} {r a lh m nB lm nn xm:Addr} {xs ys nb:List V} {fs:List (Str×V)} {d0 d:PD} {o1:HO} {pp:Nat} (hl:H lh=some (.lst xs)) (sG:∀ b o,H b=some o→b≠r→G b=some o) (hr:H r=some o1)
  (nnG:G nn=some (.lst nb)) (nnH:H nn=none) (fr:∀ x,G x=none→H x=none) (np:lS CP G H2 m nB lm d0 []) (rd:fu CR H2 r a pp) (nlr:lh≠r) (k2:Kp G H2 r) :
  let Hf:=upd (upd (upd H2 m (.ins CP xm fs)) m (.ins CP xm (pf d nn lm))) lh (.lst ys)
  lS CP H Hf m nn lm d nb∧fu CR Hf r a pp∧Hf lh=some (.lst ys)∧∀ b o,H b=some o→b≠r→b≠lh→Hf b=some o:=by
 intro Hf;have nm0:=fr m np.nm
 have nl0:=fr lm np.nl
 have nmlh:lh≠m:=af hl nm0
 have nlmlh:lh≠lm:=af hl nl0
 have nnlh:lh≠nn:=af hl nnH
 have nmr:r≠m:=af hr nm0
 have nnr:r≠nn:=af hr nnH
 have nnm:nn≠m:=af nnG np.nm
 have nnlm:nn≠lm:=af nnG np.nl
 refine ⟨⟨nm0,nnH,nl0,np.ne,aN nnm,nnlm,⟨xm,?_⟩,?_,?_⟩,?_,?_,fun b o e n1 n2=>?_⟩
 ·show upd (upd (upd H2 m _) m _) lh _ m=_
  rw [aa (aN nmlh),au]
 ·show upd (upd (upd H2 m _) m _) lh _ nn=_
  rw [aa (aN nnlh),aa nnm,aa nnm];exact k2 _ _ nnG (aN nnr)
 ·show upd (upd (upd H2 m _) m _) lh _ lm=_
  rw [aa (aN nlmlh),aa (aN np.ne),aa (aN np.ne)];exact np.ls
 ·obtain ⟨dz,rz⟩:=rd
  refine ⟨dz,?_⟩
  show upd (upd (upd H2 m _) m _) lh _ r=_
  rw [aa (aN nlr),aa nmr,aa nmr];exact rz
 ·show upd (upd (upd H2 m _) m _) lh _ lh=_
  rw [au]
 ·show upd (upd (upd H2 m _) m _) lh _ b=_
  rw [aa n2,aa (af e nm0),aa (af e nm0)];exact k2 b o (sG b o e n1) n1
theorem rS:bw ["reader","holder","level","name_place","name","part"] ["reader","holder","level"] (a9 sBM):=fs_
theorem ok_BM {f fRN fBP:Addr} {fd fdN fdB:FuncData} (F:Fun K "begin_member" "begin_member" sBM f fd) (T:TxR K mg CF CR fFI) (TP:TxP K mg CP) (B:TxB mg CP)
  (GN:Co P w K mg base (CXF P w) 6 fRN fdN ["reader","holder"] (xC K CF CR CP) "read_name")
  (GB:Co P w K mg base (CXF P w) 7 fBP fdB ["reader","level"] (vm K CF CR CP) "begin_part") :
  bK P w K mg base (CXF P w) 8 f fd ["reader","holder","level"] (x6 K CF CR CP):=by
 refine okX F rS (fun vs H Q E h=>?_) (fun cdv A outer s H vs Q E hr h=>?_)
 ·obtain ⟨r,a,h,nh,lh,lv,p,bs,dh,ms,prev,rfl,_⟩:=h
  rfl
 ·obtain ⟨r,a,h,nh,lh,lv,p,bs,dh,ms,prev,rfl,⟨dx,hr1⟩,hs,hp,hz,⟨xh,hh⟩,hl,hml,hlast,hne,q⟩:=h
  have hr6:cB 6 _:=hr.mono (by decide)
  refine ⟨_,az (br (i:=3) rS.nd rfl (.inl rfl) bh)
   (az (br (i:=4) rS.nd rfl (.inl rfl) (dX aL))
   (az (bY (bo d8 (aU (pv 1) rfl) (pgi B.k6 rfl) (bA _))
    (az (br (i:=3) rS.nd rfl (.inl rfl) (cv GN hr6 rfl dC (aj (pv 0) (aj (pv 1) aL))))
     (aH (br (i:=4) rS.nd rfl (.inl rfl) (jz kr (aU (pv 0) rfl) (gJ (pv 3)) (gJ (aU (pv 0) rfl)))))) bF)
   (az (br (i:=5) rS.nd rfl (.inl rfl) (cv GB hr rfl dC (aj (pv 0) (aj (pv 2) aL))))
   (az (bN (pv 5) (pv 3) rfl)
   (az (bN (pv 5) (pv 4) rfl)
   (az (b6 (g8 a7 PySem.F.slot_list_append PySem.F.type_list_append eI (aU (pv 1) rfl) (aj (pv 5) aL)))
   (aH (b9 (pv 5))))))))),?_⟩
  try dsimp only [cY];have nhr:h≠r:=fb hh hr1 (by intro z;injection z with _ _ z3;exact aP (congrArg List.length z3) (by show ¬9=2;decide))
  have nlr:lh≠r:=fb hl hr1 (by intro z;cases z)
  have nhl:h≠lh:=fb hh hl (by intro z;cases z)
  unfold Pm.memAt at q;refine ⟨a8 _,fun n0 hn0=>?_⟩
  have s0:bC H (upd H n0 (.lst [])):=fun b o e=>(aa (af e hn0)).trans e
  refine ⟨_,rfl,fd_ (s0 _ _ hh) TP.cP TP.nKi rfl ⟨rfl,_,rfl,?_⟩⟩
  rw [fT];by_cases c6:dh.kind=6
  ·rw [aq (show (dh.kind:Int)=6 by omega)]
   rw [aq c6] at q;unfold Pm.nmAt at q;rw [ao rfl] at q;refine cq ⟨_,rfl,_,rfl,r,a,h,nh,lh,p,bs,dh,ms,prev,rfl,⟨dx,s0 _ _ hr1⟩,s0.seq hs,hp,hz,⟨xh,s0 _ _ hh⟩,s0 _ _ hl,(hlast c6).same s0,hne,?_⟩
   cases en:Hm.nameAt prev p (bs.drop p) with
   | error e =>
    rw [en] at q;exact q
   | ok x =>
    obtain ⟨k,l⟩:=x
    rw [en] at q;have nu:=Pm.name_used en
    rw [aC] at nu;rintro H1 ⟨dx1,h1⟩ k1
    have sq1:=iB (s0.seq hs) k1 (s0 _ _ hr1)
    refine ⟨_,rfl,fd_ h1 T.cR T.nRow (gW a _) ⟨_,rfl,_,rfl,_,rfl,fd_ h1 T.cR T.nPl (cX a _) ⟨_,rfl,a,_,rfl,sq1,fun n1 hn1=>?_⟩⟩⟩
    rw [ja bs (p+l) k (by omega) rfl rfl]
    have s1:bC H1 (upd H1 n1 (.lst (((bs.drop (p+l)).take k).map bv))):=fun b o e=>(aa (af e hn1)).trans e
    generalize hG:upd H1 n1 (.lst (((bs.drop (p+l)).take k).map bv))=G at s1;have nnG:G n1=some (.lst (((bs.drop (p+l)).take k).map bv)):=by rw [←hG,au]
    have fr1:∀ x,H1 x=none→H x=none:=fun x hx=>by
     cases z:H x with
     | none=>rfl
     | some o =>
      by_cases y:x=r
      ·rw [y,h1] at hx;cases hx
      ·rw [k1 x o (s0 _ _ z) y] at hx;cases hx
    have fr:∀ x,G x=none→H x=none:=fun x hx=>fr1 x (s1.free hx)
    have sG:∀ b o,H b=some o→b≠r→G b=some o:=fun b o e n=>s1 _ _ (k1 b o (s0 _ _ e) n)
    dsimp only at q;rw [bZ,←bp] at q;refine ⟨_,rfl,_,rfl,r,a,lv,p+l+k,bs,rfl,⟨dx1,s1 _ _ h1⟩,s1.seq sq1,by omega,hz,?_⟩
    cases eh:Pm.headAt lv (p+l+k) (bs.drop (p+l+k)) with
    | error e =>
     rw [eh] at q;exact q
    | ok y =>
     obtain ⟨kd,n,i,u⟩:=y
     rw [eh] at q;intro m nB lm H2 np rd2 k2;obtain ⟨xm,pt⟩:=np.pt
     have nmh:h≠m:=af hh (fr m np.nm)
     have nmlh:lh≠m:=af hl (fr m np.nm)
     have hh2:=k2 _ _ (sG _ _ hh nhr) nhr
     have hl2:=k2 _ _ (sG _ _ hl nlr) nlr
     refine ⟨_,rfl,_,rfl,m,CP,xm,_,rfl,pt,TP.cP,TP.nNp,(by show 9<1000;decide),?_⟩
     refine ⟨_,rfl,_,rfl,m,CP,xm,_,rfl,au,TP.cP,TP.nNl,(by show 9<1000;decide),?_⟩
     have hl3:upd (upd H2 m (.ins CP xm (eX "name_place" (.int ((p+l:Nat):Int)) (pf ⟨kd,p+l+k,p+l+k+i,p+l+k,n,1,0,0⟩ nB lm)))) m (.ins CP xm (eX "name" (.ref n1) (eX "name_place" (.int ((p+l:Nat):Int)) (pf ⟨kd,p+l+k,p+l+k+i,p+l+k,n,1,0,0⟩ nB lm)))) lh=some (.lst (ms.map V.ref)):=by
      rw [aa nmlh,aa nmlh];exact hl2
     refine ⟨_,rfl,h,CP,xh,_,.ref lh,rfl,by rw [aa nmh,aa nmh];exact hh2,TP.cP,TP.nMe,rfl,.inl ⟨rfl,_,SqL.of hl3⟩,_,rfl,lh,_,_,rfl,rfl,hl3,(by rw [ae];exact gD hml (by decide)),?_⟩
     obtain ⟨z1,z2,z3,z4⟩:=uP (d:=Pm.newD true p (k,l,kd,n,i,u)) (xm:=xm) (fs:=eX "name_place" (.int ((p+l:Nat):Int)) (pf ⟨kd,p+l+k,p+l+k+i,p+l+k,n,1,0,0⟩ nB lm)) (ys:=ms.map V.ref++[V.ref m]) hl sG hr1 nnG (fr1 n1 hn1) fr np rd2 nlr k2
     refine ⟨_,rfl,q m n1 lm _ z1 z2 (z3.trans ?_) z4⟩
     rw [aO];rfl
  ·rw [ax (show ¬(dh.kind:Int)=6 by omega)]
   rw [ax c6] at q;unfold Pm.nmAt at q;rw [ah aS] at q;dsimp only at q;refine cp ?_
   have nnG:upd H n0 (.lst []) n0=some (.lst []):=au
   generalize upd H n0 (.lst [])=G at s0 nnG;have fr:∀ x,G x=none→H x=none:=fun x hx=>s0.free hx
   have sG:∀ b o,H b=some o→b≠r→G b=some o:=fun b o e _=>s0 b o e
   rw [eQ,show p+0+0=p from rfl] at q;refine ⟨_,rfl,_,rfl,r,a,lv,p,bs,rfl,⟨dx,s0 _ _ hr1⟩,s0.seq hs,by omega,hz,?_⟩
   cases eh:Pm.headAt lv (p) (bs.drop (p)) with
   | error e =>
    rw [eh] at q;exact q
   | ok y =>
    obtain ⟨kd,n,i,u⟩:=y
    rw [eh] at q;intro m nB lm H2 np rd2 k2;obtain ⟨xm,pt⟩:=np.pt
    have nmh:h≠m:=af hh (fr m np.nm)
    have nmlh:lh≠m:=af hl (fr m np.nm)
    have hh2:=k2 _ _ (sG _ _ hh nhr) nhr
    have hl2:=k2 _ _ (sG _ _ hl nlr) nlr
    refine ⟨_,rfl,_,rfl,m,CP,xm,_,rfl,pt,TP.cP,TP.nNp,(by show 9<1000;decide),?_⟩
    refine ⟨_,rfl,_,rfl,m,CP,xm,_,rfl,au,TP.cP,TP.nNl,(by show 9<1000;decide),?_⟩
    have hl3:upd (upd H2 m (.ins CP xm (eX "name_place" (.int 0) (pf ⟨kd,p,p+i,p,n,1,0,0⟩ nB lm)))) m (.ins CP xm (eX "name" (.ref n0) (eX "name_place" (.int 0) (pf ⟨kd,p,p+i,p,n,1,0,0⟩ nB lm)))) lh=some (.lst (ms.map V.ref)):=by
     rw [aa nmlh,aa nmlh];exact hl2
    refine ⟨_,rfl,h,CP,xh,_,.ref lh,rfl,by rw [aa nmh,aa nmh];exact hh2,TP.cP,TP.nMe,rfl,.inl ⟨rfl,_,SqL.of hl3⟩,_,rfl,lh,_,_,rfl,rfl,hl3,(by rw [ae];exact gD hml (by decide)),?_⟩
    obtain ⟨z1,z2,z3,z4⟩:=uP (d:=Pm.newD false p (0,0,kd,n,i,u)) (xm:=xm) (fs:=eX "name_place" (.int 0) (pf ⟨kd,p,p+i,p,n,1,0,0⟩ nB lm)) (ys:=ms.map V.ref++[V.ref m]) hl sG hr1 nnG hn0 fr np rd2 nlr k2
    refine ⟨_,rfl,q m n0 lm _ z1 z2 (z3.trans ?_) z4⟩
    rw [aO];rfl
def sf (bs:List UInt8) (d:PD):List V:=((bs.drop d.np).take d.nl).map bv
mutual
inductive j7 (CP:Addr) (bs:List UInt8) (H:Hp):Addr→PT→Prop
 | mk {a n l:Addr} {as:List Addr} {d:PD} {ms:List PT}:gA CP H a d n l→H n=some (.lst (sf bs d))→H l=some (.lst (as.map V.ref))→TrsOk CP bs H as ms→j7 CP bs H a (.node d ms)
inductive TrsOk (CP:Addr) (bs:List UInt8) (H:Hp):List Addr→List PT→Prop
 | nil:TrsOk CP bs H [] []
 | cons {a:Addr} {as:List Addr} {t:PT} {ts:List PT}:j7 CP bs H a t→TrsOk CP bs H as ts→TrsOk CP bs H (a::as) (t::ts)
end
mutual
theorem j7.same {CP:Addr} {bs:List UInt8} {H H':Hp} (k:bC H H'):∀ {a:Addr} {t:PT},j7 CP bs H a t→j7 CP bs H' a t
 | _,_,.mk ⟨dx,h1⟩ h0 h2 h3=>.mk ⟨dx,k _ _ h1⟩ (k _ _ h0) (k _ _ h2) (h3.same k)
theorem TrsOk.same {CP:Addr} {bs:List UInt8} {H H':Hp} (k:bC H H'):∀ {as:List Addr} {ts:List PT},TrsOk CP bs H as ts→TrsOk CP bs H' as ts
 | _,_,.nil=>.nil
 | _,_,.cons h1 h2=>.cons (h1.same k) (h2.same k)
end
theorem TrsOk.len {CP:Addr} {bs:List UInt8} {H:Hp}:∀ {as:List Addr} {ts:List PT},TrsOk CP bs H as ts→as.length=ts.length
 | _,_,.nil=>rfl
 | _,_,.cons _ h=>by rw [aE,aE,h.len]
theorem TrsOk.get {CP:Addr} {bs:List UInt8} {H:Hp}:∀ {as:List Addr} {ts:List PT},TrsOk CP bs H as ts→∀ {j:Nat} {a:Addr},as[j]? = some a→∃ t,ts[j]? = some t∧j7 CP bs H a t
 | _,_,.nil,j,a,e=>by simp at e
 | _,_,.cons (a:=a0) (t:=t0) h1 h2,0,a,e=>by
  have e:some a0=some a:=e
  injection e with e;subst e;exact ⟨t0,rfl,h1⟩
 | _,_,.cons h1 h2,j+1,a,e=>h2.get e
theorem TrsOk.snoc {CP:Addr} {bs:List UInt8} {H:Hp} {a:Addr} {t:PT} (h:j7 CP bs H a t):∀ {as:List Addr} {ts:List PT},TrsOk CP bs H as ts→TrsOk CP bs H (as++[a]) (ts++[t])
 | _,_,.nil=>.cons h .nil
 | _,_,.cons h1 h2=>.cons h1 (h2.snoc h)
theorem j7.pt {CP:Addr} {bs:List UInt8} {H:Hp} {a:Addr} {t:PT} (h:j7 CP bs H a t):∃ n l,gA CP H a t.d n l∧H n=some (.lst (sf bs t.d)):=by
 cases h with
 | mk h1 h0 _ _=>exact ⟨_,_,h1,h0⟩
structure SF where
 a:Addr
 n:Addr
 l:Addr
 as:List Addr
 d:PD
 mem:List PT
structure qx (CP:Addr) (p:Nat) (bs:List UInt8) (G D:Hp) (s:SF) (ch:List Addr):Prop where
 pt:gA CP G s.a s.d s.n s.l
 nm:D s.n=some (.lst (sf bs s.d))
 ls:G s.l=some (.lst ((s.as++ch).map V.ref))
 mem:TrsOk CP bs D s.as s.mem
 bd:s.as.length+ch.length+1≤p
 dp:1≤s.d.depth
def pE (CP:Addr) (p:Nat) (bs:List UInt8) (G D:Hp):List Addr→List SF→Prop
 | _,[]=>True
 | ch,s::r=>qx CP p bs G D s ch∧pE CP p bs G D [s.a] r
theorem qx.keep {CP:Addr} {p p':Nat} {bs:List UInt8} {G G' D D':Hp} {s:SF} {ch:List Addr} (f:qx CP p bs G D s ch) (hp:p≤p') (hd:bC D D') (ha:∀ o,G s.a=some o→G' s.a=some o) (hl:∀ o,G s.l=some o→G' s.l=some o):qx CP p' bs G' D' s ch:=by
 refine ⟨?_,hd _ _ f.nm,hl _ f.ls,f.mem.same hd,bH f.bd hp,f.dp⟩
 obtain ⟨dx,h⟩:=f.pt
 exact ⟨dx,ha _ h⟩
theorem pE.keep {CP:Addr} {p p':Nat} {bs:List UInt8} {G G' D D':Hp} (hp:p≤p') (hd:bC D D'):∀ {st:List SF} {ch:List Addr},pE CP p bs G D ch st →
  (∀ s∈st,(∀ o,G s.a=some o→G' s.a=some o)∧(∀ o,G s.l=some o→G' s.l=some o))→pE CP p' bs G' D' ch st
 | [],_,_,_=>trivial
 | s::r,ch,h,k=>by
  obtain ⟨h1,h2⟩:=h
  obtain ⟨k1,k2⟩:=k s (by simp)
  exact ⟨h1.keep hp hd k1 k2,pE.keep hp hd h2 fun s' hs=>k s' (by simp [hs])⟩
theorem pE.fr {CP:Addr} {p:Nat} {bs:List UInt8} {G D:Hp}:∀ {st:List SF} {ch:List Addr},pE CP p bs G D ch st→∀ s∈st,∃ ch',qx CP p bs G D s ch'
 | [],_,_,s,hs=>by simp at hs
 | s0::r,ch,h,s,hs=>by
  rcases aF.mp hs with rfl | hs
  ·exact ⟨ch,h.1⟩
  ·exact h.2.fr s hs
structure Dist (H D:Hp) (g:Addr) (st:List SF):Prop where
 na:(st.map (·.a)).Nodup
 nl:(st.map (·.l)).Nodup
 ng:∀ s∈st,s.l≠g
 da:∀ s∈st,D s.a=none∧D s.l=none
 f0:∀ s∈st,H s.a=none∧H s.l=none
theorem dE {CP:Addr} {G:Hp} {a n l b:Addr} {d:PD} {xs:List V} (h:gA CP G a d n l) (h':G b=some (.lst xs)):a≠b:=by
 obtain ⟨dx,h⟩:=h
 exact fb h h' (by intro z;cases z)
theorem jy {CP CR:Addr} {G:Hp} {a n l r b:Addr} {d:PD} {p:Nat} (h:gA CP G a d n l) (h':fu CR G r b p):a≠r:=by
 obtain ⟨dx,h⟩:=h
 obtain ⟨dy,h'⟩:=h'
 exact fb h h' (by intro z;injection z with _ _ z3;exact aP (congrArg List.length z3) (by show ¬9=2;decide))
theorem g9 {CR:Addr} {G:Hp} {a r b:Addr} {xs:List V} {p:Nat} (h:G a=some (.lst xs)) (h':fu CR G r b p):a≠r:=by
 obtain ⟨dy,h'⟩:=h'
 exact fb h h' (by intro z;cases z)
def qM (st:List SF):List (PD×List PT):=st.map fun s=>(s.d,s.mem)
structure Turn (CP CR:Addr) (H G D:Hp) (r a aw g:Addr) (bs:List UInt8) (R:Except Sw.Fault (PT×Nat)) (n p:Nat) (s:SF) (rest:List SF):Prop where
 lst:G g=some (.lst (((s::rest).map (·.a)).reverse.map V.ref))
 st:pE CP p bs G D [] (s::rest)
 ds:Dist H D g (s::rest)
 bot:((s::rest).map (·.a)).getLast? = some aw
 run:Pm.fin bs (qM rest) s.d s.mem p=R
 ms:n=2*(bs.length - p)+(s::rest).length
 dep:(s::rest).length≤p
 dn:bC D G
 dg:D g=none
 dr:D r=none
structure Base (CR:Addr) (H G:Hp) (r a:Addr) (p:Nat) (bs:List UInt8):Prop where
 same:bC H G
 rd:fu CR G r a p
 le:p≤bs.length
theorem uq {named:Bool} {prev:Option (List UInt8)} {lv p:Nat} {bs:List UInt8} {x:Nat×Nat×Nat×Nat×Nat×Nat} (h:Pm.memAt named prev lv p (bs.drop p) = .ok x) (hp:p≤bs.length) :
  p+x.2.1+x.1+x.2.2.2.2.2≤bs.length∧1≤x.2.2.2.2.2:=by
 unfold Pm.memAt at h;cases en:Pm.nmAt named prev p (bs.drop p) with
 | error e=>rw [en] at h;cases h
 | ok y =>
  obtain ⟨k,l⟩:=y
  rw [en] at h;have n1:=Pm.nm_used en
  rw [aC] at n1;dsimp only at h;cases eh:Pm.headAt lv (p+l+k) ((bs.drop p).drop (l+k)) with
  | error e=>rw [eh] at h;cases h
  | ok z =>
   obtain ⟨kd,n,i,u⟩:=z
   rw [eh] at h;have h1:=Pm.head_used eh
   rw [aC,aC] at h1;injection h with h;subst h;dsimp only;omega
theorem rW {CP:Addr} {p:Nat} {G D G1:Hp} {bs:List UInt8} {s:SF} {ch:List Addr} (f:qx CP p bs G D s ch) (k:bC D G1):n9 CP G1 s.as (Pm.prevOf bs s.mem):=by
 unfold n9 Pm.prevOf;have l1:=f.mem.len
 rw [eW,eW,←l1];cases e:s.as[s.as.length - 1]? with
 | none =>
  have l0:=bL.mp e
  rw [bL.mpr (by omega)]
 | some x =>
  obtain ⟨t,e2,h⟩:=f.mem.get e
  rw [e2];obtain ⟨n',l',⟨dx,h'⟩,hn⟩:=h.pt
  exact ⟨t.d,n',l',_,⟨dx,k _ _ h'⟩,k _ _ hn,rfl⟩
def xA (K:Fg_) (CF CP:Addr):Sp:=fun vs H Q E=>∃ (a:Addr) (bs:List UInt8),vs=[.ref a]∧SqL K H a (bs.map bv)∧bs.length≤65536 ∧
 Out E CF (Pm.wholeAt bs) fun (t:PT)=>∀ (aw:Addr) (H':Hp),j7 CP bs H' aw t→bC H H'→Q (.ref aw) H'
section
variable {P:Program} {w:World} {K:Fg_} {mg:Str→Option Value} {base:Heap} {CF CR CP fFI:Addr}
theorem tL:bw ["row","reader","whole","begun","part"] ["row"] (a9 sRW):=fs_
theorem ok_RW {f fRI fBP fLM fBM fDP:Addr} {fd fdI fdR fdB fdL fdM fdD:FuncData} (F:Fun K "read_whole" "read_whole" sRW f fd) (T:TxR K mg CF CR fFI) (TP:TxP K mg CP) (mRd:mg "Reader" = some (.ref CR)) (e8:GI mg "BYTES_BEHIND" 8)
  (GI:bK P w K mg base CX0 1 fFI fdI ["self","kind","place"] (jK CF)) (bI:bT K fdI ["self","kind","place"] [])
  (M:Mk K CR fRI) (GR:bK P w K mg base CX0 1 fRI fdR ["self","row"] (xD CR)) (bR:bT K fdR ["self","row"] [])
  (GB:Co P w K mg base (CXF P w) 7 fBP fdB ["reader","level"] (vm K CF CR CP) "begin_part")
  (GL:Co P w K mg base CX0 1 fLM fdL ["part"] (xS CP) "lacks_members")
  (GM:Co P w K mg base (CXF P w) 8 fBM fdM ["reader","holder","level"] (x6 K CF CR CP) "begin_member")
  (GD:Co P w K mg base CX0 1 fDP fdD ["holder","part"] (xZ CP) "deepen") :
  bK P w K mg base (CXF P w) 9 f fd ["row"] (xA K CF CP):=by
 refine okX F tL (fun vs H Q E h=>?_) (fun cdv A outer s H vs Q E hr h=>?_)
 ·obtain ⟨a,bs,rfl,_⟩:=h
  rfl
 ·obtain ⟨a,bs,rfl,hs,hz,q⟩:=h
  have hr1:cB 1 _:=hr.mono (by decide)
  have hr2:cB 2 _:=hr.mono (by decide)
  have hr7:cB 7 _:=hr.mono (by decide)
  refine ⟨_,az (br (i:=1) tL.nd rfl (.inl rfl) (gn M GR hr2 rfl mRd bR .nil cM (aj (pv 0) aL)))
   (az (br (i:=2) tL.nd rfl (.inl rfl) (cv GB hr7 rfl dC (aj (pv 1) (aj bh aL))))
   (az (br (i:=3) tL.nd rfl (.inl rfl) (dX (aj (pv 2) aL)))
   (az (gy PassesOwn.leaving (cN (pv 3) (fun _=>rfl))
    (az (br (i:=4) tL.nd rfl (.inl rfl) (cK bM (pv 3) (kZ ji bh) (fun _ _=>rfl)))
    (aH (bY (cN (cv GL hr1 rfl cM (aj (pv 4) aL)) (fun _=>rfl))
     (aH (b6 (g8 a7 PySem.F.slot_list_append PySem.F.type_list_append eI (pv 3) (aj (cv GM hr rfl dC
      (aj (pv 1) (aj (pv 4) (aj (fH ir (di eo (by rfl) T.len b8 (aj (pv 3) aL)) bh) aL)))) aL))))
     (az (bN (pv 4) (aU (pv 1) rfl) rfl)
     (az (b6 (jk a7 PySem.F.slot_list_pop PySem.F.type_list_pop lu (pv 3)))
     (aH (bY (cN (pv 3) (fun _=>rfl)) (aH (b6 (cv GD hr1 rfl cM (aj (cK bM (pv 3) (kZ ji bh) (fun _ _=>rfl)) (aj (pv 4) aL))))) bF))))))))
   (az (bY (bo kf (aU (pv 1) rfl) (di eo (by rfl) T.len b8 (aj (pv 0) aL)) (bA _))
    (aH (dQ T.xc GI bI hr2 ck rfl rfl T.mF (aj (pgi e8 rfl) (aj (aU (pv 1) rfl) aL)))) bF)
   (aH (b9 (pv 2))))))),?_⟩
  try dsimp only [cY];refine ⟨_,rfl,fun r dr nr ndr nedr=>⟨r,dr,a,rfl,au,fun H1 rd1 k1=>⟨rfl,?_⟩⟩⟩
  have s1:bC H H1:=bC.made nr ndr k1
  refine ⟨_,rfl,r,a,1,0,bs,rfl,rd1,s1.seq hs,a8 _,hz,?_⟩
  rw [eQ];unfold Pm.wholeAt at q;cases eh:Pm.headAt 1 0 bs with
  | error e =>
   rw [eh] at q;exact q
  | ok x =>
   obtain ⟨k0,n0,i0,u0⟩:=x
   rw [eh] at q;dsimp only at q;obtain ⟨hu1,hu2,_⟩:=Pm.head_used eh
   rintro m nw l H2 ⟨nm,nn,nl,nml,nmn,nnl,⟨xm,pt⟩,ns,ls⟩ rd2 k2
   dsimp only at pt rd2;rw [dA] at pt;refine ⟨_,rfl,(by show 1≤sizeLine;decide),fun g hg=>?_⟩
   have s2:bC H H2:=fun b o e=>k2 b o (s1 b o e) (af e nr)
   have s3:bC H2 (upd H2 g (.lst [.ref m])):=fun b o e=>(aa (af e hg)).trans e
   have nlg:l≠g:=af ls hg
   have nng:nw≠g:=af ns hg
   have nnr:nw≠r:=fun z=>by obtain ⟨dz,hz1⟩:=rd1;rw [z,hz1] at nn;cases nn
   have ngH:H g=none:=s2.free hg
   generalize hR:Pm.fin bs [] ⟨k0,0,i0,0,n0,1,0,0⟩ [] u0=R at q;refine ⟨fun n σ G=>∃ v4,σ=[some (.ref a),some (.ref r),some (.ref m),some (.ref g),v4]∧∃ p,Base CR H G r a p bs∧((∃ D s rest,Turn CP CR H G D r a m g bs R n p s rest)∨(G g=some (.lst [])∧∃ t,R = .ok (t,p)∧j7 CP bs G m t)),⟨2*(bs.length - u0)+1,?_⟩,?_⟩
   ·refine ⟨none,rfl,u0,⟨s2.trans s3,?_,hu2⟩,.inl ⟨upd (fun _=>none) nw (.lst []),⟨m,nw,l,[],⟨k0,0,i0,0,n0,1,0,0⟩,[]⟩,[],⟨au,⟨?_,trivial⟩,?_,rfl,hR,rfl,hu1,?_,by rw [aa (aN nng)],by rw [aa (aN nnr)]⟩⟩⟩
    ·obtain ⟨dz,rz⟩:=rd2
     exact ⟨dz,s3 _ _ (by rw [rz,dA])⟩
    ·exact ⟨⟨xm,s3 _ _ pt⟩,au,s3 _ _ ls,.nil,hu1,aI 1⟩
    ·exact ⟨by simp,by simp,fun s hs=>by rw [aJ.mp hs];exact nlg,fun s hs=>by rw [aJ.mp hs];exact ⟨by rw [aa nmn],by rw [aa (aN nnl)]⟩,
      fun s hs=>by rw [aJ.mp hs];exact ⟨s1.free nm,s1.free nl⟩⟩
    ·intro y o e;by_cases yn:y=nw
     ·rw [yn,au] at e;rw [yn,←e];exact s3 _ _ ns
     ·rw [aa yn] at e;cases e
   ·rintro n σ G ⟨v4,rfl,p,B,hcase⟩
    rcases hcase with ⟨D,s,rest,T0⟩ | ⟨hgl,t,eR,hw⟩
    ·
     obtain ⟨hf,hrest⟩:=T0.st
     obtain ⟨xs,hpt⟩:=hf.pt
     have hls:G s.l=some (.lst (s.as.map V.ref)):=by
      have:=hf.ls
      rw [dw] at this;exact this
     have egl:(((s::rest).map (·.a)).reverse.map V.ref)=((rest.map (·.a)).reverse.map V.ref)++[V.ref s.a]:=by
      rw [ba,cE,aO];rfl
     have hgl:=T0.lst
     refine ⟨_,rfl,_,.inl ⟨_,SqL.of hgl,rfl⟩,?_⟩
     rw [show (!(((s::rest).map (·.a)).reverse.map V.ref).isEmpty)=true by rw [egl];simp]
     refine cq ⟨_,fun σ' G' h=>h,?_⟩
     refine ⟨_,rfl,_,rfl,g,_,_,V.ref s.a,rfl,rfl,SqL.of hgl,by rw [egl];exact jH _ _,?_⟩
     refine ⟨_,rfl,s.a,s.n,s.l,s.d,s.as,rfl,⟨xs,hpt⟩,hls,fun G1 sm=>⟨_,rfl,?_⟩⟩
     have hlenH:∀ {x:Addr},G1 x=none→G x=none:=fun h=>sm.free h
     by_cases hc:(s.d.kind=5∨s.d.kind=6)∧s.as.length<s.d.size
     ·
      rw [aq hc];have hneed:s.mem.length<Pm.need s.d:=by
       unfold Pm.need;rw [ao hc.1,←hf.mem.len];exact hc.2
      have hpush:=Pm.fin_push bs (qM rest) s.d s.mem p hneed
      rw [T0.run,show (qM rest).length=rest.length from ae ..] at hpush;have ngr:g≠r:=g9 hgl B.rd
      have ngl:g≠s.l:=aN (T0.ds.ng s (by simp))
      have nar:s.a≠r:=jy ⟨xs,hpt⟩ B.rd
      have rd1':fu CR G1 r a p:=let ⟨z,hz'⟩:=B.rd;⟨z,sm _ _ hz'⟩
      have elv:((((s::rest).map (·.a)).reverse.map V.ref).length:Int)+1=((rest.length+2:Nat):Int):=by
       rw [ae,cT,ae,aE];omega
      refine cq ⟨_,rfl,.inl ⟨rfl,_,SqL.of (sm _ _ hgl)⟩,_,rfl,_,rfl,_,rfl,g,_,rfl,.inl (SqL.of (sm _ _ hgl)),_,_,rfl,rfl,r,a,s.a,s.n,s.l,rest.length+2,p,bs,s.d,s.as,Pm.prevOf bs s.mem,congrArg (fun z=>[V.ref r,V.ref s.a,V.int z]) elv,rd1',(B.same.trans sm).seq hs,B.le,hz,⟨xs,sm _ _ hpt⟩,sm _ _ hls,?_,fun _=>rW hf (T0.dn.trans sm),?_,?_⟩
      ·have:=hf.bd
       have:=B.le
       simp only [dO] at *;omega
      ·intro y hy;obtain ⟨j,hj⟩:=eP hy
       obtain ⟨t,_,ht⟩:=hf.mem.get hj
       obtain ⟨n',l',⟨dx',hx'⟩,_⟩:=ht.pt
       exact af hx' T0.dr
      ·cases em:Pm.memAt (decide (s.d.kind=6)) (Pm.prevOf bs s.mem) (rest.length+2) p (bs.drop p) with
       | error e =>
        have em':Pm.memAt (Pm.isRec s.d) (Pm.prevOf bs s.mem) (rest.length+2) p (bs.drop p) = .error e:=em
        rw [em'] at hpush;rw [hpush] at q;exact q
       | ok x =>
        have em':Pm.memAt (Pm.isRec s.d) (Pm.prevOf bs s.mem) (rest.length+2) p (bs.drop p) = .ok x:=em
        rw [em'] at hpush;obtain ⟨mu1,mu2⟩:=uq em B.le
        intro m' nw' lm G2 np rd2' hlh kk
        have hg1:=sm _ _ hgl
        have hg2:=kk g _ hg1 ngr ngl
        have nmg:m'≠g:=fun z=>by rw [←z,np.nm] at hg1;cases hg1
        have nlmg:lm≠g:=fun z=>by rw [←z,np.nl] at hg1;cases hg1
        have nnmg:nw'≠g:=fun z=>by rw [←z,np.nn] at hg1;cases hg1
        have hdep:=T0.dep
        have hle:=B.le
        refine ⟨g,_,_,rfl,rfl,hg2,by rw [ae,cT,ae];exact gD (bH hdep (bH hle hz)) (by decide),?_⟩
        generalize hG3:upd G2 g (.lst ((((s::rest).map (·.a)).reverse.map V.ref)++[V.ref m']))=G3;have stay:∀ y o,G y=some o→y≠r→y≠s.l→y≠g→G3 y=some o:=fun y o e h1 h2 h3=>by
         rw [←hG3,aa h3];exact kk y o (sm y o e) h1 h2
        have pstay:∀ y d n' l',gA CP G y d n' l'→∀ o,G y=some o→G3 y=some o:=fun y d n' l' hp o e=>stay y o e (jy hp B.rd) (dE hp hls) (dE hp hgl)
        have dn3:bC D G3:=fun y o e=>stay y o (T0.dn y o e) (af e T0.dr) (af e (T0.ds.da s (by simp)).2) (af e T0.dg)
        have trk:∀ s'∈s::rest,∃ ch',qx CP p bs G D s' ch':=T0.st.fr
        have newne:∀ {y:Addr} {o:HO},G y=some o→y≠m':=fun e z=>by
         have:=sm _ _ e
         rw [z,np.nm] at this;cases this
        have newnl:∀ {y:Addr} {o:HO},G y=some o→y≠lm:=fun e z=>by
         have:=sm _ _ e
         rw [z,np.nl] at this;cases this
        have newnn:∀ {y:Addr} {o:HO},G y=some o→y≠nw':=fun e z=>by
         have:=sm _ _ e
         rw [z,np.nn] at this;cases this
        generalize hD':upd D nw' (.lst (sf bs (Pm.newD (decide (s.d.kind=6)) p x)))=D';have Dnw:D nw'=none:=(T0.dn.trans sm).free np.nn
        have sD:bC D D':=fun y o e=>by rw [←hD',aa (af e Dnw)];exact e
        have Dn:∀ y,y≠nw'→D y=none→D' y=none:=fun y h1 h2=>by rw [←hD',aa h1];exact h2
        have hnw3:G3 nw'=some (.lst (sf bs (Pm.newD (decide (s.d.kind=6)) p x))):=by rw [←hG3,aa nnmg];exact np.ns
        have dn3':bC D' G3:=fun y o e=>by
         by_cases yn:y=nw'
         ·rw [yn,←hD',au] at e;rw [yn,←e];exact hnw3
         ·rw [←hD',aa yn] at e;exact dn3 y o e
        refine ⟨2*(bs.length - (p+x.2.1+x.1+x.2.2.2.2.2))+(rest.length+2),by rw [T0.ms,aE];omega,_,rfl,p+x.2.1+x.1+x.2.2.2.2.2,⟨fun b o e=>?_,?_,mu1⟩,
         .inl ⟨D',⟨m',nw',lm,[],Pm.newD (decide (s.d.kind=6)) p x,[]⟩,s::rest,⟨?_,⟨?_,?_,?_⟩,?_,?_,hpush.symm,by rw [aE,aE],by rw [aE,aE] at *;omega,dn3',Dn _ (aN nnmg) T0.dg,Dn _ (let ⟨z,hz'⟩:=B.rd;newnn hz') T0.dr⟩⟩⟩
        ·exact stay b o (B.same b o e) (af e nr) (af e (T0.ds.f0 s (by simp)).2) (af e ngH)
        ·obtain ⟨dz,rz⟩:=rd2'
         exact ⟨dz,by rw [←hG3,aa (aN ngr)];exact rz⟩
        ·rw [←hG3,au,ba (l:=s::rest),cE,aO]
         rfl
        ·obtain ⟨dz,pz⟩:=np.pt
         exact ⟨⟨dz,by rw [←hG3,aa nmg];exact pz⟩,by rw [←hD',au],by rw [←hG3,aa nlmg];exact np.ls,.nil,by show 0+0+1≤_;omega,aI 1⟩
        ·refine ⟨⟨xs,pstay _ _ _ _ ⟨xs,hpt⟩ _ hpt⟩,sD _ _ hf.nm,by rw [←hG3,aa (aN ngl)];exact hlh,hf.mem.same sD,?_,hf.dp⟩
         have:=hf.bd
         simp only [dO,dJ] at *;omega
        ·refine hrest.keep (by omega) sD fun s' hs'=>?_
         obtain ⟨ch',f'⟩:=trk s' (by simp [hs'])
         refine ⟨fun o e=>pstay _ _ _ _ f'.pt o e,fun o e=>stay _ o e (g9 f'.ls B.rd) ?_ (T0.ds.ng s' (by simp [hs']))⟩
         have nd:=T0.ds.nl
         rw [ba,bE] at nd;exact fun z=>nd.1 (z▸d9 hs')
        ·refine ⟨?_,?_,fun s' hs'=>?_,fun s' hs'=>?_,fun s' hs'=>?_⟩
         ·rw [ba,bE];refine ⟨fun hm=>?_,T0.ds.na⟩
          obtain ⟨s',hs',e'⟩:=gv.mp hm
          obtain ⟨ch',f'⟩:=trk s' hs'
          obtain ⟨dz,pz⟩:=f'.pt
          exact newne pz e'
         ·rw [ba,bE];refine ⟨fun hm=>?_,T0.ds.nl⟩
          obtain ⟨s',hs',e'⟩:=gv.mp hm
          obtain ⟨ch',f'⟩:=trk s' hs'
          exact newnl f'.ls e'
         ·rcases aF.mp hs' with rfl | hs'
          ·exact nlmg
          ·exact T0.ds.ng s' hs'
         ·rcases aF.mp hs' with rfl | hs'
          ·exact ⟨Dn _ np.nmn ((T0.dn.trans sm).free np.nm),Dn _ (aN np.nnl) ((T0.dn.trans sm).free np.nl)⟩
          ·obtain ⟨ch',f'⟩:=trk s' hs'
           obtain ⟨dz,pz⟩:=f'.pt
           exact ⟨Dn _ (newnn pz) (T0.ds.da s' hs').1,Dn _ (newnn f'.ls) (T0.ds.da s' hs').2⟩
         ·rcases aF.mp hs' with rfl | hs'
          ·exact ⟨(B.same.trans sm).free np.nm,(B.same.trans sm).free np.nl⟩
          ·exact T0.ds.f0 s' hs'
        ·have:=T0.bot
         rw [ba] at this;rw [ba,ba,fD];exact this
     ·
      rw [ax hc];have hneed:Pm.need s.d≤s.mem.length:=by
       unfold Pm.need;rw [←hf.mem.len];by_cases hk:s.d.kind=5∨s.d.kind=6
       ·rw [ao hk];exact ij fun z=>hc ⟨hk,z⟩
       ·rw [ah hk];exact a8 _
      have hpop:=Pm.fin_pop bs (qM rest) s.d s.mem p hneed hf.dp
      rw [T0.run] at hpop;obtain ⟨dr2,hrd⟩:=B.rd
      have nar:s.a≠r:=jy ⟨xs,hpt⟩ B.rd
      have nag:s.a≠g:=dE ⟨xs,hpt⟩ hgl
      have nal:s.a≠s.l:=dE ⟨xs,hpt⟩ hls
      refine cp ⟨_,rfl,r,CR,dr2,_,_,rfl,sm _ _ hrd,T.cR,T.nPl,cX a p,_,rfl,s.a,CP,xs,_,rfl,sm _ _ hpt,TP.cP,TP.nEn,(by show 9<1000;decide),?_⟩
      generalize hG2:upd G1 s.a (.ins CP xs (eX "end" (.int (p:Int)) (pf s.d s.n s.l)))=G2;have hpt2:G2 s.a=some (.ins CP xs (pf { s.d with fin:=p } s.n s.l)):=by rw [←hG2,au];rfl
      have st2:∀ y o,G y=some o→y≠s.a→G2 y=some o:=fun y o e h=>by rw [←hG2,aa h];exact sm y o e
      have hg2:=st2 g _ hgl (aN nag)
      refine ⟨_,rfl,.inl ⟨rfl,_,SqL.of hg2⟩,g,_,V.ref s.a,rfl,rfl,hg2,by rw [egl,aG,dJ,eC];simp,?_⟩
      rw [egl,dU];generalize hG3:upd G2 g (.lst ((rest.map (·.a)).reverse.map V.ref))=G3;have hg3:G3 g=some (.lst ((rest.map (·.a)).reverse.map V.ref)):=by rw [←hG3,au]
      have st3:∀ y o,G y=some o→y≠s.a→y≠g→G3 y=some o:=fun y o e h1 h2=>by rw [←hG3,aa h2];exact st2 y o e h1
      have hpt3:G3 s.a=some (.ins CP xs (pf { s.d with fin:=p } s.n s.l)):=by rw [←hG3,aa nag];exact hpt2
      have sameG3:bC H G3:=fun b o e=>st3 b o (B.same b o e) (af e (T0.ds.f0 s (by simp)).1) (af e ngH)
      have dn3:bC D G3:=fun y o e=>st3 y o (T0.dn y o e) (af e (T0.ds.da s (by simp)).1) (af e T0.dg)
      have hls3:G3 s.l=some (.lst (s.as.map V.ref)):=st3 _ _ hls (aN nal) (T0.ds.ng s (by simp))
      refine ⟨_,rfl,_,.inl ⟨_,SqL.of hg3,rfl⟩,?_⟩
      cases rest with
      | nil =>
       refine cp ⟨0,by rw [T0.ms,aE];omega,_,rfl,p,⟨sameG3,⟨dr2,st3 _ _ hrd (aN nar) (aN (g9 hgl B.rd))⟩,B.le⟩,.inr ⟨hg3,.node { s.d with fin:=p } s.mem,hpop,?_⟩⟩
       have hb:some s.a=some m:=T0.bot
       injection hb with hb;subst hb;exact .mk ⟨xs,hpt3⟩ (dn3 _ _ hf.nm) hls3 (hf.mem.same dn3)
      | cons s2 rest2 =>
       obtain ⟨hf2,hrest2⟩:=hrest
       obtain ⟨xs2,hpt_2⟩:=hf2.pt
       have nd:=T0.ds.na
       rw [ba,bE] at nd;have nd2:=nd.2
       rw [ba,bE] at nd2;have n12:s2.a≠s.a:=fun z=>nd.1 (z▸by simp)
       have n2g:s2.a≠g:=dE ⟨xs2,hpt_2⟩ hgl
       have hpt_23:=st3 _ _ hpt_2 n12 n2g
       rw [show (!((((s2::rest2).map (·.a)).reverse.map V.ref)).isEmpty)=true by rw [ba,cE,aO];simp]
       refine cq ⟨_,rfl,_,rfl,g,_,_,V.ref s2.a,rfl,rfl,SqL.of hg3,by rw [ba,cE,aO];exact jH _ _,_,rfl,
        s2.a,s.a,s2.n,s2.l,s.n,s.l,s2.d,{ s.d with fin:=p },rfl,⟨xs2,hpt_23⟩,⟨xs,hpt3⟩,fun G4 pt4 k4=>?_⟩
       have st4:∀ y o,G y=some o→y≠s.a→y≠g→y≠s2.a→G4 y=some o:=fun y o e h1 h2 h3=>k4 y o (st3 y o e h1 h2) h3
       have hls4:G4 s.l=some (.lst (s.as.map V.ref)):=k4 _ _ hls3 (aN (dE ⟨xs2,hpt_2⟩ hls))
       generalize hD:upd (upd D s.a (.ins CP xs (pf { s.d with fin:=p } s.n s.l))) s.l (.lst (s.as.map V.ref))=D'
       obtain ⟨ds1,ds2⟩:=T0.ds.da s (by simp)
       have sD:bC D D':=fun y o e=>by rw [←hD,aa (af e ds2),aa (af e ds1)];exact e
       have Da:D' s.a=some (.ins CP xs (pf { s.d with fin:=p } s.n s.l)):=by rw [←hD,aa nal,au]
       have Dl:D' s.l=some (.lst (s.as.map V.ref)):=by rw [←hD,au]
       have Dn:∀ y,y≠s.a→y≠s.l→D y=none→D' y=none:=fun y h1 h2 h3=>by rw [←hD,aa h2,aa h1];exact h3
       have dn4:bC D' G4:=fun y o e=>by
        by_cases y1:y=s.l
        ·rw [y1,Dl] at e;rw [y1,←e];exact hls4
        ·by_cases y2:y=s.a
         ·rw [y2,Da] at e;rw [y2,←e];exact k4 _ _ hpt3 (aN n12)
         ·rw [←hD,aa y1,aa y2] at e;exact st4 y o (T0.dn y o e) y2 (af e T0.dg) (af e (T0.ds.da s2 (by simp)).1)
       have ndl:=T0.ds.nl
       rw [ba,bE] at ndl;have Dst:∀ s'∈s2::rest2,D' s'.a=none∧D' s'.l=none:=fun s' hs'=>by
        obtain ⟨ch',f'⟩:=T0.st.fr s' (aR _ hs')
        obtain ⟨q1,q2⟩:=T0.ds.da s' (aR _ hs')
        refine ⟨Dn _ (fun z=>nd.1 (z▸d9 hs')) (dE f'.pt hls) q1,Dn _ (aN (dE ⟨xs,hpt⟩ f'.ls)) (fun z=>ndl.1 (z▸d9 hs')) q2⟩
       refine ⟨2*(bs.length - p)+(rest2.length+1),by rw [T0.ms,aE,aE];omega,_,rfl,p,
        ⟨fun b o e=>k4 b o (sameG3 b o e) (af e (T0.ds.f0 s2 (by simp)).1),⟨dr2,st4 _ _ hrd (aN nar) (aN (g9 hgl B.rd)) (aN (jy ⟨xs2,hpt_2⟩ B.rd))⟩,B.le⟩,
        .inl ⟨D',⟨s2.a,s2.n,s2.l,s2.as++[s.a],{ s2.d with depth:=max s2.d.depth (s.d.depth+1) },s2.mem++[.node { s.d with fin:=p } s.mem]⟩,rest2,⟨?_,⟨?_,?_⟩,?_,?_,by rw [hpop];rfl,by rw [aE],?_,dn4,
         Dn _ (aN nag) (aN (T0.ds.ng s (by simp))) T0.dg,Dn _ (aN nar) (aN (g9 hls B.rd)) T0.dr⟩⟩⟩
       ·exact k4 g _ hg3 (aN n2g)
       ·refine ⟨pt4,sD _ _ hf2.nm,?_,(hf2.mem.same sD).snoc (.mk ⟨xs,Da⟩ (sD _ _ hf.nm) Dl (hf.mem.same sD)),?_,?_⟩
        ·show G4 s2.l=some (.lst ((s2.as++[s.a]++[]).map V.ref))
         rw [dw];exact st4 _ _ hf2.ls (aN (dE ⟨xs,hpt⟩ hf2.ls)) (T0.ds.ng s2 (by simp)) (aN (dE ⟨xs2,hpt_2⟩ hf2.ls))
        ·show (s2.as++[s.a]).length+0+1≤p
         have:=hf2.bd
         rw [aG];simp only [dJ] at *;omega
        ·show 1≤max s2.d.depth (s.d.depth+1)
         omega
       ·refine hrest2.keep (aI _) sD fun s' hs'=>?_
        obtain ⟨ch',f'⟩:=T0.st.fr s' (by simp [hs'])
        refine ⟨fun o e=>?_,fun o e=>?_⟩
        ·refine st4 _ o e (fun z=>nd.1 (z▸?_)) (dE f'.pt hgl) (fun z=>nd2.1 (z▸d9 hs'))
         rw [ba];exact aR _ (d9 hs')
        ·exact st4 _ o e (aN (dE ⟨xs,hpt⟩ f'.ls)) (T0.ds.ng s' (by simp [hs'])) (aN (dE ⟨xs2,hpt_2⟩ f'.ls))
       ·refine ⟨nd.2,ndl.2,fun s' hs'=>?_,fun s' hs'=>?_,fun s' hs'=>?_⟩
        ·rcases aF.mp hs' with rfl | hs'
         ·exact T0.ds.ng s2 (by simp)
         ·exact T0.ds.ng s' (by simp [hs'])
        ·rcases aF.mp hs' with rfl | hs'
         ·exact Dst s2 (by simp)
         ·exact Dst s' (by simp [hs'])
        ·rcases aF.mp hs' with rfl | hs'
         ·exact T0.ds.f0 s2 (by simp)
         ·exact T0.ds.f0 s' (by simp [hs'])
       ·have:=T0.bot
        rw [ba,ba,fD] at this;exact this
       ·have:=T0.dep
        rw [aE,aE] at this;rw [aE];omega
    ·
     refine ⟨_,rfl,_,.inl ⟨_,SqL.of hgl,rfl⟩,cp ?_⟩
     subst eR;obtain ⟨dr2,hrd⟩:=B.rd
     have hsq:=B.same.seq hs
     refine ⟨_,rfl,fd_ hrd T.cR T.nPl (cX a p) ⟨_,rfl,a,_,rfl,.inl hsq,_,_,rfl,rfl,_,rfl,?_⟩⟩
     rw [ae];dsimp only at q;by_cases hlt:p<bs.length
     ·rw [ao hlt] at q;rw [aq (show (p:Int)<(bs.length:Int) by omega)]
      exact cq ⟨_,rfl,fd_ hrd T.cR T.nPl (cX a p) ⟨_,_,rfl,q⟩⟩
     ·rw [ah hlt] at q;rw [ax (show ¬(p:Int)<(bs.length:Int) by omega)]
      exact cp ⟨_,rfl,q m G hw B.same⟩
end
theorem scIB:bw ["row","part"] ["row","part"] (a9 sIB):=fs_
theorem ok_IB {f:Addr} {fd:FuncData} (F:Fun K "inner_bytes" "inner_bytes" sIB f fd) (TP:TxP K mg CP):bK P w K mg base CX0 1 f fd ["row","part"] (tI K CP):=by
 refine F.ok scIB (fun vs H Q E h=>?_) (fun cdv A outer s H vs Q E hr h=>?_)
 ·obtain ⟨a,m,n,l,d,bs,rfl,_⟩:=h
  rfl
 ·obtain ⟨a,m,n,l,d,bs,rfl,hs,⟨dx,hm⟩,h1,h2,q⟩:=h
  refine ⟨_,aH (b9 (jz kr (pv 0) (gJ (aU (pv 1) rfl)) (gJ (aU (pv 1) rfl)))),?_⟩
  try dsimp only [cY];refine ⟨_,rfl,_,rfl,fd_ hm TP.cP TP.nIn rfl ⟨_,rfl,_,rfl,fd_ hm TP.cP TP.nEn rfl ⟨_,rfl,a,_,rfl,hs,fun x hx=>?_⟩⟩⟩
  have e:=ja bs d.ins (d.fin - d.ins) (by omega) (x:=(d.ins:Int)) (y:=(d.fin:Int)) rfl (by omega)
  rw [e];exact q x hx
structure Nd (CP:Addr) (H:Hp) (bs:List UInt8) (m:Addr) (v:Sw.Value) (p np:Nat) (n:List UInt8):Prop where
 tr:j7 CP bs H m (Pm.trV v p np n.length)
 at_:Pm.At bs p v
 nm:(bs.drop np).take n.length=n∧np+n.length≤bs.length
 pl:v.plain=true
theorem Nd.same {CP:Addr} {H H':Hp} {bs:List UInt8} {m:Addr} {v:Sw.Value} {p np:Nat} {n:List UInt8} (h:Nd CP H bs m v p np n) (k:bC H H'):Nd CP H' bs m v p np n:=⟨h.tr.same k,h.at_,h.nm,h.pl⟩
theorem Nd.pt {CP:Addr} {H:Hp} {bs:List UInt8} {m:Addr} {v:Sw.Value} {p np:Nat} {n:List UInt8} (h:Nd CP H bs m v p np n) :
  ∃ (nl l:Addr) (as:List Addr) (dx:Addr),H nl=some (.lst (n.map bv))∧H m=some (.ins CP dx (pf (Pm.pdOf v p np n.length) nl l))∧H l=some (.lst (as.map V.ref))∧as.length=(Pm.rowOf v).length ∧
   ∀ (i:Nat) (a:Addr),as[i]? = some a→∃ n' w np',v.member i=some (n',w)∧Nd CP H bs a w (Pm.mplace v p i) np' n':=by
 have ht:=h.tr
 rw [Pm.trV_eq] at ht;cases ht with
 | mk h1 h0 h2 h3 =>
  rename_i nl l as
  obtain ⟨dx,h1⟩:=h1
  have en:sf bs (Pm.pdOf v p np n.length)=n.map bv:=congrArg (List.map bv) h.nm.1
  refine ⟨nl,l,as,dx,by rw [←en];exact h0,h1,h2,by rw [h3.len,Pm.trM_len],fun i a e=>?_⟩
  obtain ⟨t,e1,e2⟩:=h3.get e
  rw [Pm.trM_get] at e1;cases em:v.member i with
  | none=>rw [em] at e1;cases e1
  | some x =>
   obtain ⟨n',w⟩:=x
   rw [em] at e1;have e1:some (Pm.trV w (Pm.mplace v p i) (if Pm.namedOf v=true then Pm.mplace v p i - n'.length else 0) n'.length)=some t:=e1
   injection e1 with e1;subst e1;obtain ⟨a1,a2⟩:=h.at_.mem em
   obtain ⟨b1,b2⟩:=Pm.name_of h.pl em
   refine ⟨n',w,_,rfl,e2,a1,?_,Pm.plain_mem h.pl em⟩
   cases hn:Pm.namedOf v with
   | true =>
    obtain ⟨c1,c2⟩:=a2 hn
    have:=a1.le
    rw [ao rfl];exact ⟨c2,by omega⟩
   | false =>
    rw [ah aS,b1 hn];exact ⟨rfl,by simp⟩
theorem Nd.whole {CP:Addr} {H:Hp} {bs:List UInt8} {m:Addr} {v:Sw.Value} (h:j7 CP bs H m (Pm.trV v 0 0 0)) (e:v.enc=bs) (pl:v.plain=true):Nd CP H bs m v 0 0 [] :=
 ⟨h,by unfold Pm.At;rw [e];exact ⟨[],by simp⟩,⟨rfl,by simp⟩,pl⟩
def x9 (K:Fg_):Sp:=fun vs H Q _=>∃ (x:Addr) (b:List UInt8),vs=[.ref x]∧SqL K H x (b.map bv)∧Q (.int ((Sw.ofLe b:Nat):Int)) H
def xR (K:Fg_) (CP:Addr):Sp:=fun vs H Q _=>∃ (a m:Addr) (bs:List UInt8) (z:Int) (p np:Nat) (n:List UInt8),vs=[.ref a,.ref m]∧SqL K H a (bs.map bv)∧Nd CP H bs m (.num z) p np n∧∀ H':Hp,bC H H'→Q (.int z) H'
theorem vA:bw ["row","amount","byte"] ["row"] (a9 sAO):=fs_
theorem ok_AO {f:Addr} {fd:FuncData} (F:Fun K "amount_of" "amount_of" sAO f fd) (hrev:mg "reversed" = none):bK P w K mg base CX0 1 f fd ["row"] (x9 K):=by
 refine F.ok vA (fun vs H Q E h=>?_) (fun cdv A outer s H vs Q E hr h=>?_)
 ·obtain ⟨x,b,rfl,_⟩:=h
  rfl
 ·obtain ⟨x,b,rfl,hs,q⟩:=h
  refine ⟨_,az (br (i:=1) vA.nd rfl (.inl rfl) bh)
   (az (fm PassesOwn.never rfl (kc rfl hrev (aj (pv 0) aL)) (cy (i:=2) vA.nd rfl (.inl rfl))
    (aH (br (i:=1) vA.nd rfl (.inl rfl) (fH ir (fH ud (pv 1) bh) (pv 2)))))
   (aH (b9 (pv 1)))),?_⟩
  try dsimp only [cY];refine ⟨_,rfl,x,_,rfl,hs,rk (xs:=b.map bv) (fun i σ H'=>H'=H∧∃ (am:Int) (v2:Option V),σ=[some (.ref x),some (.int am),v2]∧am=((Sw.ofLe (b.drop (b.length - i)):Nat):Int)) ⟨rfl,0,none,rfl,?_⟩ ?_ ?_ ?_⟩
  ·rw [Nat.sub_zero,eV];rfl
  ·rintro i σ H' _ ⟨rfl,_⟩
   exact hs
  ·rintro i y σ H' hi hy ⟨rfl,am,v2,rfl,ham⟩
   rw [ae] at hi hy;rw [aD] at hy;have hlt:b.length - 1 - i<b.length:=by omega
   rw [aB hlt] at hy;have hy:bv b[b.length - 1 - i]=y:=aA hy
   subst hy;have ed:b.drop (b.length - (i+1))=b[b.length - 1 - i]::b.drop (b.length - i):=by
    have e1:b.length - (i+1)=b.length - 1 - i:=by omega
    have e2:b.length - 1 - i+1=b.length - i:=by omega
    rw [e1,bz hlt,e2]
   generalize b[b.length - 1 - i]=c at ed;refine ⟨_,rfl,_,_,rfl,rfl,.inr ⟨by decide,by decide⟩,_,rfl,_,_,rfl,rfl,?_⟩
   refine ⟨rfl,_,_,rfl,?_⟩
   rw [ed];show am*256+(c.toNat:Int)=((c.toNat+256*Sw.ofLe (b.drop (b.length - i)):Nat):Int)
   rw [ham];omega
  ·rintro σ H' ⟨rfl,am,v2,rfl,ham⟩
   rw [ae,dB,eQ] at ham;rw [←ham] at q;exact ⟨_,rfl,q⟩
theorem yf:bw ["row","part","amount","told"] ["row","part"] (a9 sNO):=fs_
theorem ok_NO {f fIB fAO:Addr} {fd fdI fdA:FuncData} (F:Fun K "number_of" "number_of" sNO f fd) (TP:TxP K mg CP)
  (GI:Co P w K mg base CX0 1 fIB fdI ["row","part"] (tI K CP) "inner_bytes")
  (GA:Co P w K mg base CX0 1 fAO fdA ["row"] (x9 K) "amount_of") :
  bK P w K mg base CX0 2 f fd ["row","part"] (xR K CP):=by
 refine F.ok yf (fun vs H Q E h=>?_) (fun cdv A outer s H vs Q E hr h=>?_)
 ·obtain ⟨a,m,bs,z,p,np,n,rfl,_⟩:=h
  rfl
 ·obtain ⟨a,m,bs,z,p,np,n,rfl,hs,nd,q⟩:=h
  refine ⟨_,az (br (i:=2) yf.nd rfl (.inl rfl) (cv GA hr rfl cM (aj (cv GI hr rfl cM (aj (pv 0) (aj (pv 1) aL))) aL)))
   (az (br (i:=3) yf.nd rfl (.inl rfl) (cK bM (pv 0) (fH ir (aU (pv 1) rfl) bh) (fun _ _=>rfl)))
   (aH (b9 (oS (bo d8 (fH qc (pv 3) bh) bh (bA _)) (kZ ji (pv 2)) (pv 2))))),?_⟩
  try dsimp only [cY];obtain ⟨nn,l,as,dx,hn,h1,_⟩:=nd.pt
  obtain ⟨i1,i2⟩:=nd.at_.inner
  have hle:=nd.at_.le
  obtain ⟨c,hc,hsg⟩:=nd.at_.sign
  refine ⟨_,rfl,_,rfl,a,m,nn,l,_,bs,rfl,hs,⟨dx,h1⟩,by show p+Pm.ioff _≤p+_;omega,hle,fun x hx=>?_⟩
  have k1:bC H (upd H x (.lst (((bs.drop (Pm.pdOf (.num z) p np n.length).ins).take ((Pm.pdOf (.num z) p np n.length).fin - (Pm.pdOf (.num z) p np n.length).ins)).map bv))):=fun b o e=>(aa (af e hx)).trans e
  have i1':((bs.drop (Pm.pdOf (.num z) p np n.length).ins).take ((Pm.pdOf (.num z) p np n.length).fin - (Pm.pdOf (.num z) p np n.length).ins))=Pm.inner (.num z):=i1
  refine ⟨x,Pm.inner (.num z),rfl,by rw [i1'];exact SqL.of au,?_⟩
  rw [Pm.num_of];refine ⟨_,rfl,_,rfl,fd_ (k1 _ _ h1) TP.cP TP.nPl rfl ⟨_,_,rfl,rfl,a,_,_,bv c,rfl,rfl,k1.seq hs,fK (show (((p:Nat):Int)+1)=((p+1:Nat):Int) by omega) (by rw [aD,hc];rfl),?_⟩⟩
  have e2:((c.toNat:Int) % 2)=((c.toNat % 2:Nat):Int):=by omega
  refine ⟨_,rfl,_,_,rfl,rfl,(by show (0:Int)<2;decide),rfl,_,rfl,?_⟩
  rw [fT,e2,hsg];by_cases hz:z<0
  ·rw [ao hz,aq (by decide)]
   refine cq ⟨_,rfl,_,rfl,?_⟩
   show Q (V.int (-((z.natAbs:Nat):Int))) _
   rw [show -((z.natAbs:Nat):Int)=z by omega]
   exact q _ k1
  ·rw [ah hz,ax (by decide)]
   refine cp ⟨_,rfl,?_⟩
   show Q (V.int ((z.natAbs:Nat):Int)) _
   rw [show ((z.natAbs:Nat):Int)=z by omega]
   exact q _ k1
theorem exm_mk {K:Fg_} {C T:Addr} {b:Bool} {oc:Value} {od:Option Addr} {cd:ClassData} {sl:Array (Option Value)} (h1:PySem.W.subIn K (.ref T) (.type "BaseException")=some true) (h2:K.lookup T=some ⟨oc,od,.cls cd,sl⟩) (h3:PySem.W.typeIn K (.ref T)=some (.type "type"))
  (h4:PySem.W.subIn K (.ref C) (.ref T)=some b):PySem.W.exmOne K (.ref C) (.ref T)=some b:=by
 unfold PySem.W.exmOne;rw [h1,ao (by decide)]
 unfold PySem.W.kitCls;have hc:PySem.W.clsIn K T=some cd:=by
  unfold PySem.W.clsIn;rw [h2]
 show (if ((PySem.W.clsIn K T).isSome&&PySem.W.typeIn K (.ref T)==some (.type "type"))=true then PySem.W.subIn K (.ref C) (.ref T) else none)=some b
 rw [hc,h3,ao (by simp),h4]
def xw (K:Fg_) (U:Addr):Sp:=fun vs H Q _=>∃ (e C fI:Addr) (v:V),vs=[.ref e,v]∧iF K U C fI∧H e=some (XE e C none)∧∀ dx,H dx=none→dx≠e→Q .non (upd (upd H dx (XD dx [("answer",v)])) e (XE e C (some dx)))
def aWB:List V→List V:=fun vs=>.int (-5)::vs
theorem scUI:bw ["self","answer"] ["self","answer"] (a9 sUI):=fs_
theorem ok_UI {f:Addr} {fd:FuncData} (F:Fun K "__init__" "Refusal.__init__" sUI f fd):bK P w K mg base CX0 1 f fd ["self","answer"] (xw K U):=by
 refine F.ok scUI (fun vs H Q E h=>?_) (fun cdv A outer s H vs Q E hr h=>?_)
 ·obtain ⟨e,C,fI,v,rfl,_⟩:=h
  rfl
 ·obtain ⟨e,C,fI,v,rfl,c,he,q⟩:=h
  refine ⟨_,aH (ps_u1 (U:=U) (pv 0) (pv 1) rfl),?_⟩
  try dsimp only [cY];exact ⟨_,rfl,_,rfl,e,C,fI,rfl,c,he,fun dx h1 h2=>q dx h1 h2⟩
theorem wQ {e C a dx:Addr} {H:Hp} {ans:List V} (he:H e=some (XE e C none)) (ha:H a=none) (hd:upd H a (.lst ans) dx=none) (ne:dx≠e) :
  let H':=upd (upd (upd H a (.lst ans)) dx (XD dx [("answer",.ref a)])) e (XE e C (some dx))
  H' e=some (XE e C (some dx))∧H' dx=some (XD dx [("answer",.ref a)])∧H' a=some (.lst ans):=by
 have nae:a≠e:=fun z=>by rw [z,he] at ha;cases ha
 have nad:a≠dx:=fun z=>by rw [z,au] at hd;cases hd
 refine ⟨au,?_,?_⟩
 ·rw [aa ne];exact au
 ·rw [aa nae,aa nad];exact au
theorem scUB:bw ["self","place"] ["self","place"] (a9 sUB):=fs_
theorem ok_UB {f fUI C fI:Addr} {fd fdU:FuncData} (F:Fun K "__init__" "WrongBook.__init__" sUB f fd) (uc:iF K U C fI) (cU:u6 K U "__init__" fUI) (mU:mg "Refusal" = some (.ref U)) (GU:bK P w K mg base CX0 1 fUI fdU ["self","answer"] (xw K U)) (bU:bT K fdU ["self","answer"] []) :
  bK P w K mg base CX0 2 f fd ["self","place"] (jL C 1 aWB):=by
 refine F.ok scUB (fun vs H Q E h=>?_) (fun cdv A outer s H vs Q E hr h=>?_)
 ·obtain ⟨e,rest,rfl,hn,_⟩:=h
  rw [aE,hn]
  rfl
 ·obtain ⟨e,rest,rfl,hn,he,q⟩:=h
  match rest,hn with
  | [v],_ =>
   refine ⟨_,aH (b6 (vI rfl mU cU GU hr bU .nil cM (aj (pv 0) (aj (dX (aj (kZ ji bh) (aj (pv 1) aL))) aL)))),?_⟩
   try dsimp only [cY]
   refine ⟨_,rfl,_,rfl,_,rfl,(by show 2≤sizeLine;decide),fun a ha=>⟨e,C,fI,.ref a,rfl,uc,?_,fun dx hd ne=>?_⟩⟩
   ·rw [aa (fun z=>by rw [←z,he] at ha;cases ha)]
    exact he
   ·obtain ⟨e1,e2,e3⟩:=wQ he ha hd ne
    exact q dx a _ ne e1 e2 e3
def nV (j:Nat):V:=.int (j:Int)
def oV (x:Option Nat):V:=match x with
 | none=>.int (-1)
 | some k=>.int (k:Int)
def n8 (H:Hp) (o:Addr) (g:Ri.Gr):Prop:=∃ as:List Addr,H o=some (.lst (as.map V.ref))∧as.length=g.length∧∀ i a,as[i]? = some a→H a=some (.lst ((Ri.adj g i).map nV))
def KpL (H H':Hp) (S:List Addr):Prop:=∀ b o,H b=some o→b∉S→H' b=some o
theorem kP:∀ (l:List Nat) (i x y:Nat),l[i]? = some x→(l.set i y).sum+x=l.sum+y
 | [],_,_,_,h=>by cases h
 | a::l,0,x,y,h=>by
  have e:a=x:=aA h
  subst e;show (y::l).sum+a=(a::l).sum+y
  rw [dZ,dZ];omega
 | a::l,i+1,x,y,h=>by
  have ih:=kP l i x y (by simpa using h)
  show (a::l.set i y).sum+x=(a::l).sum+y
  rw [dZ,dZ];omega
def cOf (x:Option Nat):Nat:=match x with
 | none=>0
 | some k=>k+1
def aOf (ps:List (Option Nat)):Nat:=(ps.map cOf).sum
theorem rE {ps:List (Option Nat)} {i:Nat} {x y:Option Nat} (h:ps[i]? = some x):aOf (ps.set i y)+cOf x=aOf ps+cOf y:=by
 unfold aOf;rw [fQ];exact kP _ _ _ _ (by rw [aD,h];rfl)
def mOf (g:Ri.Gr):Nat:=(g.map fun l=>l.length+1).sum
theorem nZ:∀ (g:Ri.Gr) (ps:List (Option Nat)),ps.length=g.length→(∀ i k,ps[i]? = some (some k)→k≤(Ri.adj g i).length)→aOf ps≤mOf g
 | [],[],_,_=>aI _
 | l::g,x::ps,hl,h=>by
  have ih:=nZ g ps (by simpa using hl) fun i k e=>h (i+1) k (by simpa using e)
  show cOf x+aOf ps≤(l.length+1)+mOf g
  have:cOf x≤l.length+1:=by
   cases x with
   | none=>exact a8 _
   | some k =>
    have:=h 0 k rfl
    have e:Ri.adj (l::g) 0=l:=rfl
    rw [e] at this;show k+1≤l.length+1
    omega
  omega
 | [],_::_,hl,_=>by cases hl
 | _::_,[],hl,_=>by cases hl
theorem nJ {n i:Nat} (h:i<n):ixN n (i:Int)=some i:=by
 unfold ixN;rw [ao (by omega),ao (by omega),dv]
theorem jx (x:Option Nat):yc (oV x) (V.int (-1))=true:=by
 cases x<;>rfl
theorem iK:∀ {n:Nat} {l:List Nat},l.Nodup→(∀ i∈l,i<n)→l.length≤n
 | 0,[],_,_=>aI _
 | 0,a::l,_,h=>aP (h a (by simp)) (cH _)
 | n+1,l,nd,h=>by
  by_cases hn:n∈l
  ·have:=iK (n:=n) (nd.erase n) fun i hi=>by
    have h1:=h i (List.mem_of_mem_erase hi)
    have h2:i≠n:=((List.Nodup.mem_erase_iff nd).mp hi).1
    omega
   rw [List.length_erase_of_mem hn] at this;omega
  ·have:=iK (n:=n) nd fun i hi=>by
    have h1:=h i hi
    have h2:i≠n:=fun z=>hn (z▸hi)
    omega
   omega
def xE (K:Fg_):Sp:=fun vs H Q _=>∃ (f:Nat) (o pa en:Addr) (g:Ri.Gr) (ps:List (Option Nat)) (el:List Nat),vs=[nV f,.ref o,.ref pa,.ref en]∧n8 H o g∧H pa=some (.lst (ps.map oV))∧H en=some (.lst (el.map nV))∧pa≠en∧o≠pa∧o≠en ∧
 (∀ (as:List Addr) (i:Nat) (a:Addr),H o=some (.lst (as.map V.ref))→as[i]? = some a→a≠pa∧a≠en)∧Ri.GOk g∧g.length≤100000∧Ri.D1 g ps [] el∧f<g.length∧¬Ri.dis ps f ∧
 ∀ (ps':List (Option Nat)) (el':List Nat) (H':Hp),Ri.D1 g ps' [] el'→Ri.dis ps' f→(∀ i,Ri.dis ps i→Ri.dis ps' i)→H' pa=some (.lst (ps'.map oV))→H' en=some (.lst (el'.map nV))→KpL H H' [pa,en]→Q .non H'
theorem vq:bw ["first","onward","passed","ended","begun","i","j"] ["first","onward","passed","ended"] (a9 sR6):=fs_
theorem ok_R6 {f:Addr} {fd:FuncData} (F:Fun K "end_from" "end_from" sR6 f fd) (len:mg "len" = none) (nb:GI mg "NOT_BEGUN" (-1)):bK P w K mg base CX0 1 f fd ["first","onward","passed","ended"] (xE K):=by
 refine F.ok vq (fun vs H Q E h=>?_) (fun cdv A outer s H vs Q E hr h=>?_)
 ·obtain ⟨f,o,pa,en,g,ps,el,rfl,_⟩:=h
  rfl
 ·obtain ⟨f,o,pa,en,g,ps,el,rfl,hon,hpa,hen,npe,nop,noe,nin,hg,hz,D,hf,hd,q⟩:=h
  refine ⟨_,az (p8 bh (qa (pv 2) (pv 0) jv))
   (az (br (i:=4) vq.nd rfl (.inl rfl) (dX (aj (pv 0) aL)))
   (aH (gy PassesOwn.never (cN (pv 4) (fun _=>rfl))
    (az (br (i:=5) vq.nd rfl (.inl rfl) (cK bM (pv 4) (kZ ji bh) (fun _ _=>rfl)))
    (aH (bY (bo d8 (cK bM (pv 2) (pv 5) (fun _ _=>rfl)) (di eo (by rfl) len b8 (aj (cK bM (pv 1) (pv 5) (fun _ _=>rfl)) aL)) (bA _))
     (aH (b6 (g8 a7 PySem.F.slot_list_append PySem.F.type_list_append eI (pv 3) (aj (jk a7 PySem.F.slot_list_pop PySem.F.type_list_pop lu (pv 4)) aL))))
     (az (br (i:=6) vq.nd rfl (.inl rfl) (cK bM (cK bM (pv 1) (pv 5) (fun _ _=>rfl)) (cK bM (pv 2) (pv 5) (fun _ _=>rfl)) (fun _ _=>rfl)))
     (az (vH (pv 2) (pv 5) sF bh yI jv)
     (aH (bY (bo d8 (cK bM (pv 2) (pv 6) (fun _ _=>rfl)) (pgi nb rfl) (bA _))
      (az (p8 bh (qa (pv 2) (pv 6) jv))
      (aH (b6 (g8 a7 PySem.F.slot_list_append PySem.F.type_list_append eI (pv 4) (aj (pv 6) aL))))) bF)))))))))),?_⟩
  try dsimp only [cY];obtain ⟨as,ho,hal,hai⟩:=id hon
  have hfl:f<ps.length:=by rw [D.len];exact hf
  have D0:=D.begin hf hd (fun t r e=>by cases e)
  refine ⟨_,rfl,_,rfl,pa,_,(f:Int),f,rfl,rfl,hpa,nJ (by rw [ae];exact hfl),?_⟩
  refine ⟨_,rfl,(by show 1≤sizeLine;decide),fun bg hbg=>?_⟩
  have nbp:bg≠pa:=fun z=>by rw [z,au] at hbg;cases hbg
  have hbgH:H bg=none:=by rw [aa nbp] at hbg;exact hbg
  have nbe:bg≠en:=fun z=>by rw [z,hen] at hbgH;cases hbgH
  have nbo:bg≠o:=fun z=>by rw [z,ho] at hbgH;cases hbgH
  refine ⟨fun m σ G=>∃ (ps':List (Option Nat)) (st el':List Nat) (v5 v6:Option V),σ=[some (nV f),some (.ref o),some (.ref pa),some (.ref en),some (.ref bg),v5,v6]∧Ri.D1 g ps' st el'∧G pa=some (.lst (ps'.map oV))∧G en=some (.lst (el'.map nV))∧G bg=some (.lst (st.reverse.map nV))∧KpL H G [pa,en]∧Ri.dis ps' f∧(∀ i,Ri.dis ps i→Ri.dis ps' i)∧m=2*(mOf g - aOf ps')+st.length,
   ⟨_,ps.set f (some 0),[f],el,none,none,rfl,D0,?_,?_,au,?_,(D0.disc f).mpr (.inl (by simp)),fun i h=>Ri.dis_set h,rfl⟩,?_⟩
  ·rw [aa (aN nbp),au,fQ];rfl
  ·rw [aa (aN nbe),aa (aN npe)];exact hen
  ·intro b ob e hb;rw [aF,aJ,not_or] at hb;rw [aa (fun z=>by rw [z,hbgH] at e;cases e),aa hb.1]
   exact e
  rintro m σ G ⟨ps',st,el',v5,v6,rfl,I,hpa',hen',hbg',kG,hdf,hmon,hm⟩
  refine ⟨_,rfl,_,.inl ⟨_,SqL.of hbg',rfl⟩,?_⟩
  cases st with
  | nil=>exact cp (q ps' el' G I hdf hmon hpa' hen' kG)
  | cons t r =>
   have hrev:(t::r).reverse.map nV=r.reverse.map nV++[nV t]:=by rw [cE,aO];rfl
   rw [hrev] at hbg' ⊢
   have htr:(!(r.reverse.map nV++[nV t]).isEmpty)=true:=by simp
   rw [htr];refine cq ⟨_,fun σ' G' h=>h,?_⟩
   refine ⟨_,rfl,_,rfl,bg,_,_,nV t,rfl,rfl,SqL.of hbg',jH _ _,?_⟩
   obtain ⟨k,hk⟩:=(I.disc t).mpr (.inl (by simp))
   have htl:t<ps'.length:=(ay.mp hk).1
   have htg:t<g.length:=by rw [←I.len];exact htl
   have hkv:(ps'.map oV)[t]? = some (V.int (k:Int)):=by rw [aD,hk];rfl
   obtain ⟨a,ha⟩:∃ a,as[t]? = some a:=⟨as[t]'(by rw [hal];exact htg),aB _⟩
   have nap:=nin as t a ho ha
   have hao:(as.map V.ref)[t]? = some (V.ref a):=by rw [aD,ha];rfl
   have hoG:G o=some (.lst (as.map V.ref)):=kG _ _ ho (by simp [nop,noe])
   have haG:G a=some (.lst ((Ri.adj g t).map nV)):=kG _ _ (hai t a ha) (by simp [nap.1,nap.2])
   obtain ⟨hkl,_⟩:=I.cnt t k hk
   have hA:=nZ g ps' I.len fun i k e=>(I.cnt i k e).1
   refine ⟨_,rfl,_,rfl,pa,_,(t:Int),_,rfl,rfl,SqL.of hpa',dR hkv,_,rfl,_,rfl,o,_,(t:Int),_,rfl,rfl,SqL.of hoG,dR hao,a,_,rfl,.inl (SqL.of haG),rfl,_,rfl,?_⟩
   rw [fT,ae];by_cases hend:k=(Ri.adj g t).length
   ·rw [aq (by omega)]
    have I':=I.ended (by rw [hk,hend])
    refine cq ⟨_,rfl,.inl ⟨rfl,_,SqL.of hen'⟩,_,rfl,.inl ⟨rfl,_,SqL.of hbg'⟩,bg,_,nV t,rfl,rfl,hbg',?_,en,el'.map nV,_,rfl,rfl,?_,?_,?_⟩
    ·rw [aG];show (r.reverse.map nV++[nV t])[(r.reverse.map nV).length+1 - 1]? = _
     rw [eC,bW (aI _),dB];rfl
    ·rw [aa (aN nbe)];exact hen'
    ·have hnd:=I'.nodup
     have hsub:(el'++[t]).length≤g.length:=by
      refine iK (dS.mp hnd).2.1 fun i hi=>?_
      have:=Ri.dis_lt ((I'.disc i).mpr (.inr hi))
      rw [I'.len] at this;exact this
     rw [aG] at hsub;have:([t]:List Nat).length=1:=rfl
     rw [ae,sizeLine_eq];omega
    ·have hdl:(r.reverse.map nV++[nV t]).dropLast=r.reverse.map nV:=dU
     rw [hdl];refine ⟨_,?_,ps',r,el'++[t],some (nV t),v6,rfl,I',?_,?_,?_,?_,hdf,hmon,rfl⟩
     ·rw [hm,aE];omega
     ·rw [aa npe,aa (aN nbp)];exact hpa'
     ·rw [au,aO];rfl
     ·rw [aa nbe,au]
     ·intro b ob e hb;have hb':=hb
      rw [aF,aJ,not_or] at hb'
      rw [aa hb'.2,aa (fun z=>by rw [z,hbgH] at e;cases e)]
      exact kG _ _ e hb
   ·rw [ax (by omega)]
    have hklt:k<(Ri.adj g t).length:=by omega
    obtain ⟨j,hj⟩:∃ j,(Ri.adj g t)[k]? = some j:=⟨_,aB hklt⟩
    have hjv:((Ri.adj g t).map nV)[k]? = some (nV j):=by rw [aD,hj];rfl
    have hjg:j<g.length:=hg t j (bj hj)
    refine cp ⟨_,rfl,_,rfl,o,_,(t:Int),_,rfl,rfl,SqL.of hoG,dR hao,_,rfl,_,rfl,pa,_,(t:Int),_,rfl,rfl,SqL.of hpa',dR hkv,a,_,(k:Int),_,rfl,rfl,SqL.of haG,dR hjv,?_⟩
    refine ⟨_,rfl,_,rfl,pa,_,t,_,rfl,rfl,SqL.of hpa',hkv,_,_,rfl,rfl,pa,_,(t:Int),t,rfl,rfl,hpa',nJ (by rw [ae];exact htl),?_⟩
    have e1:(ps'.map oV).set t (V.int ((k:Int)+1))=(ps'.set t (some (k+1))).map oV:=by
     rw [fQ];show _=(ps'.map oV).set t (V.int ((k+1:Nat):Int))
     rw [show ((k+1:Nat):Int)=(k:Int)+1 by omega]
    rw [e1];generalize hps:ps'.set t (some (k+1))=ps1;have hl1:ps1.length=ps'.length:=by rw [←hps,cV]
    have hjl:j<ps1.length:=by rw [hl1,I.len];exact hjg
    have hA1:aOf ps1+(k+1)=aOf ps'+(k+2):=by rw [←hps];exact rE hk
    obtain ⟨x,hx⟩:∃ x,ps1[j]? = some x:=⟨_,aB hjl⟩
    have hxv:(ps1.map oV)[j]? = some (oV x):=by rw [aD,hx];rfl
    have hpa1:upd G pa (.lst (ps1.map oV)) pa=some (.lst (ps1.map oV)):=au
    have kx:∀ {b:Addr} {ob:HO},b≠pa→G b=some ob→upd G pa (.lst (ps1.map oV)) b=some ob:=fun n e=>(aa n).trans e
    have kk:KpL H (upd G pa (.lst (ps1.map oV))) [pa,en]:=fun b ob e hb=>by
     have hb':=hb
     rw [aF,aJ,not_or] at hb'
     exact kx hb'.1 (kG _ _ e hb)
    refine ⟨_,rfl,_,rfl,pa,_,(j:Int),_,rfl,rfl,SqL.of hpa1,dR hxv,jx x,_,rfl,?_⟩
    cases x with
    | some k' =>
     have hne:decide (oV (some k')=V.int (-1))=false:=by
      show decide (V.int (k':Int)=V.int (-1))=false
      rw [fT,ax (by omega)]
     rw [hne];have hdj:Ri.dis ps' j:=by
      have:Ri.dis ps1 j:=⟨k',hx⟩
      rw [←hps] at this;rcases Ri.dis_of_set this with rfl | z
      ·exact ⟨k,hk⟩
      ·exact z
     have I':=I.pass hk hj hdj
     rw [hps] at I'
     have hA':=nZ g ps1 I'.len fun i k e=>(I'.cnt i k e).1
     refine cp ⟨_,?_,ps1,t::r,el',some (nV t),some (nV j),rfl,I',hpa1,kx (aN npe) hen',?_,kk,?_,?_,rfl⟩
     ·rw [hm];omega
     ·rw [hrev];exact kx nbp hbg'
     ·rw [←hps];exact Ri.dis_set hdf
     ·intro i hi;rw [←hps];exact Ri.dis_set (hmon i hi)
    | none =>
     have hne:decide (oV none=V.int (-1))=true:=aq rfl
     rw [hne];have hdj:¬Ri.dis ps' j:=fun z=>by
      have:Ri.dis ps1 j:=by rw [←hps];exact Ri.dis_set z
      obtain ⟨y,hy⟩:=this
      rw [hx] at hy;cases hy
     have I':=I.passNew hk hj hjg hdj
     rw [hps] at I'
     have hA':=nZ g _ I'.len fun i k e=>(I'.cnt i k e).1
     have hA2:aOf (ps1.set j (some 0))+0=aOf ps1+1:=rE hx
     refine cq ⟨_,rfl,_,rfl,pa,_,(j:Int),j,rfl,rfl,hpa1,nJ (by rw [ae];exact hjl),?_⟩
     have e2:(ps1.map oV).set j (V.int 0)=(ps1.set j (some 0)).map oV:=by rw [fQ];rfl
     rw [e2];refine ⟨_,rfl,.inl ⟨rfl,_,SqL.of ((aa nbp).trans (kx nbp hbg'))⟩,_,rfl,bg,_,_,rfl,rfl,(aa nbp).trans (kx nbp hbg'),?_,_,?_,ps1.set j (some 0),j::t::r,el',some (nV t),some (nV j),rfl,I',?_,?_,?_,?_,?_,?_,rfl⟩
     ·have hnd:=I'.nodup
      have hsub:(j::t::r).length≤g.length:=by
       refine iK (dS.mp hnd).1 fun i hi=>?_
       have:=Ri.dis_lt ((I'.disc i).mpr (.inl hi))
       rw [I'.len] at this;exact this
      rw [aE,aE] at hsub;rw [aG,ae,cT,sizeLine_eq];show r.length+1<_
      omega
     ·rw [hm,aE,aE];omega
     ·rw [aa (aN nbp),au]
     ·rw [aa (aN nbe),aa (aN npe)];exact kx (aN npe) hen'
     ·rw [au,cE,aO,hrev];rfl
     ·intro b ob e hb;have hb':=hb
      rw [aF,aJ,not_or] at hb'
      rw [aa (fun z=>by rw [z,hbgH] at e;cases e),aa hb'.1]
      exact kk _ _ e hb
     ·rw [←hps];exact Ri.dis_set (Ri.dis_set hdf)
     ·intro i hi;rw [←hps];exact Ri.dis_set (Ri.dis_set (hmon i hi))
theorem gU {σ:St} {H:Hp} {A B:Hp→Prop} (h:A H):tYes σ H (fun b H3=>if b=true then A H3 else B H3):=by
 show (if true=true then A H else B H)
 rw [ao rfl];exact h
def xF:Sp:=fun vs H Q _=>∃ (o:Addr) (g:Ri.Gr),vs=[.ref o]∧n8 H o g∧Ri.GOk g∧g.length≤100000 ∧
 ∀ (en:Addr) (ps:List (Option Nat)) (el:List Nat) (H':Hp),Ri.D1 g ps [] el→(∀ i,i<g.length→i∈el)→H en=none→H' en=some (.lst (el.map nV))→bC H H'→Q (.ref en) H'
theorem n8.same {H H':Hp} {o:Addr} {g:Ri.Gr} (h:n8 H o g) (k:bC H H'):n8 H' o g:=by
 obtain ⟨as,h1,h2,h3⟩:=h
 exact ⟨as,k _ _ h1,h2,fun i a e=>k _ _ (h3 i a e)⟩
theorem tM:bw ["onward","passed","ended","first","turn"] ["onward"] (a9 sR5):=fs_
theorem ok_R5 {f fR6:Addr} {fd fd6:FuncData} (F:Fun K "order_by_end" "order_by_end" sR5 f fd) (len:mg "len" = none) (rng:mg "range" = none) (nb:GI mg "NOT_BEGUN" (-1))
  (G6:Co P w K mg base CX0 1 fR6 fd6 ["first","onward","passed","ended"] (xE K) "end_from") :
  bK P w K mg base CX0 2 f fd ["onward"] xF:=by
 refine F.ok tM (fun vs H Q E h=>?_) (fun cdv A outer s H vs Q E hr h=>?_)
 ·obtain ⟨o,g,rfl,_⟩:=h
  rfl
 ·obtain ⟨o,g,rfl,hon,hg,hz,q⟩:=h
  refine ⟨_,az (kX (i:=1) rfl tM.nd rfl rfl rfl (eN (pv 0)) (fe (own:=[("turn",4)]) (by kernel_rfl))
    (fun s H C cl fp=>cy (i:=4) tM.nd rfl (.inl rfl)) (fun s H C cl fp=>fZ) (fun s H C cl fp=>pgi nb rfl))
   (az (br (i:=2) tM.nd rfl (.inl rfl) (dX aL))
   (az (fm PassesOwn.never rfl (mj rfl rng (aj (di eo (by rfl) len b8 (aj (pv 0) aL)) aL)) (cy (i:=3) tM.nd rfl (.inl rfl))
    (aH (bY (bo d8 (cK bM (pv 1) (pv 3) (fun _ _=>rfl)) (pgi nb rfl) (bA _))
     (aH (b6 (cv G6 hr rfl cM (aj (pv 3) (aj (pv 0) (aj (pv 1) (aj (pv 2) aL))))))) bF)))
   (aH (b9 (pv 2))))),?_⟩
  try dsimp only [cY];obtain ⟨as,ho,hal,hai⟩:=id hon
  refine ⟨_,rfl,o,rfl,⟨_,SqL.of ho⟩,fun pa hpa=>?_⟩
  have npo:pa≠o:=fun z=>by rw [z,ho] at hpa;cases hpa
  refine gM (xs:=as.map V.ref) (fun i G=>bC H G∧G pa=some (.lst ((List.replicate i (none:Option Nat)).map oV))) ?_ ?_ ?_ ?_
  ·exact ⟨fun c ob e=>(aa (af e hpa)).trans e,au⟩
  ·rintro i G _ ⟨kG,_⟩
   exact SqL.of (kG _ _ ho)
  ·rintro i x G hx ⟨kG,hGp⟩
   refine ⟨rfl,gU ?_⟩
   have hi:=(ay.mp hx).1
   rw [ae] at hi;refine ⟨_,hGp,?_,fun c ob e=>(aa (af e hpa)).trans (kG _ _ e),?_⟩
   ·rw [ae,cu,sizeLine_eq];omega
   ·rw [au,List.replicate_succ',aO];rfl
  ·rintro G ⟨kG,hGp⟩
   rw [ae,hal] at hGp;refine ⟨(by show 0≤sizeLine;decide),fun en hen=>?_⟩
   have nep:en≠pa:=fun z=>by rw [z,hGp] at hen;cases hen
   have henH:H en=none:=kG.free hen
   have neo:en≠o:=fun z=>by rw [z,ho] at henH;cases henH
   have D0:Ri.D1 g (List.replicate g.length none) [] []:=Ri.D1.nil cu (fun i ⟨k,e⟩=>by
    rw [cx] at e;split at e<;>cases e)
   refine ⟨_,rfl,o,_,rfl,.inl (SqL.of ((aa (aN neo)).trans (kG _ _ ho))),?_⟩
   rw [ae,hal];refine ⟨(g.length:Int),rfl,by omega,by omega,jV (lo:=0) (n:=g.length) (fun i σ G'=>∃ (v3 v4:Option V) (ps:List (Option Nat)) (el:List Nat),σ=[some (.ref o),some (.ref pa),some (.ref en),v3,v4]∧Ri.D1 g ps [] el∧(∀ j,j<i→Ri.dis ps j)∧G' pa=some (.lst (ps.map oV))∧G' en=some (.lst (el.map nV))∧bC H G') ⟨none,none,_,[],rfl,D0,fun j h=>aP h (cH _),?_,au,?_⟩ ?_ ?_⟩
   ·rw [aa (aN nep)];exact hGp
   ·exact fun c ob e=>(aa (af e henH)).trans (kG _ _ e)
   ·intro i σ G' hi z8_
    refine e4_ z8_ fun v3 v4 ps el=>c6_ fun z9_ D hdis hpa' hen' kG'=>?_
    subst z9_;have hil:i<ps.length:=by rw [D.len];exact hi
    obtain ⟨x,hx⟩:∃ x,ps[i]? = some x:=⟨_,aB hil⟩
    have hxv:(ps.map oV)[i]? = some (oV x):=by rw [aD,hx];rfl
    refine ⟨_,rfl,_,rfl,pa,_,(i:Int),_,rfl,by rw [Int.zero_add],SqL.of hpa',dR hxv,jx x,_,rfl,?_⟩
    cases x with
    | some k =>
     have hne:decide (oV (some k)=V.int (-1))=false:=by
      show decide (V.int (k:Int)=V.int (-1))=false
      rw [fT,ax (by omega)]
     rw [hne];refine cp ⟨some (.int (0+i)),v4,ps,el,rfl,D,fun j hj=>?_,hpa',hen',kG'⟩
     rcases gu j i with z | z
     ·exact hdis j z
     ·rw [show j=i by omega]
      exact ⟨k,hx⟩
    | none =>
     have hne:decide (oV none=V.int (-1))=true:=aq rfl
     rw [hne];have hnd:¬Ri.dis ps i:=fun ⟨k,e⟩=>by rw [hx] at e;cases e
     refine cq ⟨_,rfl,_,rfl,_,rfl,_,rfl,i,o,pa,en,g,ps,el,by rw [Int.zero_add];rfl,hon.same kG',hpa',hen',aN nep,aN npo,aN neo,?_,hg,hz,D,hi,hnd,fun ps' el' G2 D2 h1 h2 h3 h4 h5=>?_⟩
     ·intro as' i' a e1 e2
      rw [kG' _ _ ho] at e1;have e1:as.map V.ref=as'.map V.ref:=by injection (aA e1)
      have e3:as[i']? = some a:=by
       have:=congrArg (fun l=>l[i']?) e1
       simp only [aD,e2,fg] at this;cases e4:as[i']? with
       | none=>rw [e4] at this;cases this
       | some b =>
        rw [e4] at this;have this:V.ref b=V.ref a:=aA this
        injection this with this;rw [this]
      have ha:=hai i' a e3
      exact ⟨(fun z=>by rw [z,hpa] at ha;cases ha),(fun z=>by rw [z,henH] at ha;cases ha)⟩
     ·refine ⟨some (.int (0+i)),v4,ps',el',rfl,D2,fun j hj=>?_,h3,h4,fun c ob e=>h5 _ _ (kG' _ _ e) ?_⟩
      ·rcases gu j i with z | z
       ·exact h2 j (hdis j z)
       ·rw [show j=i by omega]
        exact h1
      ·rw [aF,aJ,not_or];exact ⟨af e hpa,af e henH⟩
   ·rintro σ G' ⟨v3,v4,ps,el,rfl,D,hdis,hpa',hen',kG'⟩
    exact ⟨_,rfl,q en ps el G' D (fun i hi=>((D.disc i).mp (hdis i hi)).resolve_left (fun z=>by cases z)) henH hen' kG'⟩
theorem lI {K:Fg_} {a:Addr} {xs:List V} {g:TG} {tb:TS} {D:ie} {σ:St} {H:Hp} (Pv:Nat→St→Hp→Prop) (h0:Pv 0 σ H) (hl:∀ i σ H,i≤xs.length→Pv i σ H→SqL K H a xs)
  (hs:∀ i x σ H T,xs[i]? = some x→Pv i σ H→H T=none→g (.ref T) σ (upd H T (.tup [.int (i:Nat),x])) fun σ2 H2=>tb { D with nx:=Pv (i+1),ct:=Pv (i+1),bk:=D.nx } σ2 H2) (hd:∀ σ H,Pv xs.length σ H→D.nx σ H) :
  ∃ W:Nat→Nat→St→Hp→Prop,(∃ m,W 0 m σ H)∧∀ i m σ H,W i m σ H →
   ((Ite K a).stop i H∧D.nx σ H)∨((Ite K a).go i H∧∃ N:St→Hp→Prop,(∀ σ' H',N σ' H'→∃ m',m'<m∧W (i+1) m' σ' H')∧∀ x H',(Ite K a).yld i H x H'→g x σ H' fun σ2 H2=>tb { D with nx:=N,ct:=N,bk:=D.nx } σ2 H2):=by
 refine ⟨fun i m σ H=>m=xs.length - i∧i≤xs.length∧Pv i σ H,⟨xs.length,by simp,a8 _,h0⟩,?_⟩
 rintro i m σ H ⟨rfl,hi,p⟩
 have q:=hl i σ H hi p
 by_cases hlt:i<xs.length
 ·refine .inr ⟨⟨xs,xs[i],q,by simp [hlt]⟩,Pv (i+1),fun σ' H' p'=>⟨xs.length - (i+1),by omega,rfl,hlt,p'⟩,fun x H' y=>?_⟩
  obtain ⟨T,x',rfl,hT,rfl,hx⟩:=y
  exact hs i x' σ H T (hx xs q) p hT
 ·have e:i=xs.length:=by omega
  subst e;exact .inl ⟨⟨xs,q,aI _⟩,hd σ H p⟩
theorem r9 {as:List Addr} (nd:as.Nodup) {i j:Nat} {a:Addr} (hi:as[i]? = some a) (hj:as[j]? = some a):i=j:=by
 obtain ⟨h1,e1⟩:=ay.mp hi
 obtain ⟨h2,e2⟩:=ay.mp hj
 exact (List.getElem_inj nd).mp (e1.trans e2.symm)
def xG:Sp:=fun vs H Q _=>∃ (o:Addr) (g:Ri.Gr),vs=[.ref o]∧n8 H o g∧Ri.GOk g∧g.length≤100000∧(g.map List.length).sum≤1000000 ∧
 ∀ (bk:Addr) (b:Ri.Gr) (H':Hp),Ri.Turned g b→Ri.GOk b→H bk=none→n8 H' bk b→bC H H'→(b.map List.length).sum≤1000000→Q (.ref bk) H'
def Half (g b:Ri.Gr) (i k:Nat):Prop:=b.length=g.length∧(∀ x j,x∈Ri.adj b j↔(x<i∧j∈Ri.adj g x)∨(x=i∧j∈(Ri.adj g i).take k))∧(b.map List.length).sum=((g.take i).map List.length).sum+k
theorem qR:∀ (b:Ri.Gr) (j:Nat),(Ri.adj b j).length≤(b.map List.length).sum
 | [],j=>a8 _
 | l::b,0=>by
  show l.length≤(l.length::b.map List.length).sum
  rw [dZ];omega
 | l::b,j+1=>by
  have ih:=qR b j
  have e:Ri.adj (l::b) (j+1)=Ri.adj b j:=by
   unfold Ri.adj;rw [fF]
  rw [e];show _≤(l.length::b.map List.length).sum
  rw [dZ];omega
theorem rD {b:Ri.Gr} {j:Nat} (hj:j<b.length) (l:List Nat) (i:Nat):Ri.adj (b.set j l) i=if j=i then l else Ri.adj b i:=by
 unfold Ri.adj;rw [List.getElem?_set];by_cases h:j=i
 ·rw [ao h,ao h,ao hj];rfl
 ·rw [ah h,ah h]
theorem rR:bw ["onward","backward","i","reached","j","turn"] ["onward"] (a9 sR4):=fs_
theorem ok_R4 {f:Addr} {fd:FuncData} (F:Fun K "turn_round" "turn_round" sR4 f fd) (enu:mg "enumerate" = none):bK P w K mg base CX0 1 f fd ["onward"] xG:=by
 refine F.ok rR (fun vs H Q E h=>?_) (fun cdv A outer s H vs Q E hr h=>?_)
 ·obtain ⟨o,g,rfl,_⟩:=h
  rfl
 ·obtain ⟨o,g,rfl,hon,hg,hz,hsum,q⟩:=h
  refine ⟨_,az (kX (i:=1) rfl rR.nd rfl rfl rfl (eN (pv 0)) (fe (own:=[("turn",5)]) (by kernel_rfl))
    (fun s H C cl fp=>cy (i:=5) rR.nd rfl (.inl rfl)) (fun s H C cl fp=>fZ) (fun s H C cl fp=>dX aL))
   (az (fm PassesOwn.never rfl (nj rfl enu (aj (pv 0) aL)) (p9 rfl (g6 (cy (i:=2) rR.nd rfl (.inl rfl)) (g6 (cy (i:=3) rR.nd rfl (.inl rfl)) nq)))
    (aH (fm PassesOwn.never rfl (eN (pv 3)) (cy (i:=4) rR.nd rfl (.inl rfl))
     (aH (b6 (g8 a7 PySem.F.slot_list_append PySem.F.type_list_append eI (cK bM (pv 1) (pv 4) (fun _ _=>rfl)) (aj (pv 2) aL)))))))
   (aH (b9 (pv 1)))),?_⟩
  try dsimp only [cY];obtain ⟨as,ho,hal,hai⟩:=id hon
  refine ⟨_,rfl,o,rfl,⟨_,SqL.of ho⟩,fun bk hbk=>?_⟩
  have nbo:bk≠o:=fun z=>by rw [z,ho] at hbk;cases hbk
  refine gM (xs:=as.map V.ref) (fun i G=>bC H G∧∃ cs:List Addr,cs.length=i∧cs.Nodup∧G bk=some (.lst (cs.map V.ref))∧∀ c∈cs,G c=some (.lst [])∧H c=none∧c≠bk) ?_ ?_ ?_ ?_
  ·exact ⟨fun c ob e=>(aa (af e hbk)).trans e,[],rfl,gF,au,fun c hc=>by cases hc⟩
  ·rintro i G _ ⟨kG,_⟩
   exact SqL.of (kG _ _ ho)
  ·rintro i x G hx ⟨kG,cs,hl,nd,hGb,hcs⟩
   have hi:=(ay.mp hx).1
   rw [ae] at hi;refine ⟨rfl,gU ⟨(by show 0≤sizeLine;decide),fun c hc=>?_⟩⟩
   have ncb:bk≠c:=fun z=>by rw [←z,hGb] at hc;cases hc
   have hcH:H c=none:=kG.free hc
   refine ⟨_,(aa ncb).trans hGb,?_,?_,cs++[c],?_,?_,?_,?_⟩
   ·rw [ae,hl,sizeLine_eq];omega
   ·exact fun b ob e=>(aa (af e hbk)).trans ((aa (af e hcH)).trans (kG _ _ e))
   ·rw [aG,hl];rfl
   ·rw [dS];refine ⟨nd,by simp,fun x hx y hy=>?_⟩
    rw [aJ.mp hy];intro z;rw [z] at hx;rw [(hcs c hx).1] at hc;cases hc
   ·rw [au,aO];rfl
   ·intro x hx;rcases aT.mp hx with hx | hx
    ·obtain ⟨h1,h2,h3⟩:=hcs x hx
     exact ⟨(aa h3).trans ((aa (fun z=>by rw [z,hc] at h1;cases h1)).trans h1),h2,h3⟩
    ·rw [aJ.mp hx];exact ⟨(aa (aN ncb)).trans au,hcH,aN ncb⟩
  ·rintro G ⟨kG,cs,hl,nd,hGb,hcs⟩
   rw [ae,hal] at hl;have hbkH:H bk=none:=hbk
   have outside:∀ c∈cs,∀ {y:Addr} {ob:HO},H y=some ob→y≠c:=fun c hc {y ob} e z=>by
    rw [z,(hcs c hc).2.1] at e;cases e
   refine ⟨_,rfl,o,_,rfl,SqL.of (kG _ _ ho),?_⟩
   refine lI (xs:=as.map V.ref) (fun i σ G'=>∃ (v2 v3 v4 v5:Option V) (b:Ri.Gr),σ=[some (.ref o),some (.ref bk),v2,v3,v4,v5]∧Half g b i 0∧bC H G'∧G' bk=some (.lst (cs.map V.ref))∧∀ j c,cs[j]? = some c→G' c=some (.lst ((Ri.adj b j).map nV))) ⟨none,none,none,none,List.replicate g.length [],rfl,?_,kG,hGb,?_⟩ ?_ ?_ ?_
   ·have e0:∀ j,Ri.adj (List.replicate g.length ([]:List Nat)) j=[]:=fun j=>by
     unfold Ri.adj;rw [cx];split<;>rfl
    refine ⟨cu,fun x j=>?_,?_⟩
    ·rw [e0,cQ];constructor
     ·intro z;cases z
     rintro (z | z)
     ·exact aP z.1 (cH _)
     ·cases z.2
    ·rw [List.map_replicate,cQ];show (List.replicate g.length 0).sum=0
     rw [List.sum_replicate_nat,Nat.mul_zero]
   ·intro j c hc;have e0:Ri.adj (List.replicate g.length ([]:List Nat)) j=[]:=by
     unfold Ri.adj;rw [cx];split<;>rfl
    rw [e0];exact (hcs c (bj hc)).1
   ·rintro i σ G' _ ⟨v2,v3,v4,v5,b,rfl,hb,kG',hbk',hc'⟩
    exact SqL.of (kG' _ _ ho)
   ·intro i x σ G' T hx z12_ hT
    refine e5_ z12_ fun v2 v3 v4 v5 b=>c5_ fun z13_ hb kG' hbk' hc'=>?_
    subst z13_;rw [aD] at hx;cases ea:as[i]? with
    | none=>rw [ea] at hx;cases hx
    | some a =>
     rw [ea] at hx;have hx:V.ref a=x:=aA hx
     subst hx;have hig:i<g.length:=by rw [←hal];exact (ay.mp ea).1
     refine ⟨T,_,rfl,SqT.of au,rfl,_,_,rfl,_,_,rfl,rfl,?_⟩
     have kT:∀ {y:Addr} {ob:HO},G' y=some ob→upd G' T (.tup [.int (i:Nat),V.ref a]) y=some ob:=fun e=>(aa (af e hT)).trans e
     have haH:=hai i a ea
     refine ⟨_,rfl,a,rfl,⟨_,SqL.of (kT (kG' _ _ haH))⟩,?_⟩
     refine ia (xs:=(Ri.adj g i).map nV) (fun k σ G2=>∃ (w4:Option V) (b2:Ri.Gr),σ=[some (.ref o),some (.ref bk),some (.int (i:Nat)),some (.ref a),w4,v5]∧Half g b2 i k∧bC H G2∧G2 bk=some (.lst (cs.map V.ref))∧∀ j c,cs[j]? = some c→G2 c=some (.lst ((Ri.adj b2 j).map nV))) ⟨v4,b,rfl,hb,fun y ob e=>kT (kG' _ _ e),kT hbk',fun j c e=>kT (hc' j c e)⟩ ?_ ?_ ?_
     ·rintro k σ G2 _ ⟨w4,b2,rfl,_,k2,_⟩
      exact SqL.of (k2 _ _ haH)
     ·intro k y σ G2 hy z14_;refine e2_ z14_ fun w4 b2=>c5_ fun z15_ z16_ k2 hbk2 hc2=>?_
      subst z15_;obtain ⟨hb1,hb2,hb3⟩:=z16_
      rw [aD] at hy;cases ej:(Ri.adj g i)[k]? with
      | none=>rw [ej] at hy;cases hy
      | some j =>
       rw [ej] at hy;have hy:nV j=y:=aA hy
       subst hy;have hjg:j<g.length:=hg i j (bj ej)
       obtain ⟨c,hc⟩:∃ c,cs[j]? = some c:=⟨cs[j]'(by rw [hl];exact hjg),aB _⟩
       have hcv:(cs.map V.ref)[j]? = some (V.ref c):=by rw [aD,hc];rfl
       have hcc:=hc2 j c hc
       have hcm:=hcs c (bj hc)
       have hkl:=(ay.mp ej).1
       have hgi:g[i]? = some (Ri.adj g i):=by
        unfold Ri.adj;rw [aB hig];rfl
       have hpart:((g.take i).map List.length).sum+(Ri.adj g i).length≤(g.map List.length).sum:=by
        have e:g=g.take i++(Ri.adj g i)::g.drop (i+1):=by
         have ad:Ri.adj g i=g[i]:=by
          unfold Ri.adj;rw [aB hig];rfl
         rw [ad,←bz hig,dI]
        conv=>rhs;rw [e]
        rw [aO,dN,ba,dZ];omega
       refine ⟨_,rfl,_,rfl,bk,_,(j:Int),_,rfl,rfl,SqL.of hbk2,dR hcv,.inl ⟨rfl,_,SqL.of hcc⟩,_,rfl,c,_,_,rfl,rfl,hcc,?_,some (nV j),b2.set j (Ri.adj b2 j++[i]),rfl,⟨?_,?_,?_⟩,?_,?_,?_⟩
       ·have:=qR b2 j
        rw [ae,sizeLine_eq];omega
       ·rw [cV];exact hb1
       ·intro x j'
        rw [rD (by rw [hb1];exact hjg),gE,ej]
        have e1:(some j).toList=[j]:=rfl
        rw [e1];by_cases e:j=j'
        ·subst e;rw [ao rfl,aT,aJ,hb2,aT,aJ];constructor
         ·rintro ((z | z) | z)
          ·exact .inl z
          ·exact .inr ⟨z.1,.inl z.2⟩
          ·exact .inr ⟨z,.inr rfl⟩
         ·rintro (z | ⟨z,w | w⟩)
          ·exact .inl (.inl z)
          ·exact .inl (.inr ⟨z,w⟩)
          ·exact .inr z
        ·rw [ah e,hb2,aT,aJ];constructor
         ·rintro (z | z)
          ·exact .inl z
          ·exact .inr ⟨z.1,.inl z.2⟩
         ·rintro (z | ⟨z,w | w⟩)
          ·exact .inl z
          ·exact .inr ⟨z,w⟩
          ·exact aP w.symm e
       ·have e:(b2.map List.length)[j]? = some (Ri.adj b2 j).length:=by
         rw [aD];unfold Ri.adj;rw [aB (show j<b2.length by rw [hb1];exact hjg)]
         rfl
        have:=kP _ j _ ((Ri.adj b2 j++[i]).length) e
        rw [fQ];rw [aG] at this ⊢;have h1:([i]:List Nat).length=1:=rfl
        omega
       ·exact fun y ob e=>(aa (outside c (bj hc) e)).trans (k2 _ _ e)
       ·exact (aa (aN hcm.2.2)).trans hbk2
       ·intro j' c' e'
        rw [rD (by rw [hb1];exact hjg)]
        by_cases e:j=j'
        ·subst e;rw [hc] at e'
         cases e'
         rw [ao rfl,au,aO];rfl
        ·rw [ah e,aa (fun (z:c'=c)=>e (r9 nd hc (by rw [←z];exact e')))]
         exact hc2 j' c' e'
     ·rintro σ G2 ⟨w4,b2,rfl,⟨hb1,hb2,hb3⟩,k2,hbk2,hc2⟩
      rw [ae] at hb2 hb3;refine ⟨_,_,w4,v5,b2,rfl,⟨hb1,fun x j=>?_,?_⟩,k2,hbk2,hc2⟩
      ·rw [hb2,cZ,cQ];constructor
       ·rintro (z | z)
        ·exact .inl ⟨by omega,z.2⟩
        ·exact .inl ⟨by omega,by rw [z.1];exact z.2⟩
       ·rintro (z | z)
        ·rcases gu x i with y | y
         ·exact .inl ⟨y,z.2⟩
         ·have:x=i:=by omega
          exact .inr ⟨this,by rw [←this];exact z.2⟩
        ·cases z.2
      ·have e:(g.take (i+1)).map List.length=(g.take i).map List.length++[(Ri.adj g i).length]:=by
        rw [gE,aO];unfold Ri.adj;rw [aB hig];rfl
       rw [e,dN,hb3];show _=_+(_+0)+0
       omega
   ·rintro σ G' ⟨v2,v3,v4,v5,b,rfl,⟨hb1,hb2,hb3⟩,kG',hbk',hc'⟩
    rw [ae,hal] at hb2 hb3;have T:Ri.Turned g b:=⟨hb1,fun i j=>by
     rw [hb2,cQ];constructor
     ·rintro (z | z)
      ·exact z.2
      ·cases z.2
     ·intro z;refine .inl ⟨?_,z⟩
      rcases gu i g.length with y | y
      ·exact y
      ·exfalso
       unfold Ri.adj at z;rw [bL.mpr y] at z;cases z⟩
    have B:Ri.GOk b:=fun j i h=>by
     rcases (hb2 i j).mp h with z | z
     ·rw [hb1];exact z.1
     ·cases z.2
    refine ⟨_,rfl,q bk b G' T B hbkH ⟨cs,hbk',by rw [hl,hb1],hc'⟩ kG' ?_⟩
    rw [hb3,cZ];omega
def uAt (b:Ri.Gr):Nat→List (Option Nat)→Nat
 | _,[]=>0
 | k,x::r=>(match x with
  | none=>(Ri.adj b k).length+1
  | some _=>0)+uAt b (k+1) r
theorem wx (b:Ri.Gr) (f:Nat):∀ (rs:List (Option Nat)) (k i:Nat),rs[i]? = some none→uAt b k (rs.set i (some f))+((Ri.adj b (k+i)).length+1)=uAt b k rs
 | [],_,_,h=>by cases h
 | x::r,k,0,h=>by
  have e:x=none:=aA h
  subst e;show 0+uAt b (k+1) r+((Ri.adj b k).length+1)=((Ri.adj b k).length+1)+uAt b (k+1) r
  omega
 | x::r,k,i+1,h=>by
  have ih:=wx b f r (k+1) i (by simpa using h)
  show _+uAt b (k+1) (r.set i (some f))+((Ri.adj b (k+(i+1))).length+1)=_+uAt b (k+1) r
  rw [show k+(i+1)=k+1+i by omega]
  omega
theorem u_le (b:Ri.Gr):∀ (rs:List (Option Nat)) (k:Nat),uAt b k rs≤((b.drop k).map List.length).sum+rs.length
 | [],k=>a8 _
 | x::r,k=>by
  have ih:=u_le b r (k+1)
  have hd:(Ri.adj b k).length+((b.drop (k+1)).map List.length).sum≤((b.drop k).map List.length).sum:=by
   unfold Ri.adj;cases e:b[k]? with
   | none =>
    have h:=bL.mp e
    rw [eE h,eE (by omega)]
    exact aI _
   | some l =>
    obtain ⟨hk,e2⟩:=ay.mp e
    rw [bz hk,e2,ba,dZ];exact aI _
  rw [aE];cases x with
  | none =>
   show (Ri.adj b k).length+1+uAt b (k+1) r≤_
   omega
  | some y =>
   show 0+uAt b (k+1) r≤_
   omega
def xH:Sp:=fun vs H Q _=>∃ (o:Addr) (g:Ri.Gr),vs=[.ref o]∧n8 H o g∧Ri.GOk g∧g.length≤100000∧(g.map List.length).sum≤1000000 ∧
 ∀ (rg:Addr) (rs:List (Option Nat)) (H':Hp),rs.length=g.length→(∀ i,i<g.length→Ri.dis rs i)→(∀ i j,i<g.length→j<g.length→(rs[i]? = rs[j]?↔Ri.Sc g i j))→H rg=none→H' rg=some (.lst (rs.map oV))→bC H H'→Q (.ref rg) H'
theorem pY:bw ["onward","backward","rings","first","left","i","turn"] ["onward"] (a9 sR3):=fs_
theorem ok_R3 {f fR4 fR5:Addr} {fd fd4 fd5:FuncData} (F:Fun K "join_rings" "join_rings" sR3 f fd) (rev:mg "reversed" = none) (nr:GI mg "NO_RING" (-1))
  (G4:Co P w K mg base CX0 1 fR4 fd4 ["onward"] xG "turn_round")
  (G5:Co P w K mg base CX0 2 fR5 fd5 ["onward"] xF "order_by_end") :
  bK P w K mg base CX0 3 f fd ["onward"] xH:=by
 refine F.ok pY (fun vs H Q E h=>?_) (fun cdv A outer s H vs Q E hr h=>?_)
 ·obtain ⟨o,g,rfl,_⟩:=h
  rfl
 ·obtain ⟨o,g,rfl,hon,hg,hz,hsum,q⟩:=h
  have hr1:cB 1 _:=hr.mono (by decide)
  refine ⟨_,az (br (i:=1) pY.nd rfl (.inl rfl) (cv G4 hr1 rfl cM (aj (pv 0) aL)))
   (az (kX (i:=2) rfl pY.nd rfl rfl rfl (eN (pv 0)) (fe (own:=[("turn",6)]) (by kernel_rfl))
    (fun s H C cl fp=>cy (i:=6) pY.nd rfl (.inl rfl)) (fun s H C cl fp=>fZ) (fun s H C cl fp=>pgi nr rfl))
   (az (fm PassesOwn.never rfl (kc rfl rev (aj (cv G5 hr rfl cM (aj (pv 0) aL)) aL)) (cy (i:=3) pY.nd rfl (.inl rfl))
    (az (br (i:=4) pY.nd rfl (.inl rfl) (oS (bo d8 (cK bM (pv 2) (pv 3) (fun _ _=>rfl)) (pgi nr rfl) (bA _)) (dX (aj (pv 3) aL)) (dX aL)))
    (aH (gy PassesOwn.never (cN (pv 4) (fun _=>rfl))
     (az (br (i:=5) pY.nd rfl (.inl rfl) (jk a7 PySem.F.slot_list_pop PySem.F.type_list_pop lu (pv 4)))
     (aH (bY (bo d8 (cK bM (pv 2) (pv 5) (fun _ _=>rfl)) (pgi nr rfl) (bA _))
      (az (p8 (pv 3) (qa (pv 2) (pv 5) jv))
      (aH (b6 (g8 a7 PySem.F.slot_list_extend PySem.F.type_list_extend jS (pv 4) (aj (cK bM (pv 1) (pv 5) (fun _ _=>rfl)) aL))))) bF)))))))
   (aH (b9 (pv 2))))),?_⟩
  try dsimp only [cY];obtain ⟨as,ho,hal,hai⟩:=id hon
  refine ⟨_,rfl,o,g,rfl,hon,hg,hz,hsum,fun bk b H1 T hb hbkH hbk s1 hbs=>?_⟩
  refine ⟨_,rfl,o,rfl,⟨_,SqL.of (s1 _ _ ho)⟩,fun rg hrg=>?_⟩
  have hrgH:H rg=none:=s1.free hrg
  refine gM (xs:=as.map V.ref) (fun i G=>bC H1 G∧G rg=some (.lst ((List.replicate i (none:Option Nat)).map oV))) ?_ ?_ ?_ ?_
  ·exact ⟨fun c ob e=>(aa (af e hrg)).trans e,au⟩
  ·rintro i G _ ⟨kG,_⟩
   exact SqL.of (kG _ _ (s1 _ _ ho))
  ·rintro i x G hx ⟨kG,hGp⟩
   refine ⟨rfl,gU ?_⟩
   have hi:=(ay.mp hx).1
   rw [ae] at hi;refine ⟨_,hGp,?_,fun c ob e=>(aa (af e hrg)).trans (kG _ _ e),?_⟩
   ·rw [ae,cu,sizeLine_eq];omega
   ·rw [au,List.replicate_succ',aO];rfl
  rintro G ⟨kG,hGp⟩
  rw [ae,hal] at hGp;have kHG:bC H G:=s1.trans kG
  refine ⟨_,rfl,o,g,rfl,hon.same kHG,hg,hz,fun en ps el G1 D hall henG hen s2=>?_⟩
  have nre:en≠rg:=fun z=>by rw [z,hGp] at henG;cases henG
  have hbkG:=(hbk.same kG).same s2
  obtain ⟨bs,hb1,hb2,hb3⟩:=id hbk
  have hellen:el.length≤g.length:=by
   have:=D.nodup
   rw [fh] at this;exact iK this fun i hi=>by
    have:=Ri.dis_lt ((D.disc i).mpr (.inr hi))
    rw [D.len] at this;exact this
  refine ⟨en,_,rfl,SqL.of hen,rk (xs:=el.map nV) (fun i σ G'=>∃ (v3 v4 v5 v6:Option V) (rs:List (Option Nat)),σ=[some (.ref o),some (.ref bk),some (.ref rg),v3,v4,v5,v6]∧i≤el.length∧Ri.R2 g (el.drop (el.length - i)) rs∧G' rg=some (.lst (rs.map oV))∧(∀ c ob,G1 c=some ob→c≠rg→G' c=some ob)) ⟨none,none,none,none,List.replicate g.length none,rfl,a8 _,?_,s2 _ _ hGp,fun c ob e _=>e⟩ ?_ ?_ ?_⟩
  ·rw [Nat.sub_zero,eV];exact Ri.R2.nil cu (fun i ⟨k,e⟩=>by
    rw [cx] at e;split at e<;>cases e)
  ·rintro i σ G' _ ⟨v3,v4,v5,v6,rs,rfl,_,_,_,kk⟩
   exact SqL.of (kk _ _ hen nre)
  ·rintro i y σ G' hi hy ⟨v3,v4,v5,v6,rs,rfl,hile,J,hrs,kk⟩
   rw [ae] at hi hy;rw [aD] at hy;have hlt:el.length - 1 - i<el.length:=by omega
   rw [aB hlt] at hy;have hy:nV el[el.length - 1 - i]=y:=aA hy
   subst hy;generalize hfe:el[el.length - 1 - i]=ff;have hsplit:el=el.take (el.length - 1 - i)++ff::el.drop (el.length - i):=by
    have e1:=bz hlt
    rw [show el.length - 1 - i+1=el.length - i by omega,hfe] at e1
    rw [←e1,dI]
   have hffg:ff<g.length:=by
    have hm:ff∈el:=by rw [hsplit];simp
    have:=Ri.dis_lt ((D.disc ff).mpr (.inr hm))
    rw [D.len] at this;exact this
   have hffl:ff<rs.length:=by rw [J.len];exact hffg
   have hdrop:el.drop (el.length - (i+1))=ff::el.drop (el.length - i):=by
    have e1:=bz hlt
    rw [show el.length - 1 - i+1=el.length - i by omega,hfe] at e1
    rw [show el.length - (i+1)=el.length - 1 - i by omega,e1]
   obtain ⟨x,hx⟩:∃ x,rs[ff]? = some x:=⟨_,aB hffl⟩
   have hxv:(rs.map oV)[ff]? = some (oV x):=by rw [aD,hx];rfl
   refine ⟨_,rfl,_,rfl,rg,_,(ff:Int),_,rfl,rfl,SqL.of hrs,dR hxv,jx x,_,rfl,?_⟩
   have frG:∀ {c:Addr},G' c=none→G1 c=none∧c≠rg:=fun {c} hc=>by
    have h2:c≠rg:=fun z=>by rw [z,hrs] at hc;cases hc
    refine ⟨?_,h2⟩
    cases e:G1 c with
    | none=>rfl
    | some ob=>rw [kk _ _ e h2] at hc;cases hc
   cases x with
   | some k =>
    have hne:decide (oV (some k)=V.int (-1))=false:=by
     show decide (V.int (k:Int)=V.int (-1))=false
     rw [fT,ax (by omega)]
    rw [hne];refine cp ⟨(by show 0≤sizeLine;decide),fun lf hlf=>?_⟩
    obtain ⟨hlf1,nlr⟩:=frG hlf
    refine ⟨fun m σ G2=>σ=[some (.ref o),some (.ref bk),some (.ref rg),some (nV ff),some (.ref lf),v5,v6]∧G2=upd G' lf (.lst []),⟨0,rfl,rfl⟩,?_⟩
    rintro m σ G2 ⟨rfl,rfl⟩
    refine ⟨_,rfl,_,.inl ⟨_,SqL.of au,rfl⟩,?_⟩
    refine cp ⟨some (nV ff),some (.ref lf),v5,v6,rs,rfl,by omega,?_,(aa (aN nlr)).trans hrs,fun c ob e n=>(aa (af e hlf1)).trans (kk _ _ e n)⟩
    rw [hdrop];exact J.skip ⟨k,hx⟩
   | none =>
    have hne:decide (oV none=V.int (-1))=true:=aq rfl
    rw [hne];have hnd:¬Ri.dis rs ff:=fun ⟨k,e⟩=>by rw [hx] at e;cases e
    refine cq ⟨_,rfl,(by show 1≤sizeLine;decide),fun lf hlf=>?_⟩
    obtain ⟨hlf1,nlr⟩:=frG hlf
    have hu0:uAt b 0 rs≤1100000:=by
     have:=u_le b rs 0
     rw [eQ,J.len] at this;omega
    refine ⟨fun m σ G2=>∃ (w5:Option V) (rs':List (Option Nat)) (l:List Nat),σ=[some (.ref o),some (.ref bk),some (.ref rg),some (nV ff),some (.ref lf),w5,v6]∧Ri.Fl g b ff rs rs' l∧G2 rg=some (.lst (rs'.map oV))∧G2 lf=some (.lst (l.map nV))∧(∀ c ob,G1 c=some ob→c≠rg→G2 c=some ob)∧m=uAt b 0 rs'+l.length∧m≤1200000,
     ⟨_,v5,rs,[ff],rfl,Ri.Fl.start hffg,(aa (aN nlr)).trans hrs,au,fun c ob e n=>(aa (af e hlf1)).trans (kk _ _ e n),rfl,by show uAt b 0 rs+1≤_;omega⟩,?_⟩
    rintro m σ G2 ⟨w5,rs',l,rfl,I,hrs',hlf',kk2,hm,hmb⟩
    refine ⟨_,rfl,_,.inl ⟨_,SqL.of hlf',rfl⟩,?_⟩
    rcases fV l with rfl | ⟨l',t,rfl⟩
    ·have D':=D
     rw [hsplit] at D'
     have all':∀ i,i<g.length→i∈el.take (el.length - 1 - i)++ff::el.drop (el.length - i)∨True:=fun _ _=>.inr trivial
     have J':=Ri.Fl.done T D' (fun j hj=>by rw [←hsplit];exact hall j hj) hg J hnd I
     refine cp ⟨some (nV ff),some (.ref lf),w5,v6,rs',rfl,by omega,?_,hrs',kk2⟩
     rw [hdrop];exact J'
    ·rw [fW] at I hlf' hm ⊢
     have hmap:(l'++[t]).map nV=l'.map nV++[nV t]:=by rw [aO];rfl
     rw [hmap] at hlf' ⊢
     have htr:(!(l'.map nV++[nV t]).isEmpty)=true:=by simp
     rw [htr];refine cq ⟨_,fun σ' G3 h=>h,?_⟩
     refine ⟨_,rfl,.inl ⟨rfl,_,SqL.of hlf'⟩,lf,_,nV t,rfl,rfl,hlf',?_,?_⟩
     ·rw [aG];show (l'.map nV++[nV t])[(l'.map nV).length+1 - 1]? = _
      rw [eC,bW (aI _),dB];rfl
     have hdl:(l'.map nV++[nV t]).dropLast=l'.map nV:=dU
     rw [hdl];rw [aG] at hm;have h1:([t]:List Nat).length=1:=rfl
     have htg:t<g.length:=(I.lf t (by simp)).2
     have htl:t<rs'.length:=by rw [I.len,J.len];exact htg
     obtain ⟨x,hx'⟩:∃ x,rs'[t]? = some x:=⟨_,aB htl⟩
     have hxv':(rs'.map oV)[t]? = some (oV x):=by rw [aD,hx'];rfl
     have hrg3:upd G2 lf (.lst (l'.map nV)) rg=some (.lst (rs'.map oV)):=(aa (aN nlr)).trans hrs'
     have kk3:∀ c ob,G1 c=some ob→c≠rg→upd G2 lf (.lst (l'.map nV)) c=some ob:=fun c ob e n=>(aa (af e hlf1)).trans (kk2 _ _ e n)
     refine ⟨_,rfl,_,rfl,rg,_,(t:Int),_,rfl,rfl,SqL.of hrg3,dR hxv',jx x,_,rfl,?_⟩
     cases x with
     | some k =>
      have hne':decide (oV (some k)=V.int (-1))=false:=by
       show decide (V.int (k:Int)=V.int (-1))=false
       rw [fT,ax (by omega)]
      rw [hne'];exact cp ⟨uAt b 0 rs'+l'.length,by omega,some (nV t),rs',l',rfl,I.skip ⟨k,hx'⟩,hrg3,au,kk3,rfl,by omega⟩
     | none =>
      have hne':decide (oV none=V.int (-1))=true:=aq rfl
      rw [hne'];have hnd':¬Ri.dis rs' t:=fun ⟨k,e⟩=>by rw [hx'] at e;cases e
      have I':=I.meet T hg hb J.len hnd'
      have hu:=wx b ff rs' 0 t hx'
      rw [dA] at hu;obtain ⟨a,ha⟩:∃ a,bs[t]? = some a:=⟨bs[t]'(by rw [hb2,T.1];exact htg),aB _⟩
      have hav:(bs.map V.ref)[t]? = some (V.ref a):=by rw [aD,ha];rfl
      have ha1:G1 a=some (.lst ((Ri.adj b t).map nV)):=s2 _ _ (kG _ _ (hb3 t a ha))
      have hb1':G1 bk=some (.lst (bs.map V.ref)):=s2 _ _ (kG _ _ hb1)
      have nar:a≠rg:=fun z=>by
       have:=hb3 t a ha
       rw [z,hrg] at this;cases this
      have nbr:bk≠rg:=fun z=>by rw [z,hrg] at hb1;cases hb1
      refine cq ⟨_,rfl,_,rfl,_,rfl,rg,_,(t:Int),t,rfl,rfl,hrg3,nJ (by rw [ae];exact htl),?_⟩
      have e2:(rs'.map oV).set t (nV ff)=(rs'.set t (some ff)).map oV:=by rw [fQ];rfl
      rw [e2];have hlf4:upd (upd G2 lf (.lst (l'.map nV))) rg (.lst ((rs'.set t (some ff)).map oV)) lf=some (.lst (l'.map nV)):=(aa nlr).trans au
      have kk4:∀ c ob,G1 c=some ob→c≠rg→upd (upd G2 lf (.lst (l'.map nV))) rg (.lst ((rs'.set t (some ff)).map oV)) c=some ob:=fun c ob e n=>(aa n).trans (kk3 c ob e n)
      refine ⟨_,rfl,.inl ⟨rfl,_,SqL.of hlf4⟩,_,rfl,_,rfl,bk,_,(t:Int),_,rfl,rfl,SqL.of (kk4 _ _ hb1' nbr),dR hav,lf,a,_,_,rfl,rfl,hlf4,kk4 _ _ ha1 nar,?_,?_⟩
      ·rw [ae,ae,sizeLine_eq];omega
      ·refine ⟨uAt b 0 (rs'.set t (some ff))+(l'++Ri.adj b t).length,?_,some (nV t),rs'.set t (some ff),l'++Ri.adj b t,rfl,I',(aa (aN nlr)).trans au,?_,?_,rfl,?_⟩
       ·rw [aG];omega
       ·rw [au,aO]
       ·exact fun c ob e n=>(aa (af e hlf1)).trans (kk4 c ob e n)
       ·rw [aG];omega
  ·rintro σ G' ⟨v3,v4,v5,v6,rs,rfl,_,J,hrs,kk⟩
   rw [ae,dB,eQ] at J;exact ⟨_,rfl,q rg rs G' J.len (fun i hi=>J.ful i (hall i hi)) (fun i j hi hj=>J.same hall hi hj) hrgH hrs fun c ob e=>kk _ _ (s2 _ _ (kHG _ _ e)) (af e hrgH)⟩
theorem Kp.free {H H1:Hp} {r x:Addr} (k:Kp H H1 r) (h:∃ o,H1 r=some o) (hx:H1 x=none):H x=none:=by
 obtain ⟨o,h⟩:=h
 cases e:H x with
 | none=>rfl
 | some o' =>
  have:=k _ _ e (fun z=>by rw [z,h] at hx;cases hx)
  rw [hx] at this;cases this
theorem oA {t rest:TS} {D:ie} {σ:St} {H:Hp} (I:St→Hp→Prop) (go:∀ σ' H',I σ' H'→rest D σ' H') (h:(∀ σ' H',I σ' H'→rest D σ' H')→t { D with nx:=rest D } σ H):w8 t rest D σ H:=h go
structure FD where
 part:Addr
 shape:Nat
 kinds:V
 low:V
 high:V
 row:V
 named:V
 must:V
 rest:V
 used:V
 inside:V
def ff (d:FD):List (Str×V):=[("part",.ref d.part),("shape",.int (d.shape:Int)),("kinds",d.kinds),("low",d.low),("high",d.high),("row",d.row),("named",d.named),("must",d.must),("rest",d.rest),("used",d.used),("inside",d.inside)]
def iy (CO:Addr) (H:Hp) (f:Addr) (d:FD):Prop:=∃ dx,H f=some (.ins CO dx (ff d))
structure TxF (K:Fg_) (mg:Str→Option Value) (CO ak:Addr):Prop where
 cO:Cls K CO
 nPa:cC K CO "part"
 nSh:cC K CO "shape"
 nKi:cC K CO "kinds"
 nLo:cC K CO "low"
 nHi:cC K CO "high"
 nRo:cC K CO "row"
 nNa:cC K CO "named"
 nMu:cC K CO "must"
 nRe:cC K CO "rest"
 nUs:cC K CO "used"
 nIn:cC K CO "inside"
 mO:mg "Form" = some (.ref CO)
 mA:mg "ALL_KINDS" = some (.ref ak)
 s0:GI mg "PLAIN" 0
 s1:GI mg "SAME" 1
 s2:GI mg "MEMBERS" 2
 s3:GI mg "NAMES" 3
 s4:GI mg "ONE" 4
 s5:GI mg "USE" 5
def fd0 (m:Addr) (ak rw nm mu ins:Addr):FD:=⟨m,0,.ref ak,.non,.non,.ref rw,.ref nm,.ref mu,.non,.non,.ref ins⟩
structure NewF (CO ak:Addr) (H H':Hp) (f m:Addr):Prop where
 ex:∃ rw nm mu ins,H rw=none∧H nm=none∧H mu=none∧H ins=none∧rw≠f∧nm≠f∧mu≠f∧ins≠f∧rw≠nm∧rw≠mu∧rw≠ins∧nm≠mu∧nm≠ins∧mu≠ins∧iy CO H' f (fd0 m ak rw nm mu ins)∧H' nm=some (.dT [])∧H' ins=some (.lst [])
def pW (CO ak:Addr):Sp:=fun vs H Q _=>∃ (f m dx:Addr),vs=[.ref f,.ref m]∧H f=some (.ins CO dx [])∧∀ H':Hp,NewF CO ak H H' f m→Kp H H' f→Q .non H'
theorem scFO:bw ["self","part"] ["self","part"] (a9 yi):=fs_
theorem ok_FO {f:Addr} {fd:FuncData} (F:Fun K "__init__" "Form.__init__" yi f fd) (TF:TxF K mg CO ak):bK P w K mg base CX0 1 f fd ["self","part"] (pW CO ak):=by
 refine F.ok scFO (fun vs H Q E h=>?_) (fun cdv A outer s H vs Q E hr h=>?_)
 ·obtain ⟨f,m,dx,rfl,_⟩:=h
  rfl
 ·obtain ⟨f,m,dx,rfl,hf,q⟩:=h
  refine ⟨_,az (bN (pv 0) (pv 1) rfl) (az (bN (pv 0) (pgi TF.s0 rfl) rfl) (az (bN (pv 0) (kC (v:=V.ref ak) rfl TF.mA rfl) rfl) (az (bN (pv 0) jO rfl) (az (bN (pv 0) jO rfl)
   (az (bN (pv 0) (dX aL) rfl) (az (bN (pv 0) oU rfl) (az (bN (pv 0) (dX aL) rfl) (az (bN (pv 0) jO rfl) (az (bN (pv 0) jO rfl) (aH (bN (pv 0) (dX aL) rfl))))))))))),?_⟩
  try dsimp only [cY];refine ⟨_,rfl,_,rfl,f,CO,dx,[],rfl,hf,TF.cO,TF.nPa,(by show 0<1000;decide),?_⟩
  refine ⟨_,rfl,f,CO,dx,_,rfl,au,TF.cO,TF.nSh,(by show 1<1000;decide),?_⟩
  refine ⟨_,rfl,f,CO,dx,_,rfl,au,TF.cO,TF.nKi,(by show 2<1000;decide),?_⟩
  refine ⟨_,rfl,f,CO,dx,_,rfl,au,TF.cO,TF.nLo,(by show 3<1000;decide),?_⟩
  refine ⟨_,rfl,f,CO,dx,_,rfl,au,TF.cO,TF.nHi,(by show 4<1000;decide),?_⟩
  rw [ip,ip,ip,ip];generalize hG:upd H f _=G;have hGf:=(congrFun hG f).symm.trans au
  have kG:Kp H G f:=fun b o e n=>by rw [←hG,aa n];exact e
  have fr:∀ {x:Addr},G x=none→H x=none∧x≠f:=fun {x} hx=>by
   have n:x≠f:=fun z=>by rw [z,hGf] at hx;cases hx
   exact ⟨kG.free ⟨_,hGf⟩ hx,n⟩
  refine ⟨a8 _,fun rw' hrw=>?_⟩
  obtain ⟨hrwH,nrf⟩:=fr hrw
  refine ⟨_,rfl,f,CO,dx,_,rfl,(aa (aN nrf)).trans hGf,TF.cO,TF.nRo,(by show 5<1000;decide),?_⟩
  generalize hG2:upd (upd G rw' (.lst [])) f _=G2;have hGf2:=(congrFun hG2 f).symm.trans au
  have kG2:Kp H G2 f:=fun b o e n=>by rw [←hG2,aa n,aa (af e hrwH)];exact kG _ _ e n
  have hrw2:G2 rw'=some (.lst []):=by rw [←hG2,aa nrf,au]
  refine fun nm hnm=>?_
  have nnf:nm≠f:=fun z=>by rw [z,hGf2] at hnm;cases hnm
  have hnmH:H nm=none:=kG2.free ⟨_,hGf2⟩ hnm
  have nrn:rw'≠nm:=fun z=>by rw [←z,hrw2] at hnm;cases hnm
  refine ⟨_,rfl,f,CO,dx,_,rfl,(aa (aN nnf)).trans hGf2,TF.cO,TF.nNa,(by show 6<1000;decide),?_⟩
  generalize hG3:upd (upd G2 nm (.dT [])) f _=G3;have hGf3:=(congrFun hG3 f).symm.trans au
  have kG3:Kp H G3 f:=fun b o e n=>by rw [←hG3,aa n,aa (af e hnmH)];exact kG2 _ _ e n
  have hrw3:G3 rw'=some (.lst []):=by rw [←hG3,aa nrf,aa nrn];exact hrw2
  have hnm3:G3 nm=some (.dT []):=by rw [←hG3,aa nnf,au]
  refine ⟨a8 _,fun mu hmu=>?_⟩
  have nmf:mu≠f:=fun z=>by rw [z,hGf3] at hmu;cases hmu
  have hmuH:H mu=none:=kG3.free ⟨_,hGf3⟩ hmu
  have nrm:rw'≠mu:=fun z=>by rw [←z,hrw3] at hmu;cases hmu
  have nnm:nm≠mu:=fun z=>by rw [←z,hnm3] at hmu;cases hmu
  refine ⟨_,rfl,f,CO,dx,_,rfl,(aa (aN nmf)).trans hGf3,TF.cO,TF.nMu,(by show 7<1000;decide),?_⟩
  refine ⟨_,rfl,f,CO,dx,_,rfl,au,TF.cO,TF.nRe,(by show 8<1000;decide),?_⟩
  refine ⟨_,rfl,f,CO,dx,_,rfl,au,TF.cO,TF.nUs,(by show 9<1000;decide),?_⟩
  rw [ip,ip];generalize hG4:upd (upd G3 mu (.lst [])) f _=G4;have hGf4:=(congrFun hG4 f).symm.trans au
  have kG4:Kp H G4 f:=fun b o e n=>by rw [←hG4,aa n,aa (af e hmuH)];exact kG3 _ _ e n
  have hrw4:G4 rw'=some (.lst []):=by rw [←hG4,aa nrf,aa nrm];exact hrw3
  have hnm4:G4 nm=some (.dT []):=by rw [←hG4,aa nnf,aa nnm];exact hnm3
  have hmu4:G4 mu=some (.lst []):=by rw [←hG4,aa nmf,au]
  refine ⟨a8 _,fun ins hins=>?_⟩
  have nif:ins≠f:=fun z=>by rw [z,hGf4] at hins;cases hins
  have hinsH:H ins=none:=kG4.free ⟨_,hGf4⟩ hins
  have nri:rw'≠ins:=fun z=>by rw [←z,hrw4] at hins;cases hins
  have nni:nm≠ins:=fun z=>by rw [←z,hnm4] at hins;cases hins
  have nmi:mu≠ins:=fun z=>by rw [←z,hmu4] at hins;cases hins
  refine ⟨_,rfl,f,CO,dx,_,rfl,(aa (aN nif)).trans hGf4,TF.cO,TF.nIn,(by show 10<1000;decide),?_⟩
  refine q _ ⟨rw',nm,mu,ins,hrwH,hnmH,hmuH,hinsH,nrf,nnf,nmf,nif,nrn,nrm,nri,nnm,nni,nmi,⟨dx,au⟩,?_,?_⟩ fun b o e n=>?_
  ·rw [aa nnf,aa nni];exact hnm4
  ·rw [aa nif,au]
  ·rw [aa n,aa (af e hinsH)];exact kG4 _ _ e n
def bD (n:List UInt8):PyData:=.list (n.map fun c=>.int (c.toNat:Int))
theorem uV {K:Fg_} {H:Hp}:∀ n:List UInt8,DpAll K H (n.map bv) (n.map fun c=>.int (c.toNat:Int))
 | []=>.nil
 | c::n=>.cons (.int _) (uV n)
theorem uU {K:Fg_} {H:Hp} {a:Addr} {n:List UInt8} (h:SqL K H a (n.map bv)):Dp K H (.ref a) (bD n):=.lst h (uV n)
theorem nI:∀ n:List UInt8,PyData.canLayAll0 (n.map fun c=>.int (c.toNat:Int))=true
 | []=>rfl
 | c::n=>by
  show (PyData.canLay0 _&&PyData.canLayAll0 (n.map fun c=>.int (c.toNat:Int)))=true
  rw [nI n];rfl
theorem nP:∀ n:List UInt8,PyData.depthAll (n.map fun c=>.int (c.toNat:Int))=0
 | []=>rfl
 | c::n=>by
  show max (PyData.depth _) (PyData.depthAll (n.map fun c=>.int (c.toNat:Int)))=0
  rw [nP n];rfl
theorem mW (n:List UInt8):SeqAt.shaped (bD n)=true:=by
 unfold SeqAt.shaped;rw [bb,bQ];refine ⟨nI n,?_⟩
 show PyData.depthAll (n.map fun c=>.int (c.toNat:Int))+1≤64
 rw [nP];decide
theorem uT:∀ n k:List UInt8,PyData.eqvAll (n.map fun c=>.int (c.toNat:Int)) (k.map fun c=>.int (c.toNat:Int))=(n==k)
 | [],[]=>rfl
 | [],_::_=>rfl
 | _::_,[]=>rfl
 | c::n,d::k=>by
  show (PyData.eqv (.int (c.toNat:Int)) (.int (d.toNat:Int))&&PyData.eqvAll (n.map fun c=>.int (c.toNat:Int)) (k.map fun c=>.int (c.toNat:Int)))=(c==d&&n==k)
  rw [uT n k];congr 1
  show ((c.toNat:Int)==(d.toNat:Int))=(c==d)
  by_cases e:c=d
  ·subst e;simp
  ·have hn:¬c.toNat=d.toNat:=fun z=>e (UInt8.toNat_inj.mp z)
   rw [aQ.mpr e,aQ.mpr (by omega)]
theorem o3:∀ n:List (List UInt8),PyData.canLayAll0 (n.map bD)=true
 | []=>rfl
 | c::n=>by
  show (PyData.canLayAll0 (c.map fun c=>.int (c.toNat:Int))&&PyData.canLayAll0 (n.map bD))=true
  rw [o3 n,nI c];rfl
theorem ph:∀ n:List (List UInt8),PyData.depthAll (n.map bD)≤1
 | []=>by show 0≤1;decide
 | c::n=>by
  show max (PyData.depthAll (c.map fun c=>.int (c.toNat:Int))+1) (PyData.depthAll (n.map bD))≤1
  have:=ph n
  rw [nP c];omega
theorem lP (n:List (List UInt8)):SeqAt.shaped (.list (n.map bD))=true:=by
 unfold SeqAt.shaped;rw [bb,bQ];refine ⟨o3 n,?_⟩
 show PyData.depthAll (n.map bD)+1≤64
 have:=ph n
 omega
theorem uS:∀ n k:List (List UInt8),PyData.eqvAll (n.map bD) (k.map bD)=(n==k)
 | [],[]=>rfl
 | [],_::_=>rfl
 | _::_,[]=>rfl
 | c::n,d::k=>by
  show (PyData.eqvAll (c.map fun c=>.int (c.toNat:Int)) (d.map fun c=>.int (c.toNat:Int))&&PyData.eqvAll (n.map bD) (k.map bD))=(c==d&&n==k)
  rw [uS n k,uT]
theorem nX {K:Fg_} {H:Hp}:∀ (as:List Addr) (n:List (List UInt8)),as.length=n.length→(∀ (i:Nat) (a:Addr) (x:List UInt8),as[i]? = some a→n[i]? = some x→SqL K H a (x.map bv))→DpAll K H (as.map V.ref) (n.map bD)
 | [],[],_,_=>.nil
 | a::as,x::n,h,f=>.cons (uU (f 0 a x rfl rfl)) (nX as n (by simpa using h) fun i a x e1 e2=>f (i+1) a x (by simpa using e1) (by simpa using e2))
 | [],_::_,h,_=>by cases h
 | _::_,[],h,_=>by cases h
theorem kD {X:Cx} {K:Fg_} {e:Expr} {te:TE} {f:Str} {pos:Pos} (hK:X.K=K) (he:PE X e te) (hb:attributeBase e f X.env (eval e X.env)=eval e X.env):PE X (.Attribute e f pos) (tFld K te f):=by
 subst hK;exact aU he hb
def Nw (H:Hp) (Q:VK) (r:List UInt8):Prop:=∀ (x:Addr) (H':Hp),H x=none→H' x=some (.lst (r.map bv))→bC H H'→Q (.ref x) H'
def sB (r:List UInt8):Str:=sOf (r.map (·.toNat))
def vi:Sp:=fun vs H Q _=>∃ r:List UInt8,vs=[.str (sB r)]∧r.length<16000000∧Nw H Q r
def tJ (K:Fg_) (CP:Addr):Sp:=fun vs H Q _=>∃ (m t:Addr) (bs:List UInt8) (v:Sw.Value) (p np:Nat) (n:List UInt8) (ws:List (List UInt8)),vs=[.ref m,.ref t]∧Nd CP H bs m v p np n∧(Pm.rowOf v).length≤65536∧H t=some (.tup (ws.map fun x=>.str (sB x)))∧(∀ x∈ws,x.length<1000)∧ws.length<1000 ∧
 ∀ H':Hp,bC H H'→Q (.bl (Fo.hasN v ws)) H'
theorem iL:∀ (m:Sw.Row) (i:Nat),m.names[i]? = (m.get? i).map fun (x:Sw.Bytes×Sw.Value)=>x.1
 | .nil,i=>rfl
 | .cons n v r,0=>rfl
 | .cons n v r,i+1=>iL r i
theorem dF:∀ (m:Sw.Row),m.names.length=m.length
 | .nil=>rfl
 | .cons n v r=>congrArg (· + 1) (dF r)
theorem ye:bw ["words","sign"] ["words"] (a9 sSO):=fs_
theorem ok_SO {f:Addr} {fd:FuncData} (F:Fun K "signs_of" "signs_of" sSO f fd) (ord:mg "ord" = none):bK P w K mg base CX0 1 f fd ["words"] vi:=by
 refine F.ok ye (fun vs H Q E h=>?_) (fun cdv A outer s H vs Q E hr h=>?_)
 ·obtain ⟨r,rfl,_⟩:=h
  rfl
 ·obtain ⟨r,rfl,hz,q⟩:=h
  refine ⟨_,aH (b9 (la rfl ye.nd (ym (pv 0)) (fe (own:=[("sign",1)]) (by kernel_rfl))
   (fun s H C cl fp=>cy (i:=1) ye.nd rfl (.inl rfl)) (fun s H C cl fp=>fZ) (fun s H C cl fp=>di uN (by rfl) ord PyProof.Rows.boot_ord (aj (pv 1) aL)))),?_⟩
  try dsimp only [cY]
  refine ⟨_,rfl,_,rfl,fun D hD=>?_⟩
  refine yB (x:=sB r) (fun i G=>bC H G∧G D=some (.lst ((r.take i).map bv))) ?_ ?_ ?_
  ·exact ⟨fun c o e=>(aa (af e hD)).trans e,au⟩
  ·rintro i c G hc ⟨kG,hDl⟩
   have hc:(r.map (·.toNat))[i]? = some c:=by
    have hc:((r.map (·.toNat)).toArray)[i]? = some c:=hc
    simpa using hc
   rw [aD] at hc
   cases er:r[i]? with
   | none=>rw [er] at hc;cases hc
   | some b =>
    rw [er] at hc
    have hc:b.toNat=c:=aA hc
    subst hc
    have hi:i<r.length:=(ay.mp er).1
    refine ⟨rfl,gU ?_⟩
    refine ⟨_,rfl,_,rfl,rfl,_,hDl,?_,?_⟩
    ·rw [ae,aY,sizeLine_eq]
     omega
    ·refine ⟨fun c o e=>(aa (af e hD)).trans (kG c o e),?_⟩
     rw [au,cw,er,aO]
     rfl
  ·rintro G ⟨kG,hDl⟩
   refine q D G hD ?_ kG
   have e:(sB r).cps.size=r.length:=by
    show ((r.map (·.toNat)).toArray).size=_
    simp
   rw [e,cZ] at hDl
   exact hDl
theorem tN:bw ["part","names","member","name"] ["part","names"] (a9 sHN):=fs_
theorem ok_HN {f fSO:Addr} {fd fdS:FuncData} (F:Fun K "has_names" "has_names" sHN f fd) (TP:TxP K mg CP) (len:mg "len" = none) (k6:GI mg "RECORD" 6)
  (GS:Co P w K mg base CX0 1 fSO fdS ["words"] vi "signs_of") :
  bK P w K mg base CX0 2 f fd ["part","names"] (tJ K CP):=by
 refine F.ok tN (fun vs H Q E h=>?_) (fun cdv A outer s H vs Q E hr h=>?_)
 ·obtain ⟨m,t,bs,v,p,np,n,ws,rfl,_⟩:=h
  rfl
 ·obtain ⟨m,t,bs,v,p,np,n,ws,rfl,nd,hrz,ht,hwl,hwn,q⟩:=h
  refine ⟨_,az (bY (PW.pt (je (bo jf (aU (pv 0) rfl) (pgi k6 rfl) (bA _)) (gX (bo jf (di eo (by rfl) len b8 (aj (aU (pv 0) rfl) aL)) (di eo (by rfl) len b8 (aj (pv 1) aL)) (bA _)))))
    (aH (b9 pe_bl)) bF)
   (aH (b9 (kE (ue hr.units) (la rfl tN.nd (eN (aU (pv 0) rfl)) (fe (own:=[("member",2)]) (by kernel_rfl))
     (fun s H C cl fp=>cy (i:=2) tN.nd rfl (.inl rfl)) (fun s H C cl fp=>fZ) (fun s H C cl fp=>kD (K:=K) rfl (pv 2) rfl))
    (la rfl tN.nd (yl (pv 1)) (fe (own:=[("name",3)]) (by kernel_rfl))
     (fun s H C cl fp=>cy (i:=3) tN.nd rfl (.inl rfl)) (fun s H C cl fp=>fZ) (fun s H C cl fp=>cv GS hr rfl cM (aj (pv 3) aL))) (bA _)))),?_⟩
  try dsimp only [cY];obtain ⟨nl,l,as,dx,hnl,hm,hl,hal,hmem⟩:=nd.pt
  refine ⟨_,rfl,fd_ hm TP.cP TP.nKi rfl ⟨rfl,_,rfl,?_⟩⟩
  have hkd:(Pm.pdOf v p np n.length).kind=v.kind:=by cases v<;>rfl
  by_cases hk:v.kind=6
  ·rw [show decide (V.int ((Pm.pdOf v p np n.length).kind:Int)=V.int 6)=true by rw [hkd,hk];exact aq rfl]
   refine cp ?_
   refine ⟨_,rfl,fd_ hm TP.cP TP.nMe rfl ⟨l,_,rfl,.inl (SqL.of hl),_,rfl,t,_,rfl,.inr (SqT.of ht),rfl,_,rfl,?_⟩⟩
   rw [ae,ae,hal];by_cases hlen:(Pm.rowOf v).length=ws.length
   ·rw [hlen];rw [show (!decide (V.int ((ws.length:Nat):Int)=V.int ((ws.length:Nat):Int)))=false by rw [aq rfl];rfl]
    refine cp ?_
    refine ⟨_,rfl,fd_ hm TP.cP TP.nMe rfl ⟨l,rfl,⟨_,SqL.of hl⟩,fun D hD=>?_⟩⟩
    have hnk:∀ (i:Nat) (a:Addr),as[i]? = some a→∃ (nl':Addr) (l' dx':Addr) (d':PD) (x:List UInt8),(Pm.rowOf v).names[i]? = some x∧H nl'=some (.lst (x.map bv))∧H a=some (.ins CP dx' (pf d' nl' l')):=fun i a e=>by
     obtain ⟨n',w',np',em,nd'⟩:=hmem i a e
     obtain ⟨nl',l',as',dx',hnl',hm',_⟩:=nd'.pt
     refine ⟨nl',l',dx',_,n',?_,hnl',hm'⟩
     have em:(Pm.rowOf v).get? i=some (n',w'):=by
      cases v<;>first | exact em | cases hk
     rw [iL,em];rfl
    refine gM (xs:=as.map V.ref) (fun i G=>bC H G∧∃ cs:List Addr,G D=some (.lst (cs.map V.ref))∧cs.length=i∧∀ (j:Nat) (c:Addr) (x:List UInt8),cs[j]? = some c→(Pm.rowOf v).names[j]? = some x→H c=some (.lst (x.map bv))) ?_ ?_ ?_ ?_
    ·exact ⟨fun c o e=>(aa (af e hD)).trans e,[],au,rfl,fun j c x e=>by cases e⟩
    ·rintro i G _ ⟨kG,_⟩
     exact SqL.of (kG _ _ hl)
    ·rintro i x G hx ⟨kG,cs,hcs,hcl,hcx⟩
     rw [aD] at hx;cases ea:as[i]? with
     | none=>rw [ea] at hx;cases hx
     | some a =>
      rw [ea] at hx;have hx:V.ref a=x:=aA hx
      subst hx;obtain ⟨nl',l',dx',d',x,ex,hnl',hm'⟩:=hnk i a ea
      have hi:i<as.length:=(ay.mp ea).1
      refine ⟨rfl,gU ?_⟩
      refine ⟨_,rfl,fd_ (kG _ _ hm') TP.cP TP.nNl rfl ⟨_,hcs,?_,fun c o e=>(aa (af e hD)).trans (kG c o e),cs++[nl'],?_,by rw [aG,hcl];rfl,?_⟩⟩
      ·rw [ae,hcl,sizeLine_eq];omega
      ·rw [au,aO];rfl
      ·intro j c y ec ey;rw [dq] at ec;split at ec
       ·exact hcx j c y ec ey
       ·rename_i hj
        have hjl:j - cs.length<1:=(ay.mp ec).1
        have ej:j=i:=by omega
        subst ej;rw [hcl,dB] at ec;have ec:nl'=c:=aA ec
        subst ec;rw [ex] at ey;injection ey with ey;subst ey;exact hnl'
    rintro G ⟨kG,cs,hcs,hcl,hcx⟩
    rw [ae] at hcl;refine ⟨_,rfl,t,rfl,⟨_,SqT.of (kG _ _ ht)⟩,fun D2 hD2=>?_⟩
    refine yA (xs:=ws.map fun x=>.str (sB x)) (fun i G'=>bC G G'∧∃ cs:List Addr,G' D2=some (.lst (cs.map V.ref))∧cs.length=i∧∀ (j:Nat) (c:Addr) (x:List UInt8),cs[j]? = some c→ws[j]? = some x→G' c=some (.lst (x.map bv))∧c≠D2) ?_ ?_ ?_ ?_
    ·exact ⟨fun c o e=>(aa (af e hD2)).trans e,[],au,rfl,fun j c x e=>by cases e⟩
    ·rintro i G' _ ⟨kG',_⟩
     exact SqT.of (kG' _ _ (kG _ _ ht))
    ·rintro i x G' hx ⟨kG',cs',hcs',hcl',hcx'⟩
     rw [aD] at hx;cases ea:ws[i]? with
     | none=>rw [ea] at hx;cases hx
     | some r =>
      rw [ea] at hx;have hx:V.str (sB r)=x:=aA hx
      subst hx;have hi:i<ws.length:=(ay.mp ea).1
      refine ⟨rfl,gU ?_⟩
      refine ⟨_,rfl,r,rfl,by have:=hwl r (bj ea);omega,fun x G'' hx' hG'' kG''=>?_⟩
      have nxD:x≠D2:=fun z=>by rw [z,hcs'] at hx';cases hx'
      refine ⟨_,kG'' _ _ hcs',?_,fun c o e=>(aa (af e hD2)).trans (kG'' _ _ (kG' c o e)),cs'++[x],?_,by rw [aG,hcl'];rfl,?_⟩
      ·rw [ae,hcl',sizeLine_eq];omega
      ·rw [au,aO];rfl
      ·intro j c y ec ey;rw [dq] at ec;split at ec
       ·obtain ⟨h1,h2⟩:=hcx' j c y ec ey
        exact ⟨(aa h2).trans (kG'' _ _ h1),h2⟩
       ·rename_i hj
        have hjl:j - cs'.length<1:=(ay.mp ec).1
        have ej:j=i:=by omega
        subst ej;rw [hcl',dB] at ec;have ec:x=c:=aA ec
        subst ec;rw [ea] at ey;injection ey with ey;subst ey;exact ⟨(aa nxD).trans hG'',nxD⟩
    rintro G' ⟨kG',cs',hcs',hcl',hcx'⟩
    rw [ae] at hcl'
    have kk:=kG.trans kG'
    refine ⟨_,_,.lst (SqL.of (kG' _ _ hcs)) (nX cs (Pm.rowOf v).names (by rw [dF,hcl,hal]) fun i a x e1 e2=>SqL.of (kk _ _ (hcx i a x e1 e2))),
     .lst (SqL.of hcs') (nX cs' ws hcl' fun i a x e1 e2=>SqL.of (hcx' i a x e1 e2).1),lP _,lP _,?_⟩
    have:=q G' kk
    unfold Fo.hasN at this;rw [aq hk,Bool.true_and] at this;show Q (.bl (PyData.eqvAll ((Pm.rowOf v).names.map bD) (ws.map bD))) G'
    rw [uS];exact this
   ·rw [show (!decide (V.int (((Pm.rowOf v).length:Nat):Int)=V.int ((ws.length:Nat):Int)))=true by rw [fT,ax (by omega)];rfl]
    have hf:Fo.hasN v ws=false:=by
     unfold Fo.hasN;rw [aQ.mpr (fun z=>hlen (by rw [←dF,z])),Bool.and_false]
    rw [hf] at q;exact cq (q H fun _ _ e=>e)
  ·rw [show decide (V.int ((Pm.pdOf v p np n.length).kind:Int)=V.int 6)=false by rw [hkd,fT,ax (by omega)]]
   have hf:Fo.hasN v ws=false:=by
    unfold Fo.hasN;rw [ax hk,Bool.false_and]
   rw [hf] at q;exact cq (cq (q H fun _ _ e=>e))
def ya (K:Fg_) (CP:Addr):Sp:=fun vs H Q _=>∃ (a m n l:Addr) (d:PD) (bs:List UInt8),vs=[.ref a,.ref m]∧SqL K H a (bs.map bv)∧gA CP H m d n l∧d.place≤d.fin∧d.fin≤bs.length ∧
 ∀ x,H x=none→Q (.ref x) (upd H x (.lst (((bs.drop d.place).take (d.fin - d.place)).map bv)))
structure MkF (CO ak:Addr) (H H':Hp) (f m nm ins:Addr):Prop where
 sm:bC H H'
 hf:H f=none
 hn:H nm=none
 hi:H ins=none
 nf:nm≠f
 fi:ins≠f
 ni:nm≠ins
 at_:∃ rw mu,iy CO H' f (fd0 m ak rw nm mu ins)
 an:H' nm=some (.dT [])
 ai:H' ins=some (.lst [])
theorem iu {CO ak:Addr} {H:Hp} {m x dx:Addr} {R:VK} {E:XK} (hx:H x=none) (hdx:H dx=none) (ne:dx≠x) (q:∀ (nm ins:Addr) (H':Hp),MkF CO ak H H' x m nm ins→R .non H') :
  pW CO ak [.ref x,.ref m] (upd (upd H dx (.own x)) x (.ins CO dx [])) R E:=by
 refine ⟨x,m,dx,rfl,au,fun H' ⟨rw,nm,mu,ins,h1,h2,h3,h4,n1,n2,n3,n4,d1,d2,d3,d4,d5,d6,ha,hn,hi⟩ kp=>?_⟩
 have un:∀ {c:Addr},upd (upd H dx (.own x)) x (.ins CO dx []) c=none→H c=none:=fun {c} hc=>by
  have c1:c≠x:=fun z=>by rw [z,au] at hc;cases hc
  rw [aa c1] at hc;have c2:c≠dx:=fun z=>by rw [z,au] at hc;cases hc
  rw [aa c2] at hc;exact hc
 exact q nm ins H' ⟨fun b o e=>kp _ _ (by rw [aa (af e hx),aa (af e hdx)];exact e) (af e hx),hx,un h2,un h4,n2,n4,d5,⟨rw,mu,ha⟩,hn,hi⟩
def rF (d d':FD):Prop:=d'.part=d.part∧d'.shape=d.shape∧d'.named=d.named∧d'.used=d.used∧d'.inside=d.inside
abbrev iY (E:XK) (CB:Addr) (p:Nat):Prop:=yX E CB [.int (-5),.int (p:Int)]
def iG:List Key:=[.inr "any",.inr "yesno",.inr "number",.inr "bytes",.inr "text",.inr "list",.inr "record",.inr "moment",.inr "id"]
def xu (K:Fg_) (CO CP CB:Addr):Sp:=fun vs H Q E=>∃ (a f m:Addr) (bs:List UInt8) (d:FD) (t:List Nat) (p np:Nat) (n:List UInt8),vs=[.ref a,.ref f]∧SqL K H a (bs.map bv)∧iy CO H f d∧d.part=m∧Nd CP H bs m (.text t) p np n ∧
 (if (Sw.wordForm t).isSome=true then ∀ (H':Hp) (d':FD),iy CO H' f d'→rF d d'→Kp H H' f→Q .non H' else iY E CB p)
structure TxW (K:Fg_) (mg:Str→Option Value) (CB:Addr):Prop where
 mB:mg "WrongBook" = some (.ref CB)
 k0:GI mg "NO" 0
 k2:GI mg "NUMBER" 2
 k3:GI mg "BYTES" 3
 k4:GI mg "TEXT" 4
 k5:GI mg "LIST" 5
 k6:GI mg "RECORD" 6
 len:mg "len" = none
 tup:mg "tuple" = none
theorem sH {P:Program} {w:World} {K:Fg_} {a:Addr} {kvs:List (Key×V)} {g:TG} {tb:TS} {D:ie} {σ:St} {H:Hp} (Pv:Nat→St→Hp→Prop) (h0:Pv 0 σ H)
  (hs:∀ i k v σ H,kvs[i]? = some (k,v)→Pv i σ H→g (kV k) σ H fun σ2 H2=>tb { D with nx:=Pv (i+1),ct:=Pv (i+1),bk:=D.nx } σ2 H2) (hd:∀ σ H,Pv kvs.length σ H→D.nx σ H) :
  ∃ W:Nat→Nat→St→Hp→Prop,(∃ m,W 0 m σ H)∧∀ i m σ H,W i m σ H →
   ((uZ P w K a kvs).stop i H∧D.nx σ H)∨((uZ P w K a kvs).go i H∧∃ N:St→Hp→Prop,(∀ σ' H',N σ' H'→∃ m',m'<m∧W (i+1) m' σ' H')∧∀ x H',(uZ P w K a kvs).yld i H x H'→g x σ H' fun σ2 H2=>tb { D with nx:=N,ct:=N,bk:=D.nx } σ2 H2):=by
 refine ⟨fun i m σ H=>m=kvs.length - i∧i≤kvs.length∧Pv i σ H,⟨kvs.length,by simp,a8 _,h0⟩,?_⟩
 rintro i m σ H ⟨rfl,hi,p⟩
 by_cases hlt:i<kvs.length
 ·refine .inr ⟨hlt,Pv (i+1),fun σ' H' p'=>⟨kvs.length - (i+1),by omega,rfl,hlt,p'⟩,fun x H' y=>?_⟩
  obtain ⟨e,k,v,hk,rfl⟩:=y
  subst e;exact hs i k v σ _ hk p
 ·have e:i=kvs.length:=by omega
  subst e;exact .inl ⟨aI _,hd σ H p⟩
theorem uw:∀ (i:Nat) (k:Key),iG[i]? = some k→∃ (x:String×Sw.Form),Sw.wordForms[i]? = some x∧kV k = .str (sB (Sw.word x.1))∧(Sw.word x.1).length<1000
 | 0,k,h=>by obtain rfl:=aA h;exact ⟨_,rfl,congrArg V.str (by rw [aX];rfl),by decide⟩
 | 1,k,h=>by obtain rfl:=aA h;exact ⟨_,rfl,congrArg V.str (by rw [aX];rfl),by decide⟩
 | 2,k,h=>by obtain rfl:=aA h;exact ⟨_,rfl,congrArg V.str (by rw [aX];rfl),by decide⟩
 | 3,k,h=>by obtain rfl:=aA h;exact ⟨_,rfl,congrArg V.str (by rw [aX];rfl),by decide⟩
 | 4,k,h=>by obtain rfl:=aA h;exact ⟨_,rfl,congrArg V.str (by rw [aX];rfl),by decide⟩
 | 5,k,h=>by obtain rfl:=aA h;exact ⟨_,rfl,congrArg V.str (by rw [aX];rfl),by decide⟩
 | 6,k,h=>by obtain rfl:=aA h;exact ⟨_,rfl,congrArg V.str (by rw [aX];rfl),by decide⟩
 | 7,k,h=>by obtain rfl:=aA h;exact ⟨_,rfl,congrArg V.str (by rw [aX];rfl),by decide⟩
 | 8,k,h=>by obtain rfl:=aA h;exact ⟨_,rfl,congrArg V.str (by rw [aX];rfl),by decide⟩
 | i+9,k,h=>by cases h
theorem sZ {κ:Type} [DecidableEq κ]:∀ {kvs:List (κ×V)} {i:Nat} {k:κ} {v:V},kvs[i]? = some (k,v)→∃ v',eT kvs k=some v'
 | p::r,0,k,v,h=>by
  obtain rfl:=aA h
  exact ⟨_,dP rfl⟩
 | p::r,i+1,k,v,h=>by
  by_cases c:p.1=k
  ·exact ⟨_,dP c⟩
  ·rw [ee c];exact sZ (kvs:=r) (i:=i) (by simpa using h)
theorem vW {α:Type} {p:α→Bool}:∀ {l:List α},(∀ (i:Nat) (x:α),l[i]? = some x→p x=false)→l.find? p=none:=fun {l} h=>by
 rw [gH];intro x hx z;obtain ⟨i,hi⟩:=eP hx
 rw [h i x hi] at z;cases z
section
variable {P:Program} {w:World} {K:Fg_} {mg:Str→Option Value} {base:Heap} {CP CO ak CB U fUB dK:Addr} {fdB:FuncData} {kvs:List (Key×V)}
theorem scAB:bw ["row","part"] ["row","part"] (a9 sAB):=fs_
theorem ok_AB {f:Addr} {fd:FuncData} (F:Fun K "all_bytes" "all_bytes" sAB f fd) (TP:TxP K mg CP):bK P w K mg base CX0 1 f fd ["row","part"] (ya K CP):=by
 refine F.ok scAB (fun vs H Q E h=>?_) (fun cdv A outer s H vs Q E hr h=>?_)
 ·obtain ⟨a,m,n,l,d,bs,rfl,_⟩:=h
  rfl
 ·obtain ⟨a,m,n,l,d,bs,rfl,hs,⟨dx,hm⟩,h1,h2,q⟩:=h
  refine ⟨_,aH (b9 (jz kr (pv 0) (gJ (aU (pv 1) rfl)) (gJ (aU (pv 1) rfl)))),?_⟩
  try dsimp only [cY];refine ⟨_,rfl,_,rfl,fd_ hm TP.cP TP.nPl rfl ⟨_,rfl,_,rfl,fd_ hm TP.cP TP.nEn rfl ⟨_,rfl,a,_,rfl,hs,fun x hx=>?_⟩⟩⟩
  have e:=ja bs d.place (d.fin - d.place) (by omega) (x:=(d.place:Int)) (y:=(d.fin:Int)) rfl (by omega)
  rw [e];exact q x hx
theorem yd:bw ["row","form","word","known"] ["row","form"] (a9 sXW):=fs_
theorem ok_XW {f fSO fIB:Addr} {fd fdS fdI:FuncData} (F:Fun K "read_word" "read_word" sXW f fd) (TP:TxP K mg CP) (TF:TxF K mg CO ak) (TW:TxW K mg CB) (mK:mg "KINDS_BY_WORD" = some (.ref dK)) (hK:StD P w K dK kvs) (hkv:kvs.map (·.1)=iG)
  (uc:iF K U CB fUB) (GB:bK P w K mg base CX0 2 fUB fdB ["self","place"] (jL CB 1 aWB)) (bB:bT K fdB ["self","place"] [])
  (GI:Co P w K mg base CX0 1 fIB fdI ["row","part"] (tI K CP) "inner_bytes")
  (GS:Co P w K mg base CX0 1 fSO fdS ["words"] vi "signs_of") :
  bK P w K mg base (CXF P w) 4 f fd ["row","form"] (xu K CO CP CB):=by
 refine okX F yd (fun vs H Q E h=>?_) (fun cdv A outer s H vs Q E hr h=>?_)
 ·obtain ⟨a,f,m,bs,d,t,p,np,n,rfl,_⟩:=h
  rfl
 ·obtain ⟨a,f,m,bs,d,t,p,np,n,rfl,hs,⟨fx,hf⟩,hdm,nd,q⟩:=h
  have hr1:cB 1 _:=hr.mono (by decide)
  refine ⟨_,az (br (i:=2) yd.nd rfl (.inl rfl) (cv GI hr1 rfl cM (aj (pv 0) (aj (aU (pv 1) rfl) aL))))
   (az (fm PassesOwn.leaving rfl (tZ (kC (v:=V.ref dK) rfl mK rfl)) (cy (i:=3) yd.nd rfl (.inl rfl))
    (aH (bY (bo (ue hr.units) (cv GS hr1 rfl cM (aj (pv 3) aL)) (pv 2) (bA _))
     (az (bN (pv 1) (t4 (kC (v:=V.ref dK) rfl mK rfl) (pv 3) (fun _ _=>rfl)) rfl) (aH vG)) bF)))
   (aH (dW uc GB bB rfl hr ck rfl rfl TW.mB (aj (aU (aU (pv 1) rfl) rfl) aL) (by decide)))),?_⟩
  try dsimp only [cY];subst hdm;obtain ⟨nl,l,as,dx,hnl,hm,hl,hal,hmem⟩:=nd.pt
  obtain ⟨i1,i2⟩:=nd.at_.inner
  have hle:=nd.at_.le
  refine ⟨_,rfl,_,rfl,fd_ hf TF.cO TF.nPa rfl ⟨a,_,nl,l,_,bs,rfl,hs,⟨dx,hm⟩,by show p+Pm.ioff _≤p+_;omega,hle,fun x hx=>?_⟩⟩
  have i1':((bs.drop (Pm.pdOf (.text t) p np n.length).ins).take ((Pm.pdOf (.text t) p np n.length).fin - (Pm.pdOf (.text t) p np n.length).ins))=Sw.utf8 t:=i1
  rw [i1'];have k1:bC H (upd H x (.lst ((Sw.utf8 t).map bv))):=fun b o e=>(aa (af e hx)).trans e
  generalize hH1:upd H x (.lst ((Sw.utf8 t).map bv))=H1 at k1;have hx1:H1 x=some (.lst ((Sw.utf8 t).map bv)):=by rw [←hH1];exact au
  refine ⟨dK,kvs,rfl,hK,sH (fun i σ G=>(∃ v3,σ=[some (.ref a),some (.ref f),some (.ref x),v3])∧bC H1 G∧∀ (j:Nat) (y:String×Sw.Form),j<i→Sw.wordForms[j]? = some y→(Sw.word y.1==Sw.utf8 t)=false) ⟨⟨none,rfl⟩,fun _ _ e=>e,fun j y hj=>aP hj (cH _)⟩ ?_ ?_⟩
  ·rintro i k v σ G hkvi ⟨⟨v3,rfl⟩,kG,hno⟩
   have hwk:iG[i]? = some k:=by rw [←hkv,aD,hkvi];rfl
   obtain ⟨y,hy,ek,hyl⟩:=uw i k hwk
   refine ⟨_,rfl,Sw.word y.1,congrArg (fun z=>[z]) ek,by omega,fun c G' hc hG' kG'=>?_⟩
   refine ⟨_,rfl,_,_,uU (SqL.of hG'),uU (SqL.of (kG' _ _ (kG _ _ hx1))),mW _,mW _,_,rfl,?_⟩
   show (if PyData.eqvAll _ _=true then _ else _)
   rw [uT];cases heq:(Sw.word y.1==Sw.utf8 t) with
   | true =>
    have hsome:(Sw.wordForm t).isSome=true:=by
     unfold Sw.wordForm;rw [gS];cases ef:Sw.wordForms.find? (fun (x:String×Sw.Form)=>Sw.word x.1==Sw.utf8 t) with
     | some z=>rfl
     | none =>
      have:=gH.mp ef y (bj hy)
      exact aP heq this
    rw [ao hsome] at q;obtain ⟨v',hv'⟩:=sZ hkvi
    have hfG:=kG' _ _ (kG _ _ (k1 _ _ hf))
    refine cq ⟨_,rfl,dK,kvs,k,v',rfl,hK,rfl,hv',_,rfl,f,CO,fx,_,rfl,hfG,TF.cO,TF.nKi,(by show 11<1000;decide),?_⟩
    exact q _ { d with kinds:=v' } ⟨fx,au⟩ ⟨rfl,rfl,rfl,rfl,rfl⟩ fun b o e n=>(aa n).trans (kG' _ _ (kG _ _ (k1 _ _ e)))
   | false =>
    refine cp ⟨⟨_,rfl⟩,kG.trans kG',fun j z hj hz=>?_⟩
    by_cases c:j<i
    ·exact hno j z c hz
    ·have:j=i:=by omega
     subst this;rw [hy] at hz;injection hz with hz;rw [←hz];exact heq
  ·rintro σ G ⟨⟨v3,rfl⟩,kG,hno⟩
   have hl9:kvs.length=9:=by
    have:=congrArg List.length hkv
    rw [ae] at this;exact this
   have hn:Sw.wordForm t=none:=by
    unfold Sw.wordForm;rw [vW (fun i y e=>hno i y (by rw [hl9];exact (ay.mp e).1) e)]
    rfl
   rw [hn] at q;have q:iY E CB p:=q
   exact ⟨_,rfl,fd_ (kG _ _ (k1 _ _ hf)) TF.cO TF.nPa rfl (fd_ (kG _ _ (k1 _ _ hm)) TP.cP TP.nPl rfl ⟨rfl,q⟩)⟩
end
def oI (x:Option Int):V:=match x with
 | none=>.non
 | some z=>.int z
theorem mL {s:Bool} {u:Sw.Value} (h:¬(u.kind=5∧(Pm.rowOf u).length=2)):Sw.boundsOf s u=none:=by
 match u,h with
 | .list .nil,h=>rfl
 | .list (.cons _ _ .nil),h=>rfl
 | .list (.cons _ _ (.cons _ _ .nil)),h=>exact aP ⟨rfl,rfl⟩ h
 | .list (.cons _ _ (.cons _ _ (.cons _ _ _))),h=>rfl
 | .no,h=>rfl
 | .yes,h=>rfl
 | .num _,h=>rfl
 | .bytes _,h=>rfl
 | .text _,h=>rfl
 | .rec_ _,h=>rfl
 | .moment _,h=>rfl
 | .id _,h=>rfl
theorem qu {s:Bool} {u a b:Sw.Value} {n k:Sw.Bytes} (h5:u.kind=5) (hl:(Pm.rowOf u).length=2) (h0:u.member 0=some (n,a)) (h1:u.member 1=some (k,b)):Sw.boundsOf s u=(Sw.boundOf s a).bind fun (x:Option Int)=>(Sw.boundOf s b).map fun (y:Option Int)=>(x,y):=by
 match u,h5,hl,h0,h1 with
 | .list (.cons _ _ (.cons _ _ .nil)),_,_,h0,h1 =>
  injection h0 with h0;injection h0 with _ h0;injection h1 with h1;injection h1 with _ h1;subst h0 h1;rfl
theorem gk (v:Sw.Value) (p np k:Nat):(Pm.pdOf v p np k).kind=v.kind:=rfl
def xW (K:Fg_) (CO CP CB:Addr):Sp:=fun vs H Q E=>∃ (a f g tk:Addr) (bs:List UInt8) (d:FD) (v u:Sw.Value) (k p np p' np':Nat) (n n':List UInt8),vs=[.ref a,.ref f,.ref g]∧SqL K H a (bs.map bv)∧iy CO H f d∧Nd CP H bs d.part v p np n∧Nd CP H bs g u p' np' n'∧d.kinds = .ref tk∧H tk=some (.tup [.int (k:Int)]) ∧
 match Sw.boundOf (decide (k≠2)) u with
 | some x=>∀ H':Hp,bC H H'→Q (oI x) H'
 | none=>iY E CB p
def xX (K:Fg_) (CO CP CB:Addr):Sp:=fun vs H Q E=>∃ (B:Hp) (a f g:Addr) (bs:List UInt8) (d:FD) (v u:Sw.Value) (k p np p' np':Nat) (n n':List UInt8),vs=[.ref a,.ref f,.int (k:Int),.ref g]∧bC B H∧B f=none∧SqL K B a (bs.map bv)∧iy CO H f d∧Nd CP B bs d.part v p np n∧Nd CP B bs g u p' np' n' ∧
 (if (Sw.boundsOf (decide (k≠2)) u).isSome=true then ∀ (H':Hp) (d':FD),iy CO H' f d'→rF d d'→Kp H H' f→Q .non H' else iY E CB p)
theorem iq {B H H':Hp} {f:Addr} (h:bC B H) (hf:B f=none) (k:Kp H H' f):bC B H':=fun b o e=>k _ _ (h _ _ e) (af e hf)
theorem yw (k:Nat):PyData.eqv (.tuple [.int (k:Int)]) (.tuple [.int 2])=decide (k=2):=by
 show ((((k:Int)==2)&&true))=decide (k=2)
 rw [Bool.and_true];by_cases c:k=2
 ·subst c;rfl
 ·rw [ax c,aQ];omega
theorem scF2:bw ["row","form","part","bound"] ["row","form","part"] (a9 sF2):=fs_
theorem ok_F2 {f fNO:Addr} {fd fdN:FuncData} (F:Fun K "read_bound" "read_bound" sF2 f fd) (TP:TxP K mg CP) (TF:TxF K mg CO ak) (TW:TxW K mg CB)
  (uc:iF K U CB fUB) (GB:bK P w K mg base CX0 2 fUB fdB ["self","place"] (jL CB 1 aWB)) (bB:bT K fdB ["self","place"] [])
  (GN:Co P w K mg base CX0 2 fNO fdN ["row","part"] (xR K CP) "number_of") :
  bK P w K mg base (CXF P w) 4 f fd ["row","form","part"] (xW K CO CP CB):=by
 refine okX F scF2 (fun vs H Q E h=>?_) (fun cdv A outer s H vs Q E hr h=>?_)
 ·obtain ⟨a,f,g,tk,bs,d,v,u,k,p,np,p',np',n,n',rfl,_⟩:=h
  rfl
 ·obtain ⟨a,f,g,tk,bs,d,v,u,k,p,np,p',np',n,n',rfl,hs,⟨fx,hf⟩,nd,ndu,hdk,htk,q⟩:=h
  have hr2:cB 2 _:=hr.mono (by decide)
  refine ⟨_,az (bY (bo d8 (aU (pv 2) rfl) (pgi TW.k0 rfl) (bA _)) (aH (b9 jO)) bF)
   (az (bY (bo jf (aU (pv 2) rfl) (pgi TW.k2 rfl) (bA _)) (aH (dW uc GB bB rfl hr ck rfl rfl TW.mB (aj (aU (aU (pv 1) rfl) rfl) aL) (by decide))) bF)
   (az (br (i:=3) scF2.nd rfl (.inl rfl) (cv GN hr2 rfl cM (aj (pv 0) (aj (pv 2) aL))))
   (az (bY (PW.pt (jM (bo kf (pv 3) bh (bA _)) (i8 (bo (yr hr.units) (aU (pv 1) rfl) (fq (aj (pgi TW.k2 rfl) aL)) (bA _)))))
    (aH (dW uc GB bB rfl hr ck rfl rfl TW.mB (aj (aU (aU (pv 1) rfl) rfl) aL) (by decide))) bF)
   (aH (b9 (pv 3)))))),?_⟩
  try dsimp only [cY];obtain ⟨nl,l,as,dx,hnl,hm,_⟩:=nd.pt
  obtain ⟨nl',l',as',dx',hnl',hm',_⟩:=ndu.pt
  have err:∀ (G:Hp) (σ:St),bC H G→iY E CB p→σ[1]? = some (some (.ref f))→True:=fun _ _ _ _ _=>trivial
  refine ⟨_,rfl,fd_ hm' TP.cP TP.nKi rfl ⟨rfl,_,rfl,?_⟩⟩
  by_cases h0:u.kind=0
  ·have hu:u = .no:=by cases u<;>first | rfl | cases h0
   subst hu;exact cq (q H fun _ _ e=>e)
  ·rw [show decide (V.int ((Pm.pdOf u p' np' n'.length).kind:Int)=V.int 0)=false by rw [gk,fT,ax (by omega)]]
   refine cp ⟨_,rfl,fd_ hm' TP.cP TP.nKi rfl ⟨rfl,_,rfl,?_⟩⟩
   by_cases h2:u.kind=2
   ·obtain ⟨z,rfl⟩:∃ z,u = .num z:=by cases u<;>first | exact ⟨_,rfl⟩ | cases h2
    refine cp ⟨_,rfl,_,rfl,a,g,bs,z,p',np',n',rfl,hs,ndu,fun H' k1=>?_⟩
    have q:match (if decide (k≠2)=true∧z<0 then none else some (some z)) with
     | some x=>∀ H':Hp,bC H H'→Q (oI x) H'
     | none=>iY E CB p:=q
    refine ⟨_,rfl,_,_,rfl,rfl,_,rfl,?_⟩
    by_cases hz:z<0
    ·rw [aq hz];refine cq ⟨_,rfl,fd_ (k1 _ _ hf) TF.cO TF.nKi rfl ⟨(by show 1≤sizeLine;decide),fun t ht=>?_⟩⟩
     have nt:tk≠t:=fun z=>by rw [←z,k1 _ _ htk] at ht;cases ht
     refine ⟨.tuple [.int (k:Int)],.tuple [.int 2],by show Dp K _ d.kinds _;rw [hdk];exact .tup (SqT.of ((aa nt).trans (k1 _ _ htk))) (.cons (.int _) .nil),.tup (SqT.of au) (.cons (.int _) .nil),rfl,rfl,_,rfl,?_⟩
     rw [yw];by_cases c:k=2
     ·rw [aq c];rw [ah (by rw [c];exact fun z=>Bool.noConfusion z.1)] at q
      exact cp ⟨_,rfl,q _ fun b o e=>(aa (fun z=>by rw [z,] at e;rw [k1 _ _ e] at ht;cases ht)).trans (k1 _ _ e)⟩
     ·rw [ax c];rw [ao ⟨aq c,hz⟩] at q;have ku:∀ {b:Addr} {o:HO},H b=some o→upd H' t (.tup [.int 2]) b=some o:=fun {b o} e=>(aa (fun z=>by rw [←z,k1 _ _ e] at ht;cases ht)).trans (k1 _ _ e)
      exact cq ⟨_,rfl,fd_ (ku hf) TF.cO TF.nPa rfl (fd_ (ku hm) TP.cP TP.nPl rfl ⟨rfl,q⟩)⟩
    ·rw [ax hz];rw [ah (fun y=>hz y.2)] at q
     exact cp (cp ⟨_,rfl,q _ k1⟩)
   ·rw [show decide (V.int ((Pm.pdOf u p' np' n'.length).kind:Int)=V.int 2)=false by rw [gk,fT,ax (by omega)]]
    have hn:Sw.boundOf (decide (k≠2)) u=none:=by cases u<;>first | rfl | exact aP rfl h0 | exact aP rfl h2
    rw [hn] at q;exact cq ⟨_,rfl,fd_ hf TF.cO TF.nPa rfl (fd_ hm TP.cP TP.nPl rfl ⟨rfl,q⟩)⟩
theorem scF1:bw ["row","form","kind","part"] ["row","form","kind","part"] (a9 sF1):=fs_
theorem ok_F1 {f fF2:Addr} {fd fd2:FuncData} (F:Fun K "read_bounds" "read_bounds" sF1 f fd) (TP:TxP K mg CP) (TF:TxF K mg CO ak) (TW:TxW K mg CB)
  (uc:iF K U CB fUB) (GB:bK P w K mg base CX0 2 fUB fdB ["self","place"] (jL CB 1 aWB)) (bB:bT K fdB ["self","place"] [])
  (G2:Co P w K mg base (CXF P w) 4 fF2 fd2 ["row","form","part"] (xW K CO CP CB) "read_bound") :
  bK P w K mg base (CXF P w) 5 f fd ["row","form","kind","part"] (xX K CO CP CB):=by
 refine okX F scF1 (fun vs H Q E h=>?_) (fun cdv A outer s H vs Q E hr h=>?_)
 ·obtain ⟨B,a,f,g,bs,d,v,u,k,p,np,p',np',n,n',rfl,_⟩:=h
  rfl
 ·obtain ⟨B,a,f,g,bs,d,v,u,k,p,np,p',np',n,n',rfl,sB,hBf,hs,⟨fx,hf⟩,nd,ndu,q⟩:=h
  have hr3:cB 3 _:=hr.mono (by decide)
  refine ⟨_,az (bY (PW.pt (je (bo jf (aU (pv 3) rfl) (pgi TW.k5 rfl) (bA _)) (gX (bo jf (di eo (by rfl) TW.len b8 (aj (aU (pv 3) rfl) aL)) bh (bA _)))))
    (aH (dW uc GB bB rfl hr3 ck rfl rfl TW.mB (aj (aU (aU (pv 1) rfl) rfl) aL) (by decide))) bF)
   (az (bN (pv 1) (fq (aj (pv 2) aL)) rfl)
   (az (bN (pv 1) (cv G2 hr rfl dC (aj (pv 0) (aj (pv 1) (aj (cK bM (aU (pv 3) rfl) bh (fun _ _=>rfl)) aL)))) rfl)
   (aH (bN (pv 1) (cv G2 hr rfl dC (aj (pv 0) (aj (pv 1) (aj (cK bM (aU (pv 3) rfl) bh (fun _ _=>rfl)) aL)))) rfl)))),?_⟩
  try dsimp only [cY];obtain ⟨nl,l,as,dx,hnl,hm,_⟩:=nd.pt
  obtain ⟨nl',l',as',dx',hnl',hm',hl',hal',hmem'⟩:=ndu.pt
  have bad:Sw.boundsOf (decide (k≠2)) u=none→iY E CB p:=fun z=>by
   rw [z] at q;exact q
  refine ⟨_,rfl,fd_ (sB _ _ hm') TP.cP TP.nKi rfl ⟨rfl,_,rfl,?_⟩⟩
  by_cases h5:u.kind=5
  ·rw [show decide (V.int ((Pm.pdOf u p' np' n'.length).kind:Int)=V.int 5)=true by rw [gk,h5];exact aq rfl]
   refine cp ⟨_,rfl,fd_ (sB _ _ hm') TP.cP TP.nMe rfl ⟨l',_,rfl,.inl (SqL.of (sB _ _ hl')),rfl,_,rfl,?_⟩⟩
   rw [ae,hal',fT];by_cases hl2:(Pm.rowOf u).length=2
   ·rw [aq (by omega)]
    obtain ⟨a0,e0⟩:∃ a0,as'[0]? = some a0:=⟨as'[0]'(by omega),aB _⟩
    obtain ⟨a1,e1⟩:∃ a1,as'[1]? = some a1:=⟨as'[1]'(by omega),aB _⟩
    obtain ⟨n0,w0,np0,em0,nd0⟩:=hmem' 0 a0 e0
    obtain ⟨n1,w1,np1,em1,nd1⟩:=hmem' 1 a1 e1
    have hb:=qu (s:=decide (k≠2)) h5 hl2 em0 em1
    have v0:(as'.map V.ref)[0]? = some (V.ref a0):=by rw [aD,e0];rfl
    have v1:(as'.map V.ref)[1]? = some (V.ref a1):=by rw [aD,e1];rfl
    refine cp ⟨_,rfl,(by show 1≤sizeLine;decide),fun tk htk=>?_⟩
    have nft:tk≠f:=fun z=>by rw [z,hf] at htk;cases htk
    refine ⟨_,rfl,f,CO,fx,_,rfl,(aa (aN nft)).trans hf,TF.cO,TF.nKi,(by show 11<1000;decide),?_⟩
    generalize hG:upd (upd H tk (.tup [.int (k:Int)])) f _=G;have hGf:iy CO G f { d with kinds:=.ref tk }:=⟨fx,(congrFun hG f).symm.trans au⟩
    have hGt:G tk=some (.tup [.int (k:Int)]):=by rw [←hG,aa nft,au]
    have kG:Kp H G f:=fun b o e n=>by rw [←hG,aa n,aa (af e htk)];exact e
    have sG:bC B G:=iq sB hBf kG
    refine ⟨_,rfl,_,rfl,_,rfl,fd_ (sG _ _ hm') TP.cP TP.nMe rfl ⟨l',_,_,V.ref a0,rfl,rfl,SqL.of (sG _ _ hl'),fK (j:=0) rfl v0,?_⟩⟩
    refine ⟨a,f,a0,tk,bs,_,v,w0,k,p,np,_,np0,n,n0,rfl,sG.seq hs,hGf,nd.same sG,nd0.same sG,rfl,hGt,?_⟩
    cases eb0:Sw.boundOf (decide (k≠2)) w0 with
    | none=>exact bad (by rw [hb,eb0];rfl)
    | some x0 =>
     intro G1 s1;obtain ⟨fx1,hGf1⟩:=hGf
     refine ⟨_,rfl,f,CO,fx1,_,rfl,s1 _ _ hGf1,TF.cO,TF.nLo,(by show 11<1000;decide),?_⟩
     generalize hG2:upd G1 f _=G2;have hGf2:iy CO G2 f { d with kinds:=.ref tk,low:=oI x0 }:=⟨fx1,(congrFun hG2 f).symm.trans au⟩
     have kG2:Kp G G2 f:=fun b o e n=>by rw [←hG2,aa n];exact s1 _ _ e
     have sG2:bC B G2:=iq sG hBf kG2
     refine ⟨_,rfl,_,rfl,_,rfl,fd_ (sG2 _ _ hm') TP.cP TP.nMe rfl ⟨l',_,_,V.ref a1,rfl,rfl,SqL.of (sG2 _ _ hl'),fK (j:=1) rfl v1,?_⟩⟩
     refine ⟨a,f,a1,tk,bs,_,v,w1,k,p,np,_,np1,n,n1,rfl,sG2.seq hs,hGf2,nd.same sG2,nd1.same sG2,rfl,kG2 _ _ hGt nft,?_⟩
     cases eb1:Sw.boundOf (decide (k≠2)) w1 with
     | none=>exact bad (by rw [hb,eb0,Option.bind_some,eb1];rfl)
     | some x1 =>
      intro G3 s3;obtain ⟨fx2,hGf2⟩:=hGf2
      rw [hb,eb0,Option.bind_some,eb1] at q;have q:∀ (H':Hp) (d':FD),iy CO H' f d'→rF d d'→Kp H H' f→Q .non H':=q
      refine ⟨_,rfl,f,CO,fx2,_,rfl,s3 _ _ hGf2,TF.cO,TF.nHi,(by show 11<1000;decide),?_⟩
      exact q _ { d with kinds:=.ref tk,low:=oI x0,high:=oI x1 } ⟨fx2,au⟩ ⟨rfl,rfl,rfl,rfl,rfl⟩ fun b o e n=>(aa n).trans (s3 _ _ (kG2 _ _ (kG _ _ e n) n))
   ·rw [ax (by omega)]
    exact cq ⟨_,rfl,fd_ hf TF.cO TF.nPa rfl (fd_ (sB _ _ hm) TP.cP TP.nPl rfl ⟨rfl,bad (mL fun z=>hl2 z.2)⟩)⟩
  ·rw [show decide (V.int ((Pm.pdOf u p' np' n'.length).kind:Int)=V.int 5)=false by rw [gk,fT,ax (by omega)]]
   exact cq (cq ⟨_,rfl,fd_ hf TF.cO TF.nPa rfl (fd_ (sB _ _ hm) TP.cP TP.nPl rfl ⟨rfl,bad (mL fun z=>h5 z.1)⟩)⟩)
structure KR where
 f:Addr
 m:Addr
 nm:Addr
 ins:Addr
 path:List Nat
 v:Sw.Value
 p:Nat
def KR.kd (k:KR):List Nat×Sw.Value:=(k.path,k.v)
def KR.rf (k:KR):V:=.ref k.f
structure POk (CO ak CP:Addr) (B G:Hp) (bs:List UInt8) (whole:Sw.Value) (k:KR):Prop where
 bf:B k.f=none
 bn:B k.nm=none
 bi:B k.ins=none
 at_:∃ rw mu,iy CO G k.f (fd0 k.m ak rw k.nm mu k.ins)
 an:G k.nm=some (.dT [])
 ai:G k.ins=some (.lst [])
 nd:∃ np n,Nd CP B bs k.m k.v k.p np n
 wa:Fo.Wat whole k.path k.v k.p
theorem POk.nf {CO ak CP:Addr} {B G:Hp} {bs:List UInt8} {whole:Sw.Value} {k:KR} (h:POk CO ak CP B G bs whole k):k.nm≠k.f∧k.ins≠k.f∧k.nm≠k.ins:=by
 obtain ⟨rw,mu,dx,e⟩:=h.at_
 refine ⟨fun z=>?_,fun z=>?_,fun z=>?_⟩
 ·have:=h.an;rw [z,e] at this;cases this
 ·have:=h.ai;rw [z,e] at this;cases this
 ·have:=h.an;rw [z,h.ai] at this;cases this
theorem POk.keep {CO ak CP:Addr} {B G G':Hp} {bs:List UInt8} {whole:Sw.Value} {k:KR} (h:POk CO ak CP B G bs whole k) (e1:∀ o,G k.f=some o→G' k.f=some o) (e2:∀ o,G k.nm=some o→G' k.nm=some o) (e3:∀ o,G k.ins=some o→G' k.ins=some o):POk CO ak CP B G' bs whole k:=by
 obtain ⟨rw,mu,dx,e⟩:=h.at_
 exact ⟨h.bf,h.bn,h.bi,⟨rw,mu,dx,e1 _ e⟩,e2 _ h.an,e3 _ h.ai,h.nd,h.wa⟩
def Dj (a b:KR):Prop:=a.f≠b.f∧a.nm≠b.nm∧a.ins≠b.ins
structure ic (CO ak CP:Addr) (B H G:Hp) (bs:List UInt8) (whole:Sw.Value) (ks:List KR):Prop where
 ok:∀ k∈ks,POk CO ak CP B G bs whole k∧H k.f=none∧H k.nm=none∧H k.ins=none
 dj:ks.Pairwise Dj
section
variable {CO ak CP:Addr} {B H G G':Hp} {bs:List UInt8} {whole:Sw.Value} {ks:List KR}
theorem ic.nil:ic CO ak CP B H G bs whole []:=⟨fun k h=>aP h bG,List.Pairwise.nil⟩
theorem ic.fresh (h:ic CO ak CP B H G bs whole ks) (k:∀ b o,G b=some o→H b=none→G' b=some o):ic CO ak CP B H G' bs whole ks :=
 ⟨fun x hx=>by
  obtain ⟨p,h1,h2,h3⟩:=h.ok x hx
  exact ⟨p.keep (fun o e=>k _ _ e h1) (fun o e=>k _ _ e h2) (fun o e=>k _ _ e h3),h1,h2,h3⟩,h.dj⟩
theorem ic.snoc (h:ic CO ak CP B H G bs whole ks) (al:∀ b,G b=none→H b=none) (sB:bC B H) {f m nm ins:Addr} (mk:MkF CO ak G G' f m nm ins) {path:List Nat} {v:Sw.Value} {p:Nat} (nd:∃ np n,Nd CP B bs m v p np n) (wa:Fo.Wat whole path v p) :
  ic CO ak CP B H G' bs whole (ks++[⟨f,m,nm,ins,path,v,p⟩]):=by
 have un:∀ b,H b=none→B b=none:=fun b e=>by
  cases eb:B b with
  | none=>rfl
  | some o=>rw [sB _ _ eb] at e;cases e
 have hH:=h.fresh (G':=G') fun b o e _=>mk.sm _ _ e
 refine ⟨fun x hx=>?_,?_⟩
 ·rcases aT.mp hx with hx | hx
  ·exact hH.ok x hx
  ·rw [aJ] at hx;subst hx;exact ⟨⟨un _ (al _ mk.hf),un _ (al _ mk.hn),un _ (al _ mk.hi),mk.at_,mk.an,mk.ai,nd,wa⟩,al _ mk.hf,al _ mk.hn,al _ mk.hi⟩
 ·rw [List.pairwise_append];refine ⟨h.dj,List.pairwise_singleton _ _,fun a ha b hb=>?_⟩
  rw [aJ] at hb;subst hb;obtain ⟨pa,_⟩:=h.ok a ha
  obtain ⟨rw',mu,dx,e⟩:=pa.at_
  refine ⟨fun z=>?_,fun z=>?_,fun z=>?_⟩
  ·have z:a.f=f:=z
   have:=mk.hf;rw [←z,e] at this;cases this
  ·have z:a.nm=nm:=z
   have:=mk.hn;rw [←z,pa.an] at this;cases this
  ·have z:a.ins=ins:=z
   have:=mk.hi;rw [←z,pa.ai] at this;cases this
end
structure Aft (CO ak CP:Addr) (B H H':Hp) (bs:List UInt8) (whole:Sw.Value) (names:List Sw.Bytes) (fs:List Addr) (k:KR) (sh:Nat) (l:List (List Nat×Sw.Value)):Prop where
 kp:KpL H H' [k.f,k.nm,k.ins]
 ex:∃ (d:FD) (ins':Addr) (ks:List KR),iy CO H' k.f d∧d.part=k.m∧d.shape=sh∧d.inside = .ref ins'∧H' ins'=some (.lst (ks.map KR.rf))∧(ins'=k.ins∨H ins'=none)∧ic CO ak CP B H H' bs whole ks∧(∀ x∈ks,x.ins≠ins')∧ks.map KR.kd=Fo.onto k.path l ∧
  (sh=5→∃ (u:Addr) (j:Nat) (t:List Nat),d.used = .ref u∧Fo.mem k.v 0 = .text t∧names[j]? = some (Sw.utf8 t)∧fs[j]? = some u)
def iD (E:XK) (Q:VK) (CO ak CP CB:Addr) (B H:Hp) (bs:List UInt8) (whole:Sw.Value) (names:List Sw.Bytes) (fs:List Addr) (k:KR) (o:Option (Nat×List (List Nat×Sw.Value))):Prop:=match o with
 | some x=>∀ H':Hp,Aft CO ak CP B H H' bs whole names fs k x.1 x.2→Q .non H'
 | none=>iY E CB k.p
theorem hJ (q:List Nat):∀ (m:Sw.Row) (i j:Nat),(Fo.rowKids q i m)[j]? = (m.get? j).map fun (x:Sw.Bytes×Sw.Value)=>(q++[i+j],x.2)
 | .nil,i,j=>rfl
 | .cons n v r,i,0=>rfl
 | .cons n v r,i,j+1=>by
  show (Fo.rowKids q (i+1) r)[j]? = (r.get? j).map _
  rw [hJ q r (i+1) j,show i+1+j=i+(j+1) by omega]
theorem lj (p:List Nat) (l:List (List Nat×Sw.Value)) (j:Nat):(Fo.onto p l)[j]? = (l[j]?).map fun (x:List Nat×Sw.Value)=>(p++x.1,x.2):=aD
theorem gb (q:List Nat):∀ (m:Sw.Row) (i:Nat),(Fo.rowKids q i m).length=m.length
 | .nil,i=>rfl
 | .cons n v r,i=>congrArg (· + 1) (gb q r (i+1))
theorem ft {v:Sw.Value} {i:Nat} {n:Sw.Bytes} {w:Sw.Value} (h:v.member i=some (n,w)):Fo.mem v i=w:=by
 unfold Fo.mem;rw [h]
def xU (K:Fg_) (CO ak CP CB:Addr):Sp:=fun vs H Q E=>∃ (B:Hp) (bs:List UInt8) (whole:Sw.Value) (names:List Sw.Bytes) (fs:List Addr) (k:KR),vs=[.ref k.f]∧bC B H∧bs.length≤65536∧POk CO ak CP B H bs whole k∧1≤(Pm.rowOf k.v).length∧iD E Q CO ak CP CB B H bs whole names fs k (Fo.ownO k.v)
theorem tP:∀ m:Sw.Row,m.length≤Pm.cntR m
 | .nil=>a8 _
 | .cons n v r=>by
  have:=tP r
  rw [Pm.cntR_cons];show r.length+1≤_
  omega
theorem g5 {CP:Addr} {H:Hp} {bs:List UInt8} {m:Addr} {v:Sw.Value} {p np:Nat} {n:List UInt8} (h:Nd CP H bs m v p np n):(Pm.rowOf v).length≤bs.length:=by
 have h2:=tP (Pm.rowOf v)
 have h3:=Pm.cntV_le v
 have h4:=h.at_.le
 rw [←Pm.cnt_row] at h2;omega
section
variable {P:Program} {w:World} {K:Fg_} {mg:Str→Option Value} {base:Heap} {CP CO ak CB U fUB fFO:Addr} {fdB fdO:FuncData}
theorem vx:bw ["form","part","inner"] ["form"] (a9 sF4):=fs_
theorem ok_F4 {f:Addr} {fd:FuncData} (F:Fun K "read_one" "read_one" sF4 f fd) (TP:TxP K mg CP) (TF:TxF K mg CO ak) (TW:TxW K mg CB)
  (uc:iF K U CB fUB) (GB:bK P w K mg base CX0 2 fUB fdB ["self","place"] (jL CB 1 aWB)) (bB:bT K fdB ["self","place"] [])
  (M:Mk K CO fFO) (GO:bK P w K mg base CX0 1 fFO fdO ["self","part"] (pW CO ak)) (bO:bT K fdO ["self","part"] []) :
  bK P w K mg base (CXF P w) 4 f fd ["form"] (xU K CO ak CP CB):=by
 refine okX F vx (fun vs H Q E h=>?_) (fun cdv A outer s H vs Q E hr h=>?_)
 ·obtain ⟨B,bs,whole,names,fs,k,rfl,_⟩:=h
  rfl
 ·obtain ⟨B,bs,whole,names,fs,k,rfl,sB,hz,pk,h1,q⟩:=h
  have hr2:cB 2 _:=hr.mono (by decide)
  refine ⟨_,az (br (i:=1) vx.nd rfl (.inl rfl) (cK bM (aU (aU (pv 0) rfl) rfl) bh (fun _ _=>rfl)))
   (az (bY (PW.pt (je (bo jf (aU (pv 1) rfl) (pgi TW.k5 rfl) (bA _)) (gX (yj (cN (aU (pv 1) rfl) (fun _=>rfl))))))
    (aH (dW uc GB bB rfl hr ck rfl rfl TW.mB (aj (aU (aU (pv 0) rfl) rfl) aL) (by decide))) bF)
   (az (bN (pv 0) (pgi TF.s4 rfl) rfl)
   (aH (bN (pv 0) (la rfl vx.nd (eN (aU (pv 1) rfl)) (fe (own:=[("inner",2)]) (by kernel_rfl))
    (fun s H C cl fp=>cy (i:=2) vx.nd rfl (.inl rfl)) (fun s H C cl fp=>fZ) (fun s H C cl fp=>gn (E:=E) M GO hr2 rfl TF.mO bO .nil cM (aj (pv 2) aL))) rfl)))),?_⟩
  try dsimp only [cY];obtain ⟨rw0,mu0,fx,hf⟩:=pk.at_
  obtain ⟨np,n,nd⟩:=pk.nd
  obtain ⟨nl,l,as,dx,hnl,hm,hl,hal,hmem⟩:=nd.pt
  obtain ⟨a0,e0⟩:∃ a0,as[0]? = some a0:=⟨as[0]'(by omega),aB _⟩
  obtain ⟨n0,w0,np0,em0,nd0⟩:=hmem 0 a0 e0
  obtain ⟨nl',l',as',dx',hnl',hm',hl',hal',hmem'⟩:=nd0.pt
  have hm0:=ft em0
  have wa0:=pk.wa.mem em0
  have v0:(as.map V.ref)[0]? = some (V.ref a0):=by rw [aD,e0];rfl
  have hsh:=g5 nd0
  unfold Fo.ownO at q;rw [hm0] at q;have bad:¬(w0.kind=5∧(Pm.rowOf w0).length≠0)→iY E CB k.p:=fun z=>by
   rw [ah z] at q;exact q
  refine ⟨_,rfl,fd_ hf TF.cO TF.nPa rfl (fd_ (sB _ _ hm) TP.cP TP.nMe rfl ⟨l,_,_,V.ref a0,rfl,rfl,SqL.of (sB _ _ hl),fK (j:=0) rfl v0,?_⟩)⟩
  refine ⟨_,rfl,fd_ (sB _ _ hm') TP.cP TP.nKi rfl ⟨rfl,_,rfl,?_⟩⟩
  by_cases h5:w0.kind=5
  ·rw [show decide (V.int ((Pm.pdOf w0 (Pm.mplace k.v k.p 0) np0 n0.length).kind:Int)=V.int 5)=true by rw [gk,h5];exact aq rfl]
   refine cp ⟨_,rfl,fd_ (sB _ _ hm') TP.cP TP.nMe rfl ⟨_,.inl ⟨_,SqL.of (sB _ _ hl'),rfl⟩,?_⟩⟩
   by_cases hnl0:(Pm.rowOf w0).length=0
   ·have:as'=[]:=List.length_eq_zero_iff.mp (by omega)
    subst this;exact cq ⟨_,rfl,fd_ hf TF.cO TF.nPa rfl (fd_ (sB _ _ hm) TP.cP TP.nPl rfl ⟨rfl,bad fun z=>z.2 hnl0⟩)⟩
   ·have hne:(!(as'.map V.ref).isEmpty)=true:=by
     cases as' with
     | nil=>exact aP (by rw [←hal'];rfl) hnl0
     | cons x y=>rfl
    rw [hne];rw [ao ⟨h5,hnl0⟩] at q;have q:∀ H':Hp,Aft CO ak CP B H H' bs whole names fs k 4 (Fo.rowKids [0] 0 (Pm.rowOf w0))→Q .non H':=q
    refine cp ⟨_,rfl,k.f,CO,fx,_,rfl,hf,TF.cO,TF.nSh,(by show 11<1000;decide),?_⟩
    generalize hG:upd H k.f _=G;have hGf:=(congrFun hG k.f).symm.trans au
    have kG:Kp H G k.f:=fun b o e n=>by rw [←hG,aa n];exact e
    have alG:∀ b,G b=none→H b=none:=fun b e=>kG.free ⟨_,hGf⟩ e
    have sG:bC B G:=iq sB pk.bf kG
    refine ⟨_,rfl,fd_ (sG _ _ hm') TP.cP TP.nMe rfl ⟨l',rfl,⟨_,SqL.of (sG _ _ hl')⟩,fun D hD=>?_⟩⟩
    refine gM (xs:=as'.map V.ref) (fun i G'=>∃ ks:List KR,bC G G'∧G' D=some (.lst (ks.map KR.rf))∧ks.length=i∧ic CO ak CP B H G' bs whole ks∧(∀ x∈ks,x.ins≠D)∧ks.map KR.kd=(Fo.onto k.path (Fo.rowKids [0] 0 (Pm.rowOf w0))).take i) ?_ ?_ ?_ ?_
    ·exact ⟨[],fun b o e=>(aa (af e hD)).trans e,au,rfl,.nil,fun x hx=>aP hx bG,rfl⟩
    ·rintro i G' _ ⟨ks,kk,_⟩
     exact SqL.of (kk _ _ (sG _ _ hl'))
    ·rintro i x G' hx ⟨ks,kk,hD',hlen,hk,hni,hkd⟩
     rw [aD] at hx;cases ea:as'[i]? with
     | none=>rw [ea] at hx;cases hx
     | some b =>
      rw [ea] at hx;have hx:V.ref b=x:=aA hx
      subst hx;have hi:i<as'.length:=(ay.mp ea).1
      obtain ⟨n1,w1,np1,em1,nd1⟩:=hmem' i b ea
      refine ⟨rfl,gU ⟨_,rfl,fun g gx hg hgx ngx=>iu hg hgx ngx fun nm ins G2 mk=>⟨rfl,?_⟩⟩⟩
      have al2:∀ c,G' c=none→H c=none:=fun c e=>alG c (kk.free e)
      have hk2:=hk.snoc al2 sB mk ⟨_,_,nd1⟩ (path:=k.path++[0]++[i]) (wa0.mem em1)
      have niD:ins≠D:=fun z=>by have:=mk.hi;rw [z,hD'] at this;cases this
      have hDH:H D=none:=alG _ hD
      refine ⟨_,mk.sm _ _ hD',by rw [ae,hlen,sizeLine_eq];omega,ks++[⟨g,b,nm,ins,k.path++[0]++[i],w1,Pm.mplace w0 (Pm.mplace k.v k.p 0) i⟩],fun c o e=>(aa (af e hD)).trans (mk.sm _ _ (kk _ _ e)),?_,by rw [aG,hlen];rfl,?_,?_,?_⟩
      ·rw [au,aO];rfl
      ·refine ⟨fun y hy=>?_,hk2.dj⟩
       obtain ⟨py,h1,h2,h3⟩:=hk2.ok y hy
       have nD:∀ {c:Addr} {o:HO},G2 c=some o→(∀ ys,o≠.lst ys)→upd G2 D (.lst (ks.map KR.rf++[V.ref g])) c=some o:=fun {c o} e hno=>(aa (fun z=>by rw [z,mk.sm _ _ hD'] at e;injection e with e;exact hno _ e.symm)).trans e
       obtain ⟨rw',mu',fy,ey⟩:=py.at_
       refine ⟨⟨py.bf,py.bn,py.bi,⟨rw',mu',fy,nD ey (fun _ z=>by cases z)⟩,nD py.an (fun _ z=>by cases z),?_,py.nd,py.wa⟩,h1,h2,h3⟩
       refine (aa ?_).trans py.ai
       rcases aT.mp hy with hy | hy
       ·exact hni y hy
       ·rw [aJ] at hy;subst hy;exact niD
      ·intro y hy;rcases aT.mp hy with hy | hy
       ·exact hni y hy
       ·rw [aJ] at hy;subst hy;exact niD
      ·have em1':(Pm.rowOf w0).get? i=some (n1,w1):=by rw [←Pm.member_eq];exact em1
       rw [aO,hkd,cw,lj,hJ,em1'];show _++[(k.path++[0]++[i],w1)]=_++[(k.path++([0]++[0+i]),w1)]
       rw [dA,bq]
    rintro G' ⟨ks,kk,hD',hlen,hk,hni,hkd⟩
    rw [ae] at hlen;have hDH:H D=none:=alG _ hD
    have nDf:D≠k.f:=fun z=>by rw [z,hGf] at hD;cases hD
    refine ⟨_,rfl,k.f,CO,fx,_,rfl,kk _ _ hGf,TF.cO,TF.nIn,(by show 11<1000;decide),?_⟩
    refine q _ ⟨fun b o e nb=>?_,{ fd0 k.m ak rw0 k.nm mu0 k.ins with shape:=4,inside:=.ref D },D,ks,⟨fx,au⟩,rfl,rfl,rfl,(aa nDf).trans hD',.inr hDH,hk.fresh fun b o e hb=>(aa (fun z=>by rw [z,hf] at hb;cases hb)).trans e,hni,?_,fun z=>aP z (by decide)⟩
    ·have nb':b≠k.f:=fun z=>nb (by rw [z];simp)
     exact (aa nb').trans (kk _ _ (kG _ _ e nb'))
    ·rw [hkd,bJ];show ((Fo.rowKids [0] 0 (Pm.rowOf w0)).map _).length≤_
     rw [ae,gb,ae,hal'];exact aI _
  ·rw [show decide (V.int ((Pm.pdOf w0 (Pm.mplace k.v k.p 0) np0 n0.length).kind:Int)=V.int 5)=false by rw [gk,fT,ax (by omega)]]
   exact cq (cq ⟨_,rfl,fd_ hf TF.cO TF.nPa rfl (fd_ (sB _ _ hm) TP.cP TP.nPl rfl ⟨rfl,bad fun z=>h5 z.1⟩)⟩)
end
theorem jw {k:Nat} {A:Around} (r:cB k A):A.units+1<cLine:=by have:=r.un;omega
def kB (n:List UInt8):List Key:=n.map fun c=>.inl (c.toNat:Int)
theorem ux (n:List UInt8):(kB n).map kV=n.map bv:=by
 unfold kB;rw [eD];rfl
theorem qh:∀ {a b:List UInt8},kB a=kB b→a=b
 | [],[],_=>rfl
 | [],_::_,h=>by cases h
 | _::_,[],h=>by cases h
 | c::a,d::b,h=>by
  have h:(Sum.inl (c.toNat:Int):Key)::kB a=Sum.inl (d.toNat:Int)::kB b:=h
  injection h with h1 h2;injection h1 with h1;rw [qh h2,UInt8.toNat_inj.mp (show c.toNat=d.toNat by omega)]
def bkD:List Sw.Bytes→List Addr→List (List Key×V)
 | n::ns,f::fs=>(kB n,.ref f)::bkD ns fs
 | _,_=>[]
theorem qv:∀ (ns:List Sw.Bytes) (fs:List Addr),ns.length=fs.length→∀ n:Sw.Bytes,(ns.contains n=true→∃ (j:Nat) (u:Addr),ns[j]? = some n∧fs[j]? = some u∧eT (bkD ns fs) (kB n)=some (.ref u))∧(ns.contains n=false→eT (bkD ns fs) (kB n)=none)
 | [],[],_,n=>⟨fun z=>(by cases z),fun _=>rfl⟩
 | [],_::_,h,_=>by cases h
 | _::_,[],h,_=>by cases h
 | m::ns,f::fs,h,n=>by
  obtain ⟨i1,i2⟩:=qv ns fs (by simpa using h) n
  by_cases c:m=n
  ·subst c;refine ⟨fun _=>⟨0,f,rfl,rfl,dP rfl⟩,fun z=>?_⟩
   rw [c5,beq_self_eq_true] at z;cases z
  ·have ec:(m::ns).contains n=ns.contains n:=by
    rw [c5,aQ.mpr (aN c),Bool.false_or]
   have ev:eT (bkD (m::ns) (f::fs)) (kB n)=eT (bkD ns fs) (kB n):=ee (fun z=>c (qh z))
   rw [ec,ev];exact ⟨fun z=>by
    obtain ⟨j,u,h1,h2,h3⟩:=i1 z
    exact ⟨j+1,u,by simpa using h1,by simpa using h2,h3⟩,i2⟩
def xT (K:Fg_) (CO ak CP CB:Addr):Sp:=fun vs H Q E=>∃ (B:Hp) (a bf:Addr) (bs:List UInt8) (whole:Sw.Value) (names:List Sw.Bytes) (fs:List Addr) (k:KR),vs=[.ref a,.ref k.f,.ref bf]∧bC B H∧SqL K B a (bs.map bv)∧bs.length≤65536∧POk CO ak CP B H bs whole k∧1≤(Pm.rowOf k.v).length∧H bf=some (.dT (bkD names fs))∧names.length=fs.length∧iD E Q CO ak CP CB B H bs whole names fs k (Fo.ownU names k.v)
theorem yg:bw ["row","form","book_forms","part","name"] ["row","form","book_forms"] (a9 sF5):=fs_
theorem ok_F5 {f fIB:Addr} {fd fdI:FuncData} (F:Fun K "read_use" "read_use" sF5 f fd) (TP:TxP K mg CP) (TF:TxF K mg CO ak) (TW:TxW K mg CB)
  (uc:iF K U CB fUB) (GB:bK P w K mg base CX0 2 fUB fdB ["self","place"] (jL CB 1 aWB)) (bB:bT K fdB ["self","place"] [])
  (GI:Co P w K mg base CX0 1 fIB fdI ["row","part"] (tI K CP) "inner_bytes") :
  bK P w K mg base (CXF P w) 4 f fd ["row","form","book_forms"] (xT K CO ak CP CB):=by
 refine okX F yg (fun vs H Q E h=>?_) (fun cdv A outer s H vs Q E hr h=>?_)
 ·obtain ⟨B,a,bf,bs,whole,names,fs,k,rfl,_⟩:=h
  rfl
 ·obtain ⟨B,a,bf,bs,whole,names,fs,k,rfl,sB,hs,hz,pk,h1,hbf,hnf,q⟩:=h
  have hr1:cB 1 _:=hr.mono (by decide)
  refine ⟨_,az (br (i:=3) yg.nd rfl (.inl rfl) (cK bM (aU (aU (pv 1) rfl) rfl) bh (fun _ _=>rfl)))
   (az (br (i:=4) yg.nd rfl (.inl rfl) (g7 gY rfl TW.tup PyProof.Rows.boot_tuple (aj (cv GI hr1 rfl cM (aj (pv 0) (aj (pv 3) aL))) aL)))
   (az (bY (PW.pt (je (bo jf (aU (pv 3) rfl) (pgi TW.k4 rfl) (bA _)) (gX (tX (rY (jw hr) (pv 4) (pv 2))))))
    (aH (dW uc GB bB rfl hr ck rfl rfl TW.mB (aj (aU (aU (pv 1) rfl) rfl) aL) (by decide))) bF)
   (az (bN (pv 1) (pgi TF.s5 rfl) rfl)
   (aH (bN (pv 1) (nv (jw hr) (pv 2) (pv 4) (fun _ _=>rfl)) rfl))))),?_⟩
  try dsimp only [cY];obtain ⟨rw0,mu0,fx,hf⟩:=pk.at_
  obtain ⟨np,n,nd⟩:=pk.nd
  obtain ⟨nl,l,as,dx,hnl,hm,hl,hal,hmem⟩:=nd.pt
  obtain ⟨a0,e0⟩:∃ a0,as[0]? = some a0:=⟨as[0]'(by omega),aB _⟩
  obtain ⟨n0,w0,np0,em0,nd0⟩:=hmem 0 a0 e0
  obtain ⟨nl',l',as',dx',hnl',hm',hl',hal',hmem'⟩:=nd0.pt
  have hm0:=ft em0
  have v0:(as.map V.ref)[0]? = some (V.ref a0):=by rw [aD,e0];rfl
  obtain ⟨i1,i2⟩:=nd0.at_.inner
  have hle:=nd0.at_.le
  unfold Fo.ownU at q;rw [hm0] at q;refine ⟨_,rfl,fd_ hf TF.cO TF.nPa rfl (fd_ (sB _ _ hm) TP.cP TP.nMe rfl ⟨l,_,_,V.ref a0,rfl,rfl,SqL.of (sB _ _ hl),fK (j:=0) rfl v0,?_⟩)⟩
  refine ⟨_,rfl,_,rfl,a,a0,nl',l',_,bs,rfl,sB.seq hs,⟨dx',sB _ _ hm'⟩,by show Pm.mplace _ _ _+Pm.ioff _≤Pm.mplace _ _ _+_;omega,hle,fun x hx=>?_⟩
  have i1':((bs.drop (Pm.pdOf w0 (Pm.mplace k.v k.p 0) np0 n0.length).ins).take ((Pm.pdOf w0 (Pm.mplace k.v k.p 0) np0 n0.length).fin - (Pm.pdOf w0 (Pm.mplace k.v k.p 0) np0 n0.length).ins))=Pm.inner w0:=i1
  rw [i1'];have k1:bC H (upd H x (.lst ((Pm.inner w0).map bv))):=fun b o e=>(aa (af e hx)).trans e
  refine ⟨x,_,rfl,.inl ⟨SqL.of au,fun y hy=>?_⟩⟩
  have k2:bC H (upd (upd H x (.lst ((Pm.inner w0).map bv))) y (.tup ((Pm.inner w0).map bv))):=fun b o e=>(aa (af (k1 _ _ e) hy)).trans (k1 _ _ e)
  generalize hG:upd (upd H x (.lst ((Pm.inner w0).map bv))) y (.tup ((Pm.inner w0).map bv))=G at k2;have hGy:G y=some (.tup ((kB (Pm.inner w0)).map kV)):=by rw [←hG,au,ux]
  have sG:bC B G:=sB.trans k2
  refine ⟨_,rfl,fd_ (sG _ _ hm') TP.cP TP.nKi rfl ⟨rfl,_,rfl,?_⟩⟩
  by_cases h4:w0.kind=4
  ·obtain ⟨t,rfl⟩:∃ t,w0 = .text t:=by cases w0<;>first | exact ⟨_,rfl⟩ | cases h4
   have q:iD E Q CO ak CP CB B H bs whole names fs k (if names.contains (Sw.utf8 t)=true then some (5,[]) else none):=q
   have hGy:G y=some (.tup ((kB (Sw.utf8 t)).map kV)):=hGy
   obtain ⟨b1,b2⟩:=qv names fs hnf (Sw.utf8 t)
   refine cp ⟨_,rfl,_,rfl,bf,_,rfl,.t (k2 _ _ hbf) hGy,_,rfl,?_⟩
   cases hc:names.contains (Sw.utf8 t) with
   | true =>
    rw [ao hc] at q;have q:∀ H':Hp,Aft CO ak CP B H H' bs whole names fs k 5 []→Q .non H':=q
    obtain ⟨j,u,c1,c2,c3⟩:=b1 hc
    rw [c3];refine cp ⟨_,rfl,k.f,CO,fx,_,rfl,k2 _ _ hf,TF.cO,TF.nSh,(by show 11<1000;decide),?_⟩
    have nbf:bf≠k.f:=fun z=>by rw [z,hf] at hbf;cases hbf
    have nyf:y≠k.f:=fun z=>by rw [z,k2 _ _ hf] at hGy;cases hGy
    refine ⟨_,rfl,_,rfl,bf,_,rfl,(c3▸jq.t ((aa nbf).trans (k2 _ _ hbf)) ((aa nyf).trans hGy)),_,rfl,k.f,CO,fx,_,rfl,au,TF.cO,TF.nUs,(by show 11<1000;decide),?_⟩
    rw [ip];obtain ⟨n1,n2,n3⟩:=pk.nf
    refine q _ ⟨fun b o e nb=>?_,{ fd0 k.m ak rw0 k.nm mu0 k.ins with shape:=5,used:=.ref u },k.ins,[],⟨fx,au⟩,rfl,rfl,rfl,(aa n2).trans (k2 _ _ pk.ai),.inl rfl,.nil,fun x hx=>aP hx bG,rfl,fun _=>⟨u,j,t,rfl,hm0,c1,c2⟩⟩
    exact (aa (fun z=>nb (by rw [z];simp))).trans (k2 _ _ e)
   | false =>
    rw [hc] at q;have q:iY E CB k.p:=q
    rw [b2 hc];exact cq ⟨_,rfl,fd_ (k2 _ _ hf) TF.cO TF.nPa rfl (fd_ (sG _ _ hm) TP.cP TP.nPl rfl ⟨rfl,q⟩)⟩
  ·rw [show decide (V.int ((Pm.pdOf w0 (Pm.mplace k.v k.p 0) np0 n0.length).kind:Int)=V.int 4)=false by rw [gk,fT,ax (by omega)]]
   have q:iY E CB k.p:=by
    cases w0<;>first | exact aP rfl h4 | exact q
   exact cq (cq ⟨_,rfl,fd_ (k2 _ _ hf) TF.cO TF.nPa rfl (fd_ (sG _ _ hm) TP.cP TP.nPl rfl ⟨rfl,q⟩)⟩)
structure LS (CO ak CP:Addr) (B H G:Hp) (bs:List UInt8) (whole:Sw.Value) (k:KR) (d:FD) (e:List (List Key×V)) (ks:List KR):Prop where
 kp:KpL H G [k.f,k.nm,k.ins]
 at_:iy CO G k.f d
 an:G k.nm=some (.dT e)
 ai:G k.ins=some (.lst (ks.map KR.rf))
 kids:ic CO ak CP B H G bs whole ks
section
variable {CO ak CP:Addr} {B H G G':Hp} {bs:List UInt8} {whole:Sw.Value} {k:KR} {d:FD} {e:List (List Key×V)} {ks:List KR}
theorem LS.ne (h:LS CO ak CP B H G bs whole k d e ks):k.nm≠k.f∧k.ins≠k.f∧k.nm≠k.ins:=by
 obtain ⟨dx,hx⟩:=h.at_
 refine ⟨fun z=>?_,fun z=>?_,fun z=>?_⟩
 ·have:=h.an;rw [z,hx] at this;cases this
 ·have:=h.ai;rw [z,hx] at this;cases this
 ·have:=h.an;rw [z,h.ai] at this;cases this
theorem LS.al (h:LS CO ak CP B H G bs whole k d e ks) (b:Addr) (hb:G b=none):H b=none:=by
 obtain ⟨dx,hx⟩:=h.at_
 cases eb:H b with
 | none=>rfl
 | some o =>
  have:=h.kp b o eb (fun z=>by
   simp only [aF,bG,or_false] at z;rcases z with z | z | z
   ·rw [z,hx] at hb;cases hb
   ·rw [z,h.an] at hb;cases hb
   ·rw [z,h.ai] at hb;cases hb)
  rw [hb] at this;cases this
theorem LS.sb (h:LS CO ak CP B H G bs whole k d e ks) (pk:POk CO ak CP B H bs whole k) (sB:bC B H):bC B G:=fun b o eb=>h.kp b o (sB _ _ eb) (fun z=>by
 simp only [aF,bG,or_false] at z;rcases z with z | z | z
 ·rw [z,pk.bf] at eb;cases eb
 ·rw [z,pk.bn] at eb;cases eb
 ·rw [z,pk.bi] at eb;cases eb)
theorem LS.start (pk:POk CO ak CP B H bs whole k):∃ rw mu,LS CO ak CP B H H bs whole k (fd0 k.m ak rw k.nm mu k.ins) [] []:=by
 obtain ⟨rw,mu,h⟩:=pk.at_
 exact ⟨rw,mu,fun b o eb _=>eb,h,pk.an,pk.ai,.nil⟩
theorem LS.same (h:LS CO ak CP B H G bs whole k d e ks) (s:bC G G'):LS CO ak CP B H G' bs whole k d e ks:=by
 obtain ⟨dx,hx⟩:=h.at_
 exact ⟨fun b o eb n=>s _ _ (h.kp b o eb n),⟨dx,s _ _ hx⟩,s _ _ h.an,s _ _ h.ai,h.kids.fresh fun b o eb _=>s _ _ eb⟩
theorem LS.up {x:Addr} {o:HO} (hp:POk CO ak CP B H bs whole k) (h:ic CO ak CP B H G bs whole ks) (hx:x∈[k.f,k.nm,k.ins]):ic CO ak CP B H (upd G x o) bs whole ks:=by
 obtain ⟨rw,mu,dx,hf⟩:=hp.at_
 refine h.fresh fun b ob eb hb=>(aa fun z=>?_).trans eb
 subst z;simp only [aF,bG,or_false] at hx;rcases hx with z | z | z
 ·rw [z,hf] at hb;cases hb
 ·rw [z,hp.an] at hb;cases hb
 ·rw [z,hp.ai] at hb;cases hb
theorem LS.setf (h:LS CO ak CP B H G bs whole k d e ks) (hp:POk CO ak CP B H bs whole k) (dx:Addr) (d':FD):LS CO ak CP B H (upd G k.f (.ins CO dx (ff d'))) bs whole k d' e ks:=by
 obtain ⟨n1,n2,n3⟩:=h.ne
 exact ⟨fun b o eb n=>(aa (fun z=>n (by rw [z];simp))).trans (h.kp b o eb n),⟨dx,au⟩,(aa n1).trans h.an,(aa n2).trans h.ai,LS.up hp h.kids (by simp)⟩
theorem LS.setn (h:LS CO ak CP B H G bs whole k d e ks) (hp:POk CO ak CP B H bs whole k) (e':List (List Key×V)):LS CO ak CP B H (upd G k.nm (.dT e')) bs whole k d e' ks:=by
 obtain ⟨n1,n2,n3⟩:=h.ne
 obtain ⟨dx,hx⟩:=h.at_
 exact ⟨fun b o eb n=>(aa (fun z=>n (by rw [z];simp))).trans (h.kp b o eb n),⟨dx,(aa (aN n1)).trans hx⟩,au,(aa (aN n3)).trans h.ai,LS.up hp h.kids (by simp)⟩
theorem LS.seti (h:LS CO ak CP B H G bs whole k d e ks) (hp:POk CO ak CP B H bs whole k) {ks':List KR} (hk:ic CO ak CP B H G bs whole ks'):LS CO ak CP B H (upd G k.ins (.lst (ks'.map KR.rf))) bs whole k d e ks':=by
 obtain ⟨n1,n2,n3⟩:=h.ne
 obtain ⟨dx,hx⟩:=h.at_
 exact ⟨fun b o eb n=>(aa (fun z=>n (by rw [z];simp))).trans (h.kp b o eb n),⟨dx,(aa (aN n2)).trans hx⟩,(aa n3).trans h.an,au,LS.up hp hk (by simp)⟩
theorem LS.aft (h:LS CO ak CP B H G bs whole k d e ks) (hp:POk CO ak CP B H bs whole k) (names:List Sw.Bytes) (fs:List Addr) {sh:Nat} {l:List (List Nat×Sw.Value)} (h1:d.part=k.m) (h2:d.shape=sh) (h3:d.inside = .ref k.ins) (h4:ks.map KR.kd=Fo.onto k.path l) (h5:sh≠5):Aft CO ak CP B H G bs whole names fs k sh l :=
 ⟨h.kp,d,k.ins,ks,h.at_,h1,h2,h3,h.ai,.inl rfl,h.kids,(fun x hx z=>by
  have:=(h.kids.ok x hx).2.2.2
  rw [z,hp.ai] at this;cases this),h4,fun z=>aP z h5⟩
end
structure Nk (ns:List Sw.Bytes) (i:Nat) (e:List (List Key×V)):Prop where
 has:∀ x,(eT e (kB x)).isSome=true↔x∈ns.take i
 le:e.length≤i
 eq:e.length=i↔(ns.take i).Nodup
theorem Nk.zero (ns:List Sw.Bytes):Nk ns 0 []:=⟨fun x=>⟨fun z=>(by cases z),fun z=>(by cases z)⟩,aI _,⟨fun _=>gF,fun _=>rfl⟩⟩
theorem lp {α:Type} {l:List α} {x:α}:(l++[x]).Nodup↔l.Nodup∧x∉l:=by
 rw [dS];constructor
 ·rintro ⟨h1,_,h3⟩
  exact ⟨h1,fun z=>h3 x z x (by simp) rfl⟩
 ·rintro ⟨h1,h2⟩
  refine ⟨h1,by simp,fun a ha b hb z=>?_⟩
  rw [aJ] at hb;subst hb z;exact h2 ha
theorem Nk.step {ns:List Sw.Bytes} {i:Nat} {e:List (List Key×V)} {n:Sw.Bytes} (h:Nk ns i e) (hn:ns[i]? = some n) (v:V):Nk ns (i+1) (fG e (kB n) v):=by
 have et:ns.take (i+1)=ns.take i++[n]:=by rw [cw,hn];rfl
 rw [show Nk ns (i+1) (fG e (kB n) v)↔Nk ns (i+1) (fG e (kB n) v) from Iff.rfl];have hh:∀ x,(eT (fG e (kB n) v) (kB x)).isSome=true↔x∈ns.take (i+1):=fun x=>by
  rw [kM,et,aT,aJ];by_cases c:kB x=kB n
  ·rw [ao c];exact ⟨fun _=>.inr (qh c),fun _=>rfl⟩
  ·rw [ah c,h.has];exact ⟨.inl,fun z=>z.elim id (fun y=>aP (by rw [y]) c)⟩
 cases ev:eT e (kB n) with
 | none =>
  have hl:(fG e (kB n) v).length=e.length+1:=by rw [oQ v ev,aG];rfl
  have hno:n∉ns.take i:=fun z=>by
   have:=(h.has n).mpr z
   rw [ev] at this;cases this
  refine ⟨hh,by have:=h.le;omega,?_⟩
  rw [hl,et,lp];constructor
  ·intro z;exact ⟨h.eq.mp (by omega),hno⟩
  ·rintro ⟨z,_⟩
   have:=h.eq.mpr z
   omega
 | some u =>
  have hl:(fG e (kB n) v).length=e.length:=by
   unfold fG;rw [ao (by rw [g0,ev];rfl),ae]
  have hyes:n∈ns.take i:=(h.has n).mp (by rw [ev];rfl)
  have:=h.le
  refine ⟨hh,by omega,?_⟩
  rw [hl,et,lp];constructor
  ·intro z;omega
  ·rintro ⟨_,z⟩;exact aP hyes z
theorem qL {ns:List Sw.Bytes} (h:Sw.rising ns=true):ns.Nodup:=by
 rw [List.Nodup,List.pairwise_iff_getElem];intro i j hi hj hij z;have:=Fo.rise_nodup h (n:=ns[i]) (aB hi) (by rw [aB hj,z])
 omega
theorem pD {a b:List Sw.Bytes} (ha:a.Nodup) (hb:b.Nodup):(a++b).Nodup↔Sw.apart a b=true:=by
 unfold Sw.apart;rw [dH,dS];constructor
 ·rintro ⟨_,_,h⟩ x hx
  rw [Bool.not_eq_true'];cases e:b.contains x with
  | false=>rfl
  | true=>exact aP rfl (h x hx x (eJ.mp e))
 ·intro h;refine ⟨ha,hb,fun x hx y hy z=>?_⟩
  subst z;have:=h x hx
  rw [eJ.mpr hy] at this;cases this
theorem oH {m:Sw.Row} (h:(Sw.Value.rec_ m).plain=true):Sw.rising m.names=true:=by
 have hw:(m.plain&&(m.names.all Sw.nameOk&&Sw.rising m.names))=true:=h
 rw [bb,bb] at hw;exact hw.2.2
def xV (K:Fg_) (CO ak CP CB:Addr):Sp:=fun vs H Q E=>∃ (B:Hp) (bs:List UInt8) (whole:Sw.Value) (names:List Sw.Bytes) (fs:List Addr) (k:KR),vs=[.ref k.f]∧bC B H∧bs.length≤65536∧POk CO ak CP B H bs whole k∧3≤(Pm.rowOf k.v).length∧iD E Q CO ak CP CB B H bs whole names fs k (Fo.ownN k.v)
section
variable {P:Program} {w:World} {K:Fg_} {mg:Str→Option Value} {base:Heap} {CP CO ak CB U fUB fFO:Addr} {fdB fdO:FuncData}
theorem oF:bw ["form","maybe","must","rest","part","inner"] ["form"] (a9 sF3):=fs_
theorem ok_F3 {f:Addr} {fd:FuncData} (F:Fun K "read_names" "read_names" sF3 f fd) (TP:TxP K mg CP) (TF:TxF K mg CO ak) (TW:TxW K mg CB)
  (uc:iF K U CB fUB) (GB:bK P w K mg base CX0 2 fUB fdB ["self","place"] (jL CB 1 aWB)) (bB:bT K fdB ["self","place"] [])
  (M:Mk K CO fFO) (GO:bK P w K mg base CX0 1 fFO fdO ["self","part"] (pW CO ak)) (bO:bT K fdO ["self","part"] []) :
  bK P w K mg base (CXF P w) 4 f fd ["form"] (xV K CO ak CP CB):=by
 refine okX F oF (fun vs H Q E h=>?_) (fun cdv A outer s H vs Q E hr h=>?_)
 ·obtain ⟨B,bs,whole,names,fs,k,rfl,_⟩:=h
  rfl
 ·obtain ⟨B,bs,whole,names,fs,k,rfl,sB,hz,pk,h3,q⟩:=h
  have hr2:cB 2 _:=hr.mono (by decide)
  refine ⟨_,az (br (i:=1) oF.nd rfl (.inl rfl) (cK bM (aU (aU (pv 0) rfl) rfl) bh (fun _ _=>rfl)))
   (az (br (i:=2) oF.nd rfl (.inl rfl) (cK bM (aU (aU (pv 0) rfl) rfl) bh (fun _ _=>rfl)))
   (az (br (i:=3) oF.nd rfl (.inl rfl) (cK bM (aU (aU (pv 0) rfl) rfl) bh (fun _ _=>rfl)))
   (az (bY (PW.pt (je (bo jf (aU (pv 1) rfl) (pgi TW.k6 rfl) (bA _)) (gX (bo jf (aU (pv 2) rfl) (pgi TW.k6 rfl) (bA _)))))
    (aH (dW uc GB bB rfl hr ck rfl rfl TW.mB (aj (aU (aU (pv 0) rfl) rfl) aL) (by decide))) bF)
   (az (bN (pv 0) (pgi TF.s3 rfl) rfl)
   (az (bN (pv 0) (fq (aj (pgi TW.k6 rfl) aL)) rfl)
   (az (fm PassesOwn.leaving rfl (eN (fH qO (aU (pv 1) rfl) (aU (pv 2) rfl))) (cy (i:=4) oF.nd rfl (.inl rfl))
    (az (br (i:=5) oF.nd rfl (.inl rfl) (gn (E:=E) M GO hr2 rfl TF.mO bO .nil cM (aj (pv 4) aL)))
    (az (kz (jw hr) (aU (pv 0) rfl) (g7 gY rfl TW.tup PyProof.Rows.boot_tuple (aj (aU (pv 4) rfl) aL)) (pv 5) rfl)
    (aH (b6 (g8 a7 PySem.F.slot_list_append PySem.F.type_list_append eI (aU (pv 0) rfl) (aj (pv 5) aL)))))))
   (az (bY (bo kf (di sP (by rfl) TW.len b8 (aj (aU (pv 0) rfl) aL)) (di eo (by rfl) TW.len b8 (aj (aU (pv 0) rfl) aL)) (bA _))
    (aH (dW uc GB bB rfl hr ck rfl rfl TW.mB (aj (aU (aU (pv 0) rfl) rfl) aL) (by decide))) bF)
   (az (bN (pv 0) (la rfl oF.nd (eN (aU (pv 2) rfl)) (fe (own:=[("part",4)]) (by kernel_rfl))
    (fun s H C cl fp=>cy (i:=4) oF.nd rfl (.inl rfl)) (fun s H C cl fp=>fZ) (fun s H C cl fp=>kD (K:=K) rfl (pv 4) rfl)) rfl)
   (aH (bY (bo jf (aU (pv 3) rfl) (pgi TW.k0 rfl) (bA _))
    (az (bN (pv 0) (gn (E:=E) M GO hr2 rfl TF.mO bO .nil cM (aj (pv 3) aL)) rfl)
    (aH (b6 (g8 a7 PySem.F.slot_list_append PySem.F.type_list_append eI (aU (pv 0) rfl) (aj (aU (pv 0) rfl) aL))))) bF)))))))))),?_⟩
  try dsimp only [cY];obtain ⟨np,n,nd⟩:=pk.nd
  refine e4_ nd.pt fun nl l as dx=>c5_ fun hnl hm hl hal hmem=>?_
  obtain ⟨a0,e0⟩:∃ a0,as[0]? = some a0:=⟨as[0]'(by omega),aB _⟩
  obtain ⟨a1,e1⟩:∃ a1,as[1]? = some a1:=⟨as[1]'(by omega),aB _⟩
  obtain ⟨a2,e2⟩:∃ a2,as[2]? = some a2:=⟨as[2]'(by omega),aB _⟩
  obtain ⟨n0,w0,np0,em0,nd0⟩:=hmem 0 a0 e0
  obtain ⟨n1,w1,np1,em1,nd1⟩:=hmem 1 a1 e1
  obtain ⟨n2,w2,np2,em2,nd2⟩:=hmem 2 a2 e2
  refine e4_ nd0.pt fun nl0 l0 as0 dx0=>c5_ fun hnl0 hm0 hl0 hal0 hmem0=>?_
  refine e4_ nd1.pt fun nl1 l1 as1 dx1=>c5_ fun hnl1 hm1 hl1 hal1 hmem1=>?_
  refine e4_ nd2.pt fun nl2 l2 as2 dx2=>c5_ fun hnl2 hm2 hl2 hal2 hmem2=>?_
  have wa0:=pk.wa.mem em0
  have wa1:=pk.wa.mem em1
  have wa2:=pk.wa.mem em2
  have sh0:=g5 nd0
  have sh1:=g5 nd1
  have vr:∀ (i:Nat) (a:Addr),as[i]? = some a→(as.map V.ref)[i]? = some (V.ref a):=fun i a e=>by rw [aD,e];rfl
  unfold Fo.ownN at q;rw [ft em0,ft em1,ft em2] at q;have bad:¬(w0.kind=6∧w1.kind=6∧Sw.apart (Pm.rowOf w0).names (Pm.rowOf w1).names=true)→iY E CB k.p:=fun z=>by
   rw [ah z] at q;exact q
  obtain ⟨rw0,mu0,L0⟩:=LS.start pk
  obtain ⟨fx,hf⟩:=L0.at_
  refine ⟨_,rfl,fd_ hf TF.cO TF.nPa rfl (fd_ (sB _ _ hm) TP.cP TP.nMe rfl ⟨l,_,_,V.ref a0,rfl,rfl,SqL.of (sB _ _ hl),fK (j:=0) rfl (vr 0 a0 e0),?_⟩)⟩
  refine ⟨_,rfl,fd_ hf TF.cO TF.nPa rfl (fd_ (sB _ _ hm) TP.cP TP.nMe rfl ⟨l,_,_,V.ref a1,rfl,rfl,SqL.of (sB _ _ hl),fK (j:=1) rfl (vr 1 a1 e1),?_⟩)⟩
  refine ⟨_,rfl,fd_ hf TF.cO TF.nPa rfl (fd_ (sB _ _ hm) TP.cP TP.nMe rfl ⟨l,_,_,V.ref a2,rfl,rfl,SqL.of (sB _ _ hl),fK (j:=2) rfl (vr 2 a2 e2),?_⟩)⟩
  refine ⟨_,rfl,fd_ (sB _ _ hm0) TP.cP TP.nKi rfl ⟨rfl,_,rfl,?_⟩⟩
  by_cases h6:w0.kind=6
  case neg =>
   rw [show decide (V.int ((Pm.pdOf w0 (Pm.mplace k.v k.p 0) np0 n0.length).kind:Int)=V.int 6)=false by rw [gk,fT,ax (by omega)]]
   exact cq (cq ⟨_,rfl,fd_ hf TF.cO TF.nPa rfl (fd_ (sB _ _ hm) TP.cP TP.nPl rfl ⟨rfl,bad fun z=>h6 z.1⟩)⟩)
  rw [show decide (V.int ((Pm.pdOf w0 (Pm.mplace k.v k.p 0) np0 n0.length).kind:Int)=V.int 6)=true by rw [gk,h6];exact aq rfl]
  refine cp ⟨_,rfl,fd_ (sB _ _ hm1) TP.cP TP.nKi rfl ⟨rfl,_,rfl,?_⟩⟩
  by_cases h6':w1.kind=6
  case neg =>
   rw [show decide (V.int ((Pm.pdOf w1 (Pm.mplace k.v k.p 1) np1 n1.length).kind:Int)=V.int 6)=false by rw [gk,fT,ax (by omega)]]
   exact cq ⟨_,rfl,fd_ hf TF.cO TF.nPa rfl (fd_ (sB _ _ hm) TP.cP TP.nPl rfl ⟨rfl,bad fun z=>h6' z.2.1⟩)⟩
  rw [show decide (V.int ((Pm.pdOf w1 (Pm.mplace k.v k.p 1) np1 n1.length).kind:Int)=V.int 6)=true by rw [gk,h6'];exact aq rfl]
  have nd_0:(Pm.rowOf w0).names.Nodup:=by
   obtain ⟨r,rfl⟩:∃ r,w0 = .rec_ r:=by cases w0<;>first | exact ⟨_,rfl⟩ | cases h6
   exact qL (oH nd0.pl)
  have nd_1:(Pm.rowOf w1).names.Nodup:=by
   obtain ⟨r,rfl⟩:∃ r,w1 = .rec_ r:=by cases w1<;>first | exact ⟨_,rfl⟩ | cases h6'
   exact qL (oH nd1.pl)
  generalize hlv:Fo.onto k.path (Fo.rowKids [0] 0 (Pm.rowOf w0)++Fo.rowKids [1] 0 (Pm.rowOf w1))=lv;generalize han:(Pm.rowOf w0).names++(Pm.rowOf w1).names=allN;have hanl:allN.length=as0.length+as1.length:=by rw [←han,aG,dF,dF,hal0,hal1]
  have hlvl:lv.length=as0.length+as1.length:=by
   rw [←hlv];show (List.map _ _).length=_
   rw [ae,aG,gb,gb,hal0,hal1]
  have hpart:∀ (i:Nat) (x:V),(as0.map V.ref++as1.map V.ref)[i]? = some x→∃ (b:Addr) (n':List UInt8) (w':Sw.Value) (p' np':Nat) (path':List Nat),x = .ref b∧Nd CP B bs b w' p' np' n'∧Fo.Wat whole path' w' p'∧lv[i]? = some (path',w')∧allN[i]? = some n':=fun i x hx=>by
   rw [←hlv,←han,lj];by_cases c:i<as0.length
   ·rw [dM (by rw [ae];exact c),aD] at hx
    rw [dM (by rw [gb,←hal0];exact c),dM (by rw [dF,←hal0];exact c),hJ,iL]
    obtain ⟨b,hb⟩:∃ b,as0[i]? = some b:=⟨_,aB c⟩
    rw [hb] at hx;obtain ⟨n',w',np',em',nd'⟩:=hmem0 i b hb
    have em'':=em'
    rw [Pm.member_eq] at em''
    rw [em''];refine ⟨b,n',w',_,np',k.path++[0]++[i],(aA hx).symm,nd',wa0.mem em',?_,rfl⟩
    show some (k.path++([0]++[0+i]),w')=_
    rw [dA,bq]
   ·rw [bW (by rw [ae];omega),aD,ae] at hx
    rw [bW (by rw [gb,←hal0];omega),bW (by rw [dF,←hal0];omega),hJ,iL,gb,dF,←hal0]
    cases hb:as1[i - as0.length]? with
    | none=>rw [hb] at hx;cases hx
    | some b =>
     rw [hb] at hx;obtain ⟨n',w',np',em',nd'⟩:=hmem1 _ b hb
     have em'':=em'
     rw [Pm.member_eq] at em''
     rw [em''];refine ⟨b,n',w',_,np',k.path++[1]++[i - as0.length],(aA hx).symm,nd',wa1.mem em',?_,rfl⟩
     show some (k.path++([1]++[0+(i - as0.length)]),w')=_
     rw [dA,bq]
  refine cp ⟨_,rfl,k.f,CO,fx,_,rfl,hf,TF.cO,TF.nSh,(by show 11<1000;decide),?_⟩
  generalize hG1:upd H k.f _=G1;have L1:LS CO ak CP B H G1 bs whole k { fd0 k.m ak rw0 k.nm mu0 k.ins with shape:=3 } [] []:=by rw [←hG1];exact L0.setf pk fx { fd0 k.m ak rw0 k.nm mu0 k.ins with shape:=3 }
  refine ⟨(by show 1≤sizeLine;decide),fun t ht=>?_⟩
  have L1':=L1.same (G':=upd G1 t (.tup [.int 6])) (fun b o e=>(aa (af e ht)).trans e)
  obtain ⟨fx1,hf1⟩:=L1'.at_
  refine ⟨_,rfl,k.f,CO,fx1,_,rfl,hf1,TF.cO,TF.nKi,(by show 11<1000;decide),?_⟩
  generalize hG2:upd (upd G1 t (.tup [.int 6])) k.f _=G2;have L2:LS CO ak CP B H G2 bs whole k { fd0 k.m ak rw0 k.nm mu0 k.ins with shape:=3,kinds:=.ref t } [] []:=by rw [←hG2];exact L1'.setf pk fx1 { fd0 k.m ak rw0 k.nm mu0 k.ins with shape:=3,kinds:=.ref t }
  have s2:=L2.sb pk sB
  refine ⟨_,rfl,fd_ (s2 _ _ hm0) TP.cP TP.nMe rfl ⟨_,rfl,fd_ (s2 _ _ hm1) TP.cP TP.nMe rfl ⟨l0,l1,_,_,rfl,rfl,SqL.of (s2 _ _ hl0),SqL.of (s2 _ _ hl1),(by rw [ae,ae,sizeLine_eq];omega),fun C hC=>?_⟩⟩⟩
  have L3:=L2.same (G':=upd G2 C (.lst (as0.map V.ref++as1.map V.ref))) (fun b o e=>(aa (af e hC)).trans e)
  have hCne:C≠k.f∧C≠k.nm∧C≠k.ins:=by
   obtain ⟨fx2,hf2⟩:=L2.at_
   refine ⟨fun z=>?_,fun z=>?_,fun z=>?_⟩
   ·rw [z,hf2] at hC;cases hC
   ·rw [z,L2.an] at hC;cases hC
   ·rw [z,L2.ai] at hC;cases hC
  refine ⟨C,rfl,⟨_,SqL.of au⟩,ia (xs:=as0.map V.ref++as1.map V.ref) (fun i σ G=>∃ (v4 v5:Option V) (e:List (List Key×V)) (ks:List KR),σ=[some (.ref k.f),some (.ref a0),some (.ref a1),some (.ref a2),v4,v5]∧LS CO ak CP B H G bs whole k { fd0 k.m ak rw0 k.nm mu0 k.ins with shape:=3,kinds:=.ref t } e ks∧ks.length=i∧ks.map KR.kd=lv.take i∧Nk allN i e∧G C=some (.lst (as0.map V.ref++as1.map V.ref))) ⟨none,none,[],[],rfl,L3,rfl,rfl,Nk.zero _,au⟩ ?_ ?_ ?_⟩
  ·intro i σ G _ z22_;refine e4_ z22_ fun v4 v5 e ks=>c6_ fun z23_ _ _ _ _ hGC=>?_
   subst z23_;exact SqL.of hGC
  ·intro i x σ G hx z24_;refine e4_ z24_ fun v4 v5 e ks=>c6_ fun z25_ L hkl hkd nk hGC=>?_
   subst z25_;refine e6_ (hpart i _ hx) fun b n' w' p' np' path'=>c5_ fun z26_ nd' wa' hlvi hani=>?_
   subst z26_;refine e4_ nd'.pt fun nlb lb asb dxb=>c3_ fun hnlb hmb _=>?_
   have hi:i<as0.length+as1.length:=by rw [←hanl];exact (ay.mp hani).1
   refine ⟨_,rfl,fun g gx hg hgx ngx=>iu hg hgx ngx fun nm ins G4 mk=>⟨rfl,?_⟩⟩
   have hk4:=L.kids.snoc L.al sB mk ⟨_,_,nd'⟩ (path:=path') wa'
   have L4:=L.same mk.sm
   obtain ⟨fx4,hf4⟩:=L4.at_
   have s4:=L4.sb pk sB
   refine ⟨_,rfl,_,rfl,fd_ hf4 TF.cO TF.nNa rfl ⟨_,rfl,fd_ (s4 _ _ hmb) TP.cP TP.nNl rfl ⟨nlb,_,rfl,.inl ⟨SqL.of (s4 _ _ hnlb),fun y hy=>?_⟩⟩⟩⟩
   have sy:bC G4 (upd G4 y (.tup (n'.map bv))):=fun b o e=>(aa (af e hy)).trans e
   have L5:=L4.same sy
   have hk5:=hk4.fresh (G':=upd G4 y (.tup (n'.map bv))) fun b o e _=>sy _ _ e
   refine ⟨k.nm,_,rfl,lZ.t (k:=kB n') L5.an (by rw [ux];exact au) (by have:=nk.le;rw [sizeLine_eq];omega),?_⟩
   have L6:=L5.setn pk (fG e (kB n') (.ref g))
   have hk6:ic CO ak CP B H (upd (upd G4 y (.tup (n'.map bv))) k.nm (.dT (fG e (kB n') (.ref g)))) bs whole (ks++[⟨g,b,nm,ins,path',w',p'⟩]):=LS.up pk hk5 (by simp)
   obtain ⟨fx6,hf6⟩:=L6.at_
   refine ⟨_,rfl,fd_ hf6 TF.cO TF.nIn rfl ⟨.inl ⟨rfl,_,SqL.of L6.ai⟩,_,rfl,k.ins,_,_,rfl,rfl,L6.ai,(by rw [ae,hkl,sizeLine_eq];omega),?_⟩⟩
   have L7:=L6.seti pk hk6
   rw [aO] at L7;refine ⟨_,_,fG e (kB n') (.ref g),ks++[KR.mk g b nm ins path' w' p'],rfl,L7,by rw [aG,hkl];rfl,?_,nk.step hani _,?_⟩
   ·rw [aO,hkd,cw,hlvi];rfl
   ·rw [aa hCne.2.2,aa hCne.2.1,sy _ _ (mk.sm _ _ hGC)]
  intro σ G z27_;refine e4_ z27_ fun v4 v5 e ks=>c6_ fun z28_ L hkl hkd nk hGC=>?_
  subst z28_;rw [aG,ae,ae] at hkl hkd nk;rw [bJ (by omega)] at hkd
  have nke:=nk.eq
  rw [bJ (by omega)] at nke
  have nkl:=nk.le
  obtain ⟨fx5,hf5⟩:=L.at_
  have s5:=L.sb pk sB
  refine ⟨_,rfl,fd_ hf5 TF.cO TF.nNa rfl ⟨k.nm,_,rfl,L.an,_,rfl,fd_ hf5 TF.cO TF.nIn rfl ⟨k.ins,_,rfl,.inl (SqL.of L.ai),_,_,rfl,rfl,_,rfl,?_⟩⟩⟩
  rw [ae,hkl];by_cases hap:Sw.apart (Pm.rowOf w0).names (Pm.rowOf w1).names=true
  case neg =>
   have:e.length≠as0.length+as1.length:=fun z=>by
    have:=nke.mp z
    rw [←han,pD nd_0 nd_1] at this;exact hap this
   rw [aq (by omega)]
   exact cq ⟨_,rfl,fd_ hf5 TF.cO TF.nPa rfl (fd_ (s5 _ _ hm) TP.cP TP.nPl rfl ⟨rfl,bad fun z=>hap z.2.2⟩)⟩
  have hel:e.length=as0.length+as1.length:=nke.mpr (by rw [←han,pD nd_0 nd_1];exact hap)
  rw [ax (by omega)]
  rw [ao ⟨h6,h6',hap⟩] at q;have q:∀ H':Hp,Aft CO ak CP B H H' bs whole names fs k 3 ((Fo.rowKids [0] 0 (Pm.rowOf w0)++Fo.rowKids [1] 0 (Pm.rowOf w1))++(if Fo.isNo w2=true then [] else [([2],w2)]))→Q .non H':=q
  refine cp ⟨_,rfl,fd_ (s5 _ _ hm1) TP.cP TP.nMe rfl ⟨l1,rfl,⟨_,SqL.of (s5 _ _ hl1)⟩,fun D hD=>?_⟩⟩
  refine gM (xs:=as1.map V.ref) (fun i G'=>bC G G'∧∃ ys:List V,G' D=some (.lst ys)∧ys.length=i) ?_ ?_ ?_ ?_
  ·exact ⟨fun b o e=>(aa (af e hD)).trans e,[],au,rfl⟩
  ·rintro i G' _ ⟨kk,_⟩
   exact SqL.of (kk _ _ (s5 _ _ hl1))
  ·rintro i x G' hx ⟨kk,ys,hys,hyl⟩
   rw [aD] at hx;cases ea:as1[i]? with
   | none=>rw [ea] at hx;cases hx
   | some b =>
    rw [ea] at hx;have hx:V.ref b=x:=aA hx
    subst hx;have hi:i<as1.length:=(ay.mp ea).1
    obtain ⟨n',w',np',em',nd'⟩:=hmem1 i b ea
    obtain ⟨nlb,lb,asb,dxb,hnlb,hmb,_⟩:=nd'.pt
    exact ⟨rfl,gU ⟨_,rfl,fd_ (kk _ _ (s5 _ _ hmb)) TP.cP TP.nNl rfl ⟨ys,hys,(by rw [hyl,sizeLine_eq];omega),fun c o e=>(aa (af e hD)).trans (kk _ _ e),_,au,by rw [aG,hyl];rfl⟩⟩⟩
  rintro G' ⟨kk,ys,hys,hyl⟩
  have L8:=L.same kk
  obtain ⟨fx8,hf8⟩:=L8.at_
  refine ⟨_,rfl,k.f,CO,fx8,_,rfl,hf8,TF.cO,TF.nMu,(by show 11<1000;decide),?_⟩
  generalize hG9:upd G' k.f _=G9;have L9:LS CO ak CP B H G9 bs whole k { fd0 k.m ak rw0 k.nm mu0 k.ins with shape:=3,kinds:=.ref t,must:=.ref D } e ks:=by rw [←hG9];exact L8.setf pk fx8 { fd0 k.m ak rw0 k.nm mu0 k.ins with shape:=3,kinds:=.ref t,must:=.ref D }
  have s9:=L9.sb pk sB
  refine ⟨_,rfl,fd_ (s9 _ _ hm2) TP.cP TP.nKi rfl ⟨rfl,_,rfl,?_⟩⟩
  by_cases h0:w2.kind=0
  ·obtain rfl:w2 = .no:=by cases w2<;>first | rfl | cases h0
   refine cp (q _ (L9.aft pk names fs rfl rfl rfl ?_ (by decide)))
   show _=Fo.onto k.path ((Fo.rowKids [0] 0 (Pm.rowOf w0)++Fo.rowKids [1] 0 (Pm.rowOf w1))++[])
   rw [dw,hlv];exact hkd
  ·rw [show decide (V.int ((Pm.pdOf w2 (Pm.mplace k.v k.p 2) np2 n2.length).kind:Int)=V.int 0)=false by rw [gk,fT,ax (by omega)]]
   have hno:Fo.isNo w2=false:=by cases w2<;>first | rfl | exact aP rfl h0
   rw [hno] at q;have q:∀ H':Hp,Aft CO ak CP B H H' bs whole names fs k 3 ((Fo.rowKids [0] 0 (Pm.rowOf w0)++Fo.rowKids [1] 0 (Pm.rowOf w1))++[([2],w2)])→Q .non H':=q
   refine cq ⟨_,rfl,fun g gx hg hgx ngx=>iu hg hgx ngx fun nm ins G4 mk=>⟨rfl,?_⟩⟩
   have hk4:=L9.kids.snoc L9.al sB mk ⟨_,_,nd2⟩ (path:=k.path++[2]) wa2
   have L4:=L9.same mk.sm
   obtain ⟨fx4,hf4⟩:=L4.at_
   refine ⟨_,rfl,k.f,CO,fx4,_,rfl,hf4,TF.cO,TF.nRe,(by show 11<1000;decide),?_⟩
   generalize hG5:upd G4 k.f _=G5;have L5:LS CO ak CP B H G5 bs whole k { fd0 k.m ak rw0 k.nm mu0 k.ins with shape:=3,kinds:=.ref t,must:=.ref D,rest:=.ref g } e ks:=by rw [←hG5];exact L4.setf pk fx4 { fd0 k.m ak rw0 k.nm mu0 k.ins with shape:=3,kinds:=.ref t,must:=.ref D,rest:=.ref g }
   have hk5:ic CO ak CP B H G5 bs whole (ks++[⟨g,a2,nm,ins,k.path++[2],w2,Pm.mplace k.v k.p 2⟩]):=by rw [←hG5];exact LS.up pk hk4 (by simp)
   obtain ⟨fx6,hf6⟩:=L5.at_
   refine ⟨_,rfl,fd_ hf6 TF.cO TF.nIn rfl ⟨.inl ⟨rfl,_,SqL.of L5.ai⟩,_,rfl,fd_ hf6 TF.cO TF.nRe rfl ⟨k.ins,_,_,rfl,rfl,L5.ai,(by rw [ae,hkl,sizeLine_eq];omega),?_⟩⟩⟩
   have L7:=L5.seti pk hk5
   have hq:=L7.aft pk names fs (sh:=3) (l:=(Fo.rowKids [0] 0 (Pm.rowOf w0)++Fo.rowKids [1] 0 (Pm.rowOf w1))++[([2],w2)]) rfl rfl rfl (by
    rw [aO,hkd,Fo.onto_app,hlv];rfl) (by decide)
   rw [aO] at hq;exact q _ hq
end
theorem eO {v:Sw.Value} {ws:List (List UInt8)} (h:Fo.hasN v ws=true):v.kind=6∧(Pm.rowOf v).length=ws.length:=by
 unfold Fo.hasN at h;rw [bb,bQ] at h;exact ⟨h.1,by rw [←dF,eq_of_beq h.2]⟩
theorem t6 (names:List Sw.Bytes) (t:List Nat):Fo.own names (.text t)=if (Sw.wordForm t).isSome=true then some (0,[]) else none:=rfl
theorem t7 (names:List Sw.Bytes) {v:Sw.Value} (h:v.kind≠4):Fo.own names v=if Fo.hasN v [Fo.W "is"]=true then some (1,[])
  else if Fo.hasN v [Fo.W "number"]=true then Fo.ownB false (Fo.mem v 0)
  else if Fo.hasN v [Fo.W "bytes"]=true then Fo.ownB true (Fo.mem v 0)
  else if Fo.hasN v [Fo.W "text"]=true then Fo.ownB true (Fo.mem v 0)
  else if Fo.hasN v [Fo.W "list",Fo.W "size"]=true then (if (Sw.boundsOf true (Fo.mem v 1)).isSome=true then some (2,[([0],Fo.mem v 0)]) else none)
  else if Fo.hasN v [Fo.W "maybe",Fo.W "must",Fo.W "rest"]=true then Fo.ownN v
  else if Fo.hasN v [Fo.W "one"]=true then Fo.ownO v
  else if Fo.hasN v [Fo.W "use"]=true then Fo.ownU names v
  else none:=by
 cases v<;>first | rfl | exact aP rfl h
theorem w_is:V.str "is" = V.str (sB (Fo.W "is")):=congrArg V.str (by rw [aX];rfl)
theorem sW:V.str "number" = V.str (sB (Fo.W "number")):=congrArg V.str (by rw [aX];rfl)
theorem vf:V.str "bytes" = V.str (sB (Fo.W "bytes")):=congrArg V.str (by rw [aX];rfl)
theorem wK:V.str "text" = V.str (sB (Fo.W "text")):=congrArg V.str (by rw [aX];rfl)
theorem wO:V.str "list" = V.str (sB (Fo.W "list")):=congrArg V.str (by rw [aX];rfl)
theorem wL:V.str "size" = V.str (sB (Fo.W "size")):=congrArg V.str (by rw [aX];rfl)
theorem vd:V.str "maybe" = V.str (sB (Fo.W "maybe")):=congrArg V.str (by rw [aX];rfl)
theorem wN:V.str "must" = V.str (sB (Fo.W "must")):=congrArg V.str (by rw [aX];rfl)
theorem wM:V.str "rest" = V.str (sB (Fo.W "rest")):=congrArg V.str (by rw [aX];rfl)
theorem w_one:V.str "one" = V.str (sB (Fo.W "one")):=congrArg V.str (by rw [aX];rfl)
theorem w_use:V.str "use" = V.str (sB (Fo.W "use")):=congrArg V.str (by rw [aX];rfl)
theorem ve:V.str "forms" = V.str (sB (Fo.W "forms")):=congrArg V.str (by rw [aX];rfl)
theorem vc:V.str "start" = V.str (sB (Fo.W "start")):=congrArg V.str (by rw [aX];rfl)
theorem POk.same {CO ak CP:Addr} {B G G':Hp} {bs:List UInt8} {whole:Sw.Value} {k:KR} (h:POk CO ak CP B G bs whole k) (s:bC G G'):POk CO ak CP B G' bs whole k:=h.keep (fun o e=>s _ _ e) (fun o e=>s _ _ e) (fun o e=>s _ _ e)
theorem Aft.before {CO ak CP:Addr} {B H G H':Hp} {bs:List UInt8} {whole:Sw.Value} {names:List Sw.Bytes} {fs:List Addr} {k:KR} {sh:Nat} {l:List (List Nat×Sw.Value)} (h:Aft CO ak CP B G H' bs whole names fs k sh l) (s:bC H G):Aft CO ak CP B H H' bs whole names fs k sh l:=by
 obtain ⟨kp,d,ins',ks,h1,h2,h3,h4,h5,h6,h7,h8,h9,h10⟩:=h
 refine ⟨fun b o e n=>kp b o (s _ _ e) n,d,ins',ks,h1,h2,h3,h4,h5,h6.imp id s.free,⟨fun x hx=>?_,h7.dj⟩,h8,h9,h10⟩
 obtain ⟨p,a,b,c⟩:=h7.ok x hx
 exact ⟨p,s.free a,s.free b,s.free c⟩
theorem iD.before {E:XK} {Q:VK} {CO ak CP CB:Addr} {B H G:Hp} {bs:List UInt8} {whole:Sw.Value} {names:List Sw.Bytes} {fs:List Addr} {k:KR} {o:Option (Nat×List (List Nat×Sw.Value))} (q:iD E Q CO ak CP CB B H bs whole names fs k o) (s:bC H G):iD E Q CO ak CP CB B G bs whole names fs k o:=by
 cases o with
 | none=>exact q
 | some x=>exact fun H' a=>q H' (a.before s)
theorem iD.mono {E:XK} {Q Q':VK} {CO ak CP CB:Addr} {B H:Hp} {bs:List UInt8} {whole:Sw.Value} {names:List Sw.Bytes} {fs:List Addr} {k:KR} {o:Option (Nat×List (List Nat×Sw.Value))} (q:iD E Q CO ak CP CB B H bs whole names fs k o) (s:∀ H',Q .non H'→Q' .non H'):iD E Q' CO ak CP CB B H bs whole names fs k o:=by
 cases o with
 | none=>exact q
 | some x=>exact fun H' a=>s _ (q H' a)
theorem gp {K:Fg_} {CP:Addr} {B H G:Hp} {bs:List UInt8} {m:Addr} {v:Sw.Value} {p np:Nat} {n:List UInt8} (sB:bC B H) (sG:bC H G) (nd:Nd CP B bs m v p np n) (hz:bs.length≤65536) {ws:List (List UInt8)} {xs:List V} {E:XK} (hx:xs=ws.map fun x=>V.str (L2.J.sB x)) (hl:∀ x∈ws,x.length<1000) (hn:ws.length<1000)
  {R:Bool→Hp→Prop} (q:∀ H',bC H H'→R (Fo.hasN v ws) H'):∀ t,G t=none→tJ K CP [.ref m,.ref t] (upd G t (.tup xs)) (fun x H'=>∃ c,yT K x H' c∧R c H') E:=by
 intro t ht;have s1:bC G (upd G t (.tup xs)):=fun b o e=>(aa (af e ht)).trans e
 have s2:=sG.trans s1
 have:=g5 nd
 exact ⟨m,t,bs,v,p,np,n,ws,rfl,nd.same (sB.trans s2),by omega,by rw [hx];exact au,hl,hn,fun H' s'=>⟨_,rfl,q H' (s2.trans s')⟩⟩
theorem j4 {CO ak CP:Addr} {B H H':Hp} {bs:List UInt8} {whole:Sw.Value} {k:KR} (pk:POk CO ak CP B H bs whole k) (names:List Sw.Bytes) (fs:List Addr) {d':FD} {sh:Nat} (h1:iy CO H' k.f d') (h2:d'.part=k.m) (h3:d'.shape=sh) (h4:d'.inside = .ref k.ins) (kp:Kp H H' k.f) (h5:sh≠5):Aft CO ak CP B H H' bs whole names fs k sh []:=by
 obtain ⟨n1,n2,n3⟩:=pk.nf
 exact ⟨fun b o e n=>kp b o e (fun z=>n (by rw [z];simp)),d',k.ins,[],h1,h2,h3,h4,kp _ _ pk.ai n2,.inl rfl,.nil,fun x hx=>aP hx bG,rfl,fun z=>aP z h5⟩
theorem lO {E:XK} {Q Q':VK} {CO ak CP CB:Addr} {B H G:Hp} {bs:List UInt8} {whole:Sw.Value} {names:List Sw.Bytes} {fs:List Addr} {k:KR} (pk:POk CO ak CP B H bs whole k) (sG:bC H G) {rw mu:Addr} {z:Bool} {u:Sw.Value} (q:iD E Q CO ak CP CB B H bs whole names fs k (Fo.ownB z u)) (s:∀ H',Q .non H'→Q' .non H') :
  if (Sw.boundsOf z u).isSome=true then ∀ (H':Hp) (d':FD),iy CO H' k.f d'→rF (fd0 k.m ak rw k.nm mu k.ins) d'→Kp G H' k.f→Q' .non H' else iY E CB k.p:=by
 unfold Fo.ownB at q;split
 ·rename_i h
  rw [ao h] at q;have q:∀ H':Hp,Aft CO ak CP B H H' bs whole names fs k 0 []→Q .non H':=q
  exact fun H' d' hf al kp=>s _ (q H' (j4 pk names fs hf al.1 al.2.1 al.2.2.2.2 (fun b o e n=>kp _ _ (sG _ _ e) n) (by decide)))
 ·rename_i h
  rw [ah h] at q;exact q
def xY (K:Fg_) (CO ak CP CB:Addr):Sp:=fun vs H Q E=>∃ (B:Hp) (a bf:Addr) (bs:List UInt8) (whole:Sw.Value) (names:List Sw.Bytes) (fs:List Addr) (k:KR),vs=[.ref a,.ref k.f,.ref bf]∧bC B H∧SqL K B a (bs.map bv)∧bs.length≤65536∧POk CO ak CP B H bs whole k∧H bf=some (.dT (bkD names fs))∧names.length=fs.length∧iD E Q CO ak CP CB B H bs whole names fs k (Fo.own names k.v)
theorem scF0:bw ["row","form","book_forms","part"] ["row","form","book_forms"] (a9 sF0):=fs_
theorem ok_F0 {f fHN fAB fXW fF1 fF3 fF4 fF5:Addr} {fd fdH fdA fdW fd1 fd3 fd4 fd5:FuncData} (F:Fun K "read_form" "read_form" sF0 f fd) (TP:TxP K mg CP) (TF:TxF K mg CO ak) (TW:TxW K mg CB)
  (uc:iF K U CB fUB) (GB:bK P w K mg base CX0 2 fUB fdB ["self","place"] (jL CB 1 aWB)) (bB:bT K fdB ["self","place"] [])
  (M:Mk K CO fFO) (GO:bK P w K mg base CX0 1 fFO fdO ["self","part"] (pW CO ak)) (bO:bT K fdO ["self","part"] [])
  (GH:Co P w K mg base CX0 2 fHN fdH ["part","names"] (tJ K CP) "has_names")
  (GA:Co P w K mg base CX0 1 fAB fdA ["row","part"] (ya K CP) "all_bytes")
  (GW:Co P w K mg base (CXF P w) 4 fXW fdW ["row","form"] (xu K CO CP CB) "read_word")
  (G1:Co P w K mg base (CXF P w) 5 fF1 fd1 ["row","form","kind","part"] (xX K CO CP CB) "read_bounds")
  (G3:Co P w K mg base (CXF P w) 4 fF3 fd3 ["form"] (xV K CO ak CP CB) "read_names")
  (G4:Co P w K mg base (CXF P w) 4 fF4 fd4 ["form"] (xU K CO ak CP CB) "read_one")
  (G5:Co P w K mg base (CXF P w) 4 fF5 fd5 ["row","form","book_forms"] (xT K CO ak CP CB) "read_use") :
  bK P w K mg base (CXF P w) 6 f fd ["row","form","book_forms"] (xY K CO ak CP CB):=by
 refine okX F scF0 (fun vs H Q E h=>?_) (fun cdv A outer s H vs Q E hr h=>?_)
 ·obtain ⟨B,a,bf,bs,whole,names,fs,k,rfl,_⟩:=h
  rfl
 ·obtain ⟨B,a,bf,bs,whole,names,fs,k,rfl,sB,hs,hz,pk,hbf,hnf,q⟩:=h
  have hr1:cB 1 _:=hr.mono (by decide)
  have hr2:cB 2 _:=hr.mono (by decide)
  have hr3:cB 3 _:=hr.mono (by decide)
  have hr4:cB 4 _:=hr.mono (by decide)
  refine ⟨_,az (br (i:=3) scF0.nd rfl (.inl rfl) (aU (pv 1) rfl))
   (aH (bY (bo d8 (aU (pv 3) rfl) (pgi TW.k4 rfl) (bA _)) (aH (b6 (cv GW hr4 rfl dC (aj (pv 0) (aj (pv 1) aL)))))
   (aH (bY (cN (cv GH hr2 rfl cM (aj (pv 3) (aj (fq (aj fX aL)) aL))) (fun _=>rfl))
    (az (bN (pv 1) (pgi TF.s1 rfl) rfl) (aH (bN (pv 1) (cv GA hr1 rfl cM (aj (pv 0) (aj (cK bM (aU (pv 3) rfl) bh (fun _ _=>rfl)) aL))) rfl)))
   (aH (bY (cN (cv GH hr2 rfl cM (aj (pv 3) (aj (fq (aj fX aL)) aL))) (fun _=>rfl))
    (aH (b6 (cv G1 hr rfl dC (aj (pv 0) (aj (pv 1) (aj (pgi TW.k2 rfl) (aj (cK bM (aU (pv 3) rfl) bh (fun _ _=>rfl)) aL)))))))
   (aH (bY (cN (cv GH hr2 rfl cM (aj (pv 3) (aj (fq (aj fX aL)) aL))) (fun _=>rfl))
    (aH (b6 (cv G1 hr rfl dC (aj (pv 0) (aj (pv 1) (aj (pgi TW.k3 rfl) (aj (cK bM (aU (pv 3) rfl) bh (fun _ _=>rfl)) aL)))))))
   (aH (bY (cN (cv GH hr2 rfl cM (aj (pv 3) (aj (fq (aj fX aL)) aL))) (fun _=>rfl))
    (aH (b6 (cv G1 hr rfl dC (aj (pv 0) (aj (pv 1) (aj (pgi TW.k4 rfl) (aj (cK bM (aU (pv 3) rfl) bh (fun _ _=>rfl)) aL)))))))
   (aH (bY (cN (cv GH hr2 rfl cM (aj (pv 3) (aj (fq (aj fX (aj fX aL))) aL))) (fun _=>rfl))
    (az (b6 (cv G1 hr rfl dC (aj (pv 0) (aj (pv 1) (aj (pgi TW.k5 rfl) (aj (cK bM (aU (pv 3) rfl) bh (fun _ _=>rfl)) aL))))))
    (az (bN (pv 1) (pgi TF.s2 rfl) rfl)
    (aH (bN (pv 1) (dX (aj (gn (E:=E) M GO hr2 rfl TF.mO bO .nil cM (aj (cK bM (aU (pv 3) rfl) bh (fun _ _=>rfl)) aL)) aL)) rfl))))
   (aH (bY (cN (cv GH hr2 rfl cM (aj (pv 3) (aj (fq (aj fX (aj fX (aj fX aL)))) aL))) (fun _=>rfl))
    (aH (b6 (cv G3 hr4 rfl dC (aj (pv 1) aL))))
   (aH (bY (cN (cv GH hr2 rfl cM (aj (pv 3) (aj (fq (aj fX aL)) aL))) (fun _=>rfl))
    (aH (b6 (cv G4 hr4 rfl dC (aj (pv 1) aL))))
   (aH (bY (cN (cv GH hr2 rfl cM (aj (pv 3) (aj (fq (aj fX aL)) aL))) (fun _=>rfl))
    (aH (b6 (cv G5 hr4 rfl dC (aj (pv 0) (aj (pv 1) (aj (pv 2) aL))))))
    (aH (dW uc GB bB rfl hr3 ck rfl rfl TW.mB (aj (aU (pv 3) rfl) aL) (by decide))))))))))))))))))))),?_⟩
  try dsimp only [cY];obtain ⟨rw0,mu0,fx,hf⟩:=pk.at_
  obtain ⟨np,n,nd⟩:=pk.nd
  refine e4_ nd.pt fun nl l as dx=>c5_ fun hnl hm hl hal hmem=>?_
  have vr:∀ (i:Nat) (a:Addr),as[i]? = some a→(as.map V.ref)[i]? = some (V.ref a):=fun i a e=>by rw [aD,e];rfl
  refine ⟨_,rfl,fd_ hf TF.cO TF.nPa rfl ?_⟩
  refine ⟨_,rfl,fd_ (sB _ _ hm) TP.cP TP.nKi rfl ⟨rfl,_,rfl,?_⟩⟩
  by_cases h4:k.v.kind=4
  ·rw [show decide (V.int ((Pm.pdOf k.v k.p np n.length).kind:Int)=V.int 4)=true by rw [gk,h4];exact aq rfl]
   obtain ⟨t,ht⟩:∃ t,k.v = .text t:=by
    generalize k.v=v at h4;cases v<;>first | exact ⟨_,rfl⟩ | cases h4
   rw [ht,t6] at q;have nd':=nd
   rw [ht] at nd'
   refine cq ⟨_,rfl,_,rfl,a,k.f,k.m,bs,_,t,k.p,np,n,rfl,sB.seq hs,⟨fx,hf⟩,rfl,nd'.same sB,?_⟩
   split
   ·rename_i hw
    rw [ao hw] at q;have q:∀ H':Hp,Aft CO ak CP B H H' bs whole names fs k 0 []→Q .non H':=q
    exact fun H' d' hf' al kp=>q H' (j4 pk names fs hf' al.1 al.2.1 al.2.2.2.2 kp (by decide))
   ·rename_i hw
    rw [ah hw] at q;exact q
  rw [show decide (V.int ((Pm.pdOf k.v k.p np n.length).kind:Int)=V.int 4)=false by rw [gk,fT,ax (by omega)]]
  rw [t7 names h4] at q;have mem0:∀ j,j<(Pm.rowOf k.v).length→∃ (a0:Addr) (n0:List UInt8) (w0:Sw.Value) (np0:Nat),as[j]? = some a0∧k.v.member j=some (n0,w0)∧Nd CP B bs a0 w0 (Pm.mplace k.v k.p j) np0 n0:=fun j hj=>by
   obtain ⟨a0,e0⟩:∃ a0,as[j]? = some a0:=⟨as[j]'(by omega),aB _⟩
   obtain ⟨n0,w0,np0,em0,nd0⟩:=hmem j a0 e0
   exact ⟨a0,n0,w0,np0,e0,em0,nd0⟩
  have sm:∀ ws:List (List UInt8),(∀ x∈ws,x.length<1000)→∀ x∈ws,x.length<1000:=fun _ h=>h
  refine cp ⟨_,rfl,(by show 1≤sizeLine;decide),gp (E:=E0) (ws:=[Fo.W "is"]) sB (fun _ _ e=>e) nd hz (congrArg (fun z=>[z]) w_is) (by decide) (by decide) fun G sG=>?_⟩
  cases hb:Fo.hasN k.v [Fo.W "is"] with
  | true =>
   rw [ao hb] at q;have q:∀ H':Hp,Aft CO ak CP B H H' bs whole names fs k 1 []→Q .non H':=q
   obtain ⟨a0,n0,w0,np0,e0,em0,nd0⟩:=mem0 0 (by rw [(eO hb).2];decide)
   refine e4_ nd0.pt fun nl0 l0 as0 dx0=>c5_ fun hnl0 hm0 hl0 hal0 hmem0=>?_
   refine cq ⟨_,rfl,k.f,CO,fx,_,rfl,sG _ _ hf,TF.cO,TF.nSh,(by show 11<1000;decide),?_⟩
   generalize hG1:upd G k.f _=G1;have kG1:Kp H G1 k.f:=fun b o e n=>by rw [←hG1,aa n];exact sG _ _ e
   have s1:bC B G1:=iq sB pk.bf kG1
   have hf1:=(congrFun hG1 k.f).symm.trans au
   refine ⟨_,rfl,_,rfl,fd_ (s1 _ _ hm) TP.cP TP.nMe rfl ⟨l,_,_,V.ref a0,rfl,rfl,SqL.of (s1 _ _ hl),fK (j:=0) rfl (vr 0 a0 e0),a,a0,nl0,l0,_,bs,rfl,s1.seq hs,⟨dx0,s1 _ _ hm0⟩,by show Pm.mplace _ _ _≤Pm.mplace _ _ _+_;omega,nd0.at_.le,fun x hx=>?_⟩⟩
   have nxf:x≠k.f:=fun z=>by rw [z,hf1] at hx;cases hx
   refine ⟨_,rfl,k.f,CO,fx,_,rfl,(aa (aN nxf)).trans hf1,TF.cO,TF.nRo,(by show 11<1000;decide),?_⟩
   exact q _ (j4 (d':={ fd0 k.m ak rw0 k.nm mu0 k.ins with shape:=1,row:=.ref x }) pk names fs ⟨fx,au⟩ rfl rfl rfl (fun b o e n=>by rw [aa n,aa (fun z=>by rw [←z,kG1 _ _ e n] at hx;cases hx)];exact kG1 _ _ e n) (by decide))
  | false =>
  rw [ah (by rw [hb];decide)] at q
  refine cp ⟨_,rfl,(by show 1≤sizeLine;decide),gp (E:=E0) (ws:=[Fo.W "number"]) sB sG nd hz (congrArg (fun z=>[z]) sW) (by decide) (by decide) fun G sG=>?_⟩
  cases hb:Fo.hasN k.v [Fo.W "number"] with
  | true =>
   rw [ao hb] at q;obtain ⟨a0,n0,w0,np0,e0,em0,nd0⟩:=mem0 0 (by rw [(eO hb).2];decide)
   rw [ft em0] at q;have s1:=sB.trans sG
   refine cq ⟨_,rfl,_,rfl,_,rfl,fd_ (s1 _ _ hm) TP.cP TP.nMe rfl ⟨l,_,_,V.ref a0,rfl,rfl,SqL.of (s1 _ _ hl),fK (j:=0) rfl (vr 0 a0 e0),B,a,k.f,a0,bs,_,k.v,w0,2,k.p,np,_,np0,n,n0,rfl,s1,pk.bf,hs,⟨fx,sG _ _ hf⟩,nd,nd0,?_⟩⟩
   exact lO pk sG q (fun _ h=>h)
  | false =>
  rw [ah (by rw [hb];decide)] at q
  refine cp ⟨_,rfl,(by show 1≤sizeLine;decide),gp (E:=E0) (ws:=[Fo.W "bytes"]) sB sG nd hz (congrArg (fun z=>[z]) vf) (by decide) (by decide) fun G sG=>?_⟩
  cases hb:Fo.hasN k.v [Fo.W "bytes"] with
  | true =>
   rw [ao hb] at q;obtain ⟨a0,n0,w0,np0,e0,em0,nd0⟩:=mem0 0 (by rw [(eO hb).2];decide)
   rw [ft em0] at q;have s1:=sB.trans sG
   refine cq ⟨_,rfl,_,rfl,_,rfl,fd_ (s1 _ _ hm) TP.cP TP.nMe rfl ⟨l,_,_,V.ref a0,rfl,rfl,SqL.of (s1 _ _ hl),fK (j:=0) rfl (vr 0 a0 e0),B,a,k.f,a0,bs,_,k.v,w0,3,k.p,np,_,np0,n,n0,rfl,s1,pk.bf,hs,⟨fx,sG _ _ hf⟩,nd,nd0,?_⟩⟩
   exact lO pk sG q (fun _ h=>h)
  | false =>
  rw [ah (by rw [hb];decide)] at q
  refine cp ⟨_,rfl,(by show 1≤sizeLine;decide),gp (E:=E0) (ws:=[Fo.W "text"]) sB sG nd hz (congrArg (fun z=>[z]) wK) (by decide) (by decide) fun G sG=>?_⟩
  cases hb:Fo.hasN k.v [Fo.W "text"] with
  | true =>
   rw [ao hb] at q;obtain ⟨a0,n0,w0,np0,e0,em0,nd0⟩:=mem0 0 (by rw [(eO hb).2];decide)
   rw [ft em0] at q;have s1:=sB.trans sG
   refine cq ⟨_,rfl,_,rfl,_,rfl,fd_ (s1 _ _ hm) TP.cP TP.nMe rfl ⟨l,_,_,V.ref a0,rfl,rfl,SqL.of (s1 _ _ hl),fK (j:=0) rfl (vr 0 a0 e0),B,a,k.f,a0,bs,_,k.v,w0,4,k.p,np,_,np0,n,n0,rfl,s1,pk.bf,hs,⟨fx,sG _ _ hf⟩,nd,nd0,?_⟩⟩
   exact lO pk sG q (fun _ h=>h)
  | false =>
  rw [ah (by rw [hb];decide)] at q
  refine cp ⟨_,rfl,(by show 2≤sizeLine;decide),gp (E:=E0) (ws:=[Fo.W "list",Fo.W "size"]) sB sG nd hz (by rw [wO,wL];rfl) (by decide) (by decide) fun G sG=>?_⟩
  cases hb:Fo.hasN k.v [Fo.W "list",Fo.W "size"] with
  | true =>
   rw [ao hb] at q;obtain ⟨a0,n0,w0,np0,e0,em0,nd0⟩:=mem0 0 (by rw [(eO hb).2];decide)
   obtain ⟨a1,n1,w1,np1,e1,em1,nd1⟩:=mem0 1 (by rw [(eO hb).2];decide)
   rw [ft em0,ft em1] at q;have s1:=sB.trans sG
   refine cq ⟨_,rfl,_,rfl,_,rfl,fd_ (s1 _ _ hm) TP.cP TP.nMe rfl ⟨l,_,_,V.ref a1,rfl,rfl,SqL.of (s1 _ _ hl),fK (j:=1) rfl (vr 1 a1 e1),B,a,k.f,a1,bs,_,k.v,w1,5,k.p,np,_,np1,n,n1,rfl,s1,pk.bf,hs,⟨fx,sG _ _ hf⟩,nd,nd1,?_⟩⟩
   show (if (Sw.boundsOf true w1).isSome=true then _ else _)
   split
   ·rename_i hw
    rw [ao hw] at q;have q:∀ H':Hp,Aft CO ak CP B H H' bs whole names fs k 2 [([0],w0)]→Q .non H':=q
    intro H1 d1 hf1 al kp;obtain ⟨n1',n2',n3'⟩:=pk.nf
    have L1:LS CO ak CP B H H1 bs whole k d1 [] []:=⟨fun b o e nb=>kp _ _ (sG _ _ e) (fun z=>nb (by rw [z];simp)),hf1,kp _ _ (sG _ _ pk.an) n1',kp _ _ (sG _ _ pk.ai) n2',.nil⟩
    obtain ⟨fx1,hf1⟩:=hf1
    refine ⟨_,rfl,k.f,CO,fx1,_,rfl,hf1,TF.cO,TF.nSh,(by show 11<1000;decide),?_⟩
    generalize hG2:upd H1 k.f _=G2;have L2:LS CO ak CP B H G2 bs whole k { d1 with shape:=2 } [] []:=by rw [←hG2];exact L1.setf pk fx1 { d1 with shape:=2 }
    have s2:=L2.sb pk sB
    refine ⟨_,rfl,fd_ (s2 _ _ hm) TP.cP TP.nMe rfl ⟨l,_,_,V.ref a0,rfl,rfl,SqL.of (s2 _ _ hl),fK (j:=0) rfl (vr 0 a0 e0),fun g gx hg hgx ngx=>iu hg hgx ngx fun nm ins G3 mk=>⟨rfl,(by show 1≤sizeLine;decide),fun D hD=>?_⟩⟩⟩
    have hk3:=L2.kids.snoc L2.al sB mk ⟨_,_,nd0⟩ (path:=k.path++[0]) (pk.wa.mem em0)
    have sD:bC G3 (upd G3 D (.lst [.ref g])):=fun b o e=>(aa (af e hD)).trans e
    have L3:=(L2.same mk.sm).same sD
    obtain ⟨fx3,hf3⟩:=L3.at_
    have nDf:D≠k.f:=fun z=>by
     obtain ⟨fx4,hf4⟩:=(L2.same mk.sm).at_
     rw [z,hf4] at hD;cases hD
    refine ⟨_,rfl,k.f,CO,fx3,_,rfl,hf3,TF.cO,TF.nIn,(by show 11<1000;decide),?_⟩
    have L4:=L3.setf pk fx3 { d1 with shape:=2,inside:=.ref D }
    have hk4:ic CO ak CP B H (upd (upd G3 D (.lst [.ref g])) k.f (.ins CO fx3 (ff { d1 with shape:=2,inside:=.ref D }))) bs whole [KR.mk g a0 nm ins (k.path++[0]) w0 (Pm.mplace k.v k.p 0)]:=LS.up pk (hk3.fresh fun b o e _=>sD _ _ e) (by simp)
    refine q _ ⟨L4.kp,{ d1 with shape:=2,inside:=.ref D },D,[KR.mk g a0 nm ins (k.path++[0]) w0 (Pm.mplace k.v k.p 0)],L4.at_,al.1,rfl,rfl,(aa nDf).trans au,.inr ?_,hk4,fun x hx z=>?_,rfl,fun z=>aP z (by decide)⟩
    ·exact L2.al _ (mk.sm.free hD)
    ·rw [aJ] at hx;subst hx;have z:ins=D:=z
     rw [←z,mk.ai] at hD;cases hD
   ·rename_i hw
    rw [ah hw] at q;exact q
  | false =>
  rw [ah (by rw [hb];decide)] at q
  refine cp ⟨_,rfl,(by show 3≤sizeLine;decide),gp (E:=E0) (ws:=[Fo.W "maybe",Fo.W "must",Fo.W "rest"]) sB sG nd hz (by rw [vd,wN,wM];rfl) (by decide) (by decide) fun G sG=>?_⟩
  cases hb:Fo.hasN k.v [Fo.W "maybe",Fo.W "must",Fo.W "rest"] with
  | true =>
   rw [ao hb] at q;exact cq ⟨_,rfl,B,bs,whole,names,fs,k,rfl,sB.trans sG,hz,pk.same sG,by rw [(eO hb).2];decide,(q.before sG).mono fun _ h=>h⟩
  | false =>
  rw [ah (by rw [hb];decide)] at q
  refine cp ⟨_,rfl,(by show 1≤sizeLine;decide),gp (E:=E0) (ws:=[Fo.W "one"]) sB sG nd hz (congrArg (fun z=>[z]) w_one) (by decide) (by decide) fun G sG=>?_⟩
  cases hb:Fo.hasN k.v [Fo.W "one"] with
  | true =>
   rw [ao hb] at q;exact cq ⟨_,rfl,B,bs,whole,names,fs,k,rfl,sB.trans sG,hz,pk.same sG,by rw [(eO hb).2];decide,(q.before sG).mono fun _ h=>h⟩
  | false =>
  rw [ah (by rw [hb];decide)] at q
  refine cp ⟨_,rfl,(by show 1≤sizeLine;decide),gp (E:=E0) (ws:=[Fo.W "use"]) sB sG nd hz (congrArg (fun z=>[z]) w_use) (by decide) (by decide) fun G sG=>?_⟩
  cases hb:Fo.hasN k.v [Fo.W "use"] with
  | true =>
   rw [ao hb] at q;exact cq ⟨_,rfl,_,rfl,_,rfl,B,a,bf,bs,whole,names,fs,k,rfl,sB.trans sG,hs,hz,pk.same sG,by rw [(eO hb).2];decide,sG _ _ hbf,hnf,(q.before sG).mono fun _ h=>h⟩
  | false =>
  rw [ah (by rw [hb];decide)] at q
  have q:iY E CB k.p:=q
  exact cp ⟨_,rfl,fd_ (sB.trans sG _ _ hm) TP.cP TP.nPl rfl ⟨rfl,q⟩⟩
def wEs (w:World) (l:List (Str×Tok×Addr)):Array DictEntry:=(l.map fun x=>(⟨PyData.keyHash w.params x.1,.str x.1 x.2.1,.ref x.2.2⟩:DictEntry)).toArray
theorem l4 {P:Program} {w:World}:∀ l:List (Str×Tok×Addr),Pairs (dt P w) (l.map fun x=>(⟨PyData.keyHash w.params x.1,.str x.1 x.2.1,.ref x.2.2⟩:DictEntry)) (l.map fun x=>((.inr x.1:Key),Value.ref x.2.2))
 | []=>.nil
 | x::l=>.cons (iN P w _ _) rfl (l4 l)
theorem sV:∀ l:List (Str×Tok×Addr),KV (l.map fun x=>((.inr x.1:Key),V.ref x.2.2)) (l.map fun x=>((.inr x.1:Key),Value.ref x.2.2))
 | []=>.nil
 | x::l=>.cons ⟨rfl,rfl⟩ (sV l)
theorem xq {P:Program} {w:World} {K:Fg_} {d:Addr} {o:Obj} {ep:Nat} {l:List (Str×Tok×Addr)} (hl:K.lookup d=some o) (he:o=⟨.type "dict",none,.dict (wEs w l) ep,#[]⟩) (hs:(d==sysModules)=false) (hk:(l.map fun x=>(.inr x.1:Key))=iG) :
  StD P w K d (l.map fun x=>((.inr x.1:Key),V.ref x.2.2)):=by
 have nd:iG.Nodup:=by decide
 have hz:l.length=9:=by rw [←ae (f:=fun x=>(.inr x.1:Key)),hk];rfl
 refine ⟨hs,by rw [ae,sizeLine_eq];omega,o,wEs w l,ep,l.map fun x=>((.inr x.1:Key),Value.ref x.2.2),hl,by rw [he];exact ⟨rfl,rfl,rfl⟩,by rw [he],fun e h=>?_,l4 l,by rw [eD];exact hk▸nd,sV l⟩
 unfold wEs at h;rw [List.mem_toArray] at h;obtain ⟨x,hx,rfl⟩:=gv.mp h
 exact ⟨.inr x.1,iN P w _ _,rfl⟩
structure DR where
 f:Addr
 m:Addr
 ins:Addr
 path:List Nat
 v:Sw.Value
 p:Nat
 sh:Nat
 l:List (List Nat×Sw.Value)
 as:List Addr
def DR.kd (d:DR):List Nat×Sw.Value:=(d.path,d.v)
def DR.rf (d:DR):V:=.ref d.f
def Kn (S:List KR) (Dn:List DR) (a:Addr) (x:List Nat×Sw.Value):Prop:=(∃ k∈S,k.f=a∧k.kd=x)∨(∃ d∈Dn,d.f=a∧d.kd=x)
structure DOk (CO CP:Addr) (B G:Hp) (bs:List UInt8) (whole:Sw.Value) (names:List Sw.Bytes) (fs:List Addr) (S:List KR) (Dn:List DR) (d:DR):Prop where
 bf:B d.f=none
 bi:B d.ins=none
 at_:∃ fd:FD,iy CO G d.f fd∧fd.part=d.m∧fd.shape=d.sh∧fd.inside = .ref d.ins∧(d.sh=5→∃ (u:Addr) (j:Nat) (t:List Nat),fd.used = .ref u∧Fo.mem d.v 0 = .text t∧names[j]? = some (Sw.utf8 t)∧fs[j]? = some u)
 ai:G d.ins=some (.lst (d.as.map V.ref))
 nd:∃ np n,Nd CP B bs d.m d.v d.p np n
 wa:Fo.Wat whole d.path d.v d.p
 ow:Fo.own names d.v=some (d.sh,d.l)
 ln:d.as.length=d.l.length
 kn:∀ (i:Nat) (a:Addr) (x:List Nat×Sw.Value),d.as[i]? = some a→d.l[i]? = some x→Kn S Dn a (d.path++x.1,x.2)
structure St (CO ak CP:Addr) (B:Hp) (bs:List UInt8) (whole:Sw.Value) (names:List Sw.Bytes) (vs:List Sw.Value) (fs:List Addr) (G:Hp) (S:List KR) (Dn:List DR) (oth:List Addr):Prop where
 sB:bC B G
 po:∀ k∈S,POk CO ak CP B G bs whole k
 dj:S.Pairwise Dj
 dn:∀ d∈Dn,DOk CO CP B G bs whole names fs S Dn d
 df:Dn.Pairwise fun a b=>a.f≠b.f
 ap:∀ k∈S,∀ d∈Dn,k.f≠d.f∧k.ins≠d.ins
 bk:∀ (j:Nat) (u:Addr),fs[j]? = some u→∃ v,vs[j]? = some v∧Kn S Dn u ([0,j],v)
 ok:∀ x∈oth,B x=none∧(∃ o,G x=some o)∧(∀ k∈S,k.f≠x∧k.nm≠x∧k.ins≠x)∧∀ d∈Dn,d.f≠x∧d.ins≠x
theorem lr {a b c x:Addr} (h1:x≠a) (h2:x≠b) (h3:x≠c):x∉[a,b,c]:=by simp [h1,h2,h3]
section
variable {CO ak CP:Addr} {B G G':Hp} {bs:List UInt8} {whole:Sw.Value} {names:List Sw.Bytes} {vs:List Sw.Value} {fs:List Addr} {S:List KR} {Dn:List DR} {oth:List Addr}
theorem DOk.keep {d:DR} (h:DOk CO CP B G bs whole names fs S Dn d) (e1:∀ o,G d.f=some o→G' d.f=some o) (e2:∀ o,G d.ins=some o→G' d.ins=some o):DOk CO CP B G' bs whole names fs S Dn d:=by
 obtain ⟨fd,⟨dx,e⟩,r⟩:=h.at_
 exact ⟨h.bf,h.bi,⟨fd,⟨dx,e1 _ e⟩,r⟩,e2 _ h.ai,h.nd,h.wa,h.ow,h.ln,h.kn⟩
theorem DOk.live {d:DR} (h:DOk CO CP B G bs whole names fs S Dn d):(∃ dx fs',G d.f=some (.ins CO dx fs'))∧∃ ys,G d.ins=some (.lst ys):=by
 obtain ⟨fd,⟨dx,e⟩,r⟩:=h.at_
 exact ⟨⟨dx,_,e⟩,_,h.ai⟩
theorem POk.live {k:KR} (h:POk CO ak CP B G bs whole k):∃ dx fs',G k.f=some (.ins CO dx fs'):=by
 obtain ⟨_,_,dx,e⟩:=h.at_
 exact ⟨dx,_,e⟩
theorem St.same (h:St CO ak CP B bs whole names vs fs G S Dn oth) (s:bC G G'):St CO ak CP B bs whole names vs fs G' S Dn oth :=
 ⟨h.sB.trans s,fun k hk=>(h.po k hk).same s,h.dj,fun d hd=>(h.dn d hd).keep (fun o e=>s _ _ e) (fun o e=>s _ _ e),h.df,h.ap,h.bk,fun x hx=>by
  obtain ⟨h1,⟨o,h2⟩,h3⟩:=h.ok x hx
  exact ⟨h1,⟨o,s _ _ h2⟩,h3⟩⟩
theorem St.other (h:St CO ak CP B bs whole names vs fs G S Dn oth) {x:Addr} (hx:x∈oth) (o:HO):St CO ak CP B bs whole names vs fs (upd G x o) S Dn oth:=by
 obtain ⟨h1,_,h3,h4⟩:=h.ok x hx
 have kp:∀ {b:Addr} {o':HO},b≠x→G b=some o'→upd G x o b=some o':=fun n e=>(aa n).trans e
 refine ⟨fun b o' e=>kp (af e h1) (h.sB _ _ e),fun k hk=>?_,h.dj,fun d hd=>?_,h.df,h.ap,h.bk,fun y hy=>?_⟩
 ·obtain ⟨a,b,c⟩:=h3 k hk
  exact (h.po k hk).keep (fun o e=>kp a e) (fun o e=>kp b e) (fun o e=>kp c e)
 ·obtain ⟨a,b⟩:=h4 d hd
  exact (h.dn d hd).keep (fun o e=>kp a e) (fun o e=>kp b e)
 ·obtain ⟨g1,⟨o',g2⟩,g3⟩:=h.ok y hy
  refine ⟨g1,?_,g3⟩
  by_cases c:y=x
  ·exact ⟨o,by rw [c];exact au⟩
  ·exact ⟨o',kp c g2⟩
theorem St.add (h:St CO ak CP B bs whole names vs fs G S Dn oth) {x:Addr} (hx:G x=none) (o:HO):St CO ak CP B bs whole names vs fs (upd G x o) S Dn (x::oth):=by
 have h':=h.same (G':=upd G x o) (fun b o e=>(aa (af e hx)).trans e)
 refine ⟨h'.sB,h'.po,h'.dj,h'.dn,h'.df,h'.ap,h'.bk,fun y hy=>?_⟩
 rcases aF.mp hy with rfl | hy
 ·refine ⟨h.sB.free hx,⟨o,au⟩,fun k hk=>?_,fun d hd=>?_⟩
  ·have p:=h.po k hk
   obtain ⟨dx,_,e⟩:=p.live
   exact ⟨af e hx,af p.an hx,af p.ai hx⟩
  ·obtain ⟨⟨dx,_,e⟩,ys,e2⟩:=(h.dn d hd).live
   exact ⟨af e hx,af e2 hx⟩
 ·exact h'.ok y hy
theorem St.step {k:KR} {sh:Nat} {l:List (List Nat×Sw.Value)} (h:St CO ak CP B bs whole names vs fs G (k::S) Dn oth) (ow:Fo.own names k.v=some (sh,l)) (a:Aft CO ak CP B G G' bs whole names fs k sh l) :
  ∃ (ks:List KR) (d:DR) (fd:FD),St CO ak CP B bs whole names vs fs G' (ks++S) (d::Dn) oth∧d.f=k.f∧ks.map KR.kd=Fo.onto k.path l∧d.sh=sh∧iy CO G' k.f fd∧fd.shape=sh∧fd.inside = .ref d.ins∧G' d.ins=some (.lst (ks.map KR.rf))∧∀ x∈oth,G' x=G x:=by
 obtain ⟨kp,fd,ins',ks,hfd,f1,f2,f3,hins,hio,kids,hne,hkd,huse⟩:=a
 have pk:=h.po k (a6)
 obtain ⟨kx,_,ek⟩:=pk.live
 have un:∀ b,G b=none→B b=none:=fun b e=>h.sB.free e
 have djk:=(fw.mp h.dj).1
 have djS:=(fw.mp h.dj).2
 have keepS:∀ y∈S,POk CO ak CP B G' bs whole y:=fun y hy=>by
  have py:=h.po y (aR _ hy)
  obtain ⟨yx,_,ey⟩:=py.live
  obtain ⟨d1,d2,d3⟩:=djk y hy
  refine py.keep (fun o e=>kp _ _ e (lr (aN d1) (fun z=>?_) (fun z=>?_))) (fun o e=>kp _ _ e (lr (fun z=>?_) (aN d2) (fun z=>?_))) (fun o e=>kp _ _ e (lr (fun z=>?_) (fun z=>?_) (aN d3)))
  ·rw [z,pk.an] at ey;cases ey
  ·rw [z,pk.ai] at ey;cases ey
  ·have:=py.an;rw [z,ek] at this;cases this
  ·have:=py.an;rw [z,pk.ai] at this;cases this
  ·have:=py.ai;rw [z,ek] at this;cases this
  ·have:=py.ai;rw [z,pk.an] at this;cases this
 have freshS:∀ x∈ks,∀ y∈S,Dj x y:=fun x hx y hy=>by
  obtain ⟨_,g1,g2,g3⟩:=kids.ok x hx
  have py:=h.po y (aR _ hy)
  obtain ⟨yx,_,ey⟩:=py.live
  exact ⟨aN (af ey g1),aN (af py.an g2),aN (af py.ai g3)⟩
 have hinsB:B ins'=none:=hio.elim (fun z=>z▸pk.bi) (un _)
 have hkoth:∀ x∈oth,k.f≠x∧k.nm≠x∧k.ins≠x:=fun x hx=>(h.ok x hx).2.2.1 k a6
 have keepO:∀ x∈oth,∀ o,G x=some o→G' x=some o:=fun x hx o e=>by
  obtain ⟨n1,n2,n3⟩:=hkoth x hx
  exact kp _ _ e (lr (aN n1) (aN n2) (aN n3))
 generalize hd:DR.mk k.f k.m ins' k.path k.v k.p sh l (ks.map KR.f)=d;have kmono:∀ {a x},Kn (k::S) Dn a x→Kn (ks++S) (d::Dn) a x:=fun {a x} z=>by
  rcases z with ⟨y,hy,e1,e2⟩ | ⟨y,hy,e1,e2⟩
  ·rcases aF.mp hy with rfl | hy
   ·exact .inr ⟨d,a6,by rw [←hd];exact e1,by rw [←hd];exact e2⟩
   ·exact .inl ⟨y,bX _ hy,e1,e2⟩
  ·exact .inr ⟨y,aR _ hy,e1,e2⟩
 refine ⟨ks,d,fd,⟨fun b o e=>kp _ _ (h.sB _ _ e) (lr (af e pk.bf) (af e pk.bn) (af e pk.bi)),fun y hy=>?_,?_,fun d' hd'=>?_,?_,fun y hy d' hd'=>?_,fun j u hj=>?_,fun x hx=>?_⟩,by rw [←hd],hkd,by rw [←hd],hfd,f2,by rw [←hd];exact f3,by rw [←hd];exact hins,fun x hx=>?_⟩
 ·rcases aT.mp hy with hy | hy
  ·exact (kids.ok y hy).1
  ·exact keepS y hy
 ·rw [List.pairwise_append];exact ⟨kids.dj,djS,freshS⟩
 ·rcases aF.mp hd' with rfl | hd'
  ·subst hd;refine ⟨pk.bf,hinsB,⟨fd,hfd,f1,f2,f3,huse⟩,by rw [hins,eD];rfl,pk.nd,pk.wa,ow,?_,?_⟩
   ·have:=congrArg List.length hkd
    rw [ae] at this;show (ks.map KR.f).length=l.length
    rw [ae,this];exact ae _
   ·intro i a x e1 e2;have e1:(ks.map KR.f)[i]? = some a:=e1
    rw [aD] at e1;cases ei:ks[i]? with
    | none=>rw [ei] at e1;cases e1
    | some y =>
     rw [ei] at e1;have e1:y.f=a:=aA e1
     have e3:=congrArg (fun z=>z[i]?) hkd
     simp only [aD,lj] at e3;have e2:l[i]? = some x:=e2
     rw [ei,e2] at e3;exact .inl ⟨y,cz _ (bj ei),e1,aA e3⟩
  ·have dk:=h.dn d' hd'
   obtain ⟨⟨dx,_,e1⟩,ys,e2⟩:=dk.live
   obtain ⟨n1,n2⟩:=h.ap k a6 d' hd'
   have dk':DOk CO CP B G' bs whole names fs (k::S) Dn d':=dk.keep (fun o e=>kp _ _ e (lr (aN n1) (fun z=>by rw [z,pk.an] at e1;cases e1) (fun z=>by rw [z,pk.ai] at e1;cases e1)))
    (fun o e=>kp _ _ e (lr (fun z=>by rw [z,ek] at e2;cases e2) (fun z=>by rw [z,pk.an] at e2;cases e2) (aN n2)))
   exact ⟨dk'.bf,dk'.bi,dk'.at_,dk'.ai,dk'.nd,dk'.wa,dk'.ow,dk'.ln,fun i a x e1 e2=>kmono (dk'.kn i a x e1 e2)⟩
 ·refine fw.mpr ⟨fun d' hd'=>?_,h.df⟩
  rw [←hd];exact (h.ap k a6 d' hd').1
 ·rcases aT.mp hy with hy | hy
  ·obtain ⟨_,g1,g2,g3⟩:=kids.ok y hy
   rcases aF.mp hd' with rfl | hd'
   ·subst hd;exact ⟨aN (af ek g1),hne y hy⟩
   ·obtain ⟨⟨dx,_,e1⟩,ys,e2⟩:=(h.dn d' hd').live
    exact ⟨aN (af e1 g1),aN (af e2 g3)⟩
  ·rcases aF.mp hd' with rfl | hd'
   ·subst hd;refine ⟨aN (djk y hy).1,?_⟩
    rcases hio with z | z
    ·subst z;exact aN (djk y hy).2.2
    ·intro e;have e:y.ins=ins':=e
     rw [←e,(h.po y (aR _ hy)).ai] at z;cases z
   ·exact h.ap y (aR _ hy) d' hd'
 ·obtain ⟨v,h1,h2⟩:=h.bk j u hj
  exact ⟨v,h1,kmono h2⟩
 ·obtain ⟨h1,⟨o,h2⟩,h3,h4⟩:=h.ok x hx
  refine ⟨h1,⟨o,keepO x hx o h2⟩,fun y hy=>?_,fun d' hd'=>?_⟩
  ·rcases aT.mp hy with hy | hy
   ·obtain ⟨_,g1,g2,g3⟩:=kids.ok y hy
    exact ⟨aN (af h2 g1),aN (af h2 g2),aN (af h2 g3)⟩
   ·exact h3 y (aR _ hy)
  ·rcases aF.mp hd' with rfl | hd'
   ·subst hd;refine ⟨(hkoth x hx).1,?_⟩
    rcases hio with z | z
    ·subst z;exact (hkoth x hx).2.2
    ·intro e;have e:ins'=x:=e
     rw [e,h2] at z;cases z
   ·exact h4 d' hd'
 ·obtain ⟨_,⟨o,h2⟩,_⟩:=h.ok x hx
  rw [h2,keepO x hx o h2]
theorem St.less (h:St CO ak CP B bs whole names vs fs G S Dn oth):St CO ak CP B bs whole names vs fs G S Dn []:=⟨h.sB,h.po,h.dj,h.dn,h.df,h.ap,h.bk,fun x hx=>aP hx bG⟩
theorem oX:∀ {Dn:List DR},Dn.Pairwise (fun a b=>a.f≠b.f)→∀ {a b:DR},a∈Dn→b∈Dn→a.f=b.f→a=b
 | [],_,a,b,ha,_,_=>by cases ha
 | d::Dn,h,a,b,ha,hb,e=>by
  obtain ⟨h1,h2⟩:=fw.mp h
  rcases aF.mp ha with ra | ha
  ·rcases aF.mp hb with rb | hb
   ·rw [ra,rb]
   ·exact aP (by rw [←ra];exact e) (h1 b hb)
  ·rcases aF.mp hb with rb | hb
   ·exact aP (by rw [←rb];exact e.symm) (h1 a ha)
   ·exact oX h2 ha hb e
end
def wD (ds:List DR):Nat:=(ds.map fun d=>Pm.cntV d.v+1).sum
theorem pL (a b:List DR):wD (a++b)=wD a+wD b:=by
 unfold wD;rw [aO,dN]
theorem pK:∀ a:List DR,a.length≤wD a
 | []=>aI _
 | d::a=>by
  have:=pK a
  show a.length+1≤(Pm.cntV d.v+1)+wD a
  omega
theorem qC:∀ (ds:List DR) (l:List (List Nat×Sw.Value)),ds.map (·.v)=l.map (·.2)→wD ds=Fo.wtL l
 | [],[],_=>rfl
 | [],_::_,h=>by cases h
 | _::_,[],h=>by cases h
 | d::ds,x::l,h=>by
  have h:d.v::ds.map (·.v)=x.2::l.map (·.2):=h
  injection h with h1 h2;show (Pm.cntV d.v+1)+wD ds=(Pm.cntV x.2+1)+Fo.wtL l
  rw [h1,qC ds l h2]
theorem pick {Dn:List DR} {q:List Nat}:∀ (as:List Addr) (l:List (List Nat×Sw.Value)),as.length=l.length→(∀ (i:Nat) (a:Addr) (x:List Nat×Sw.Value),as[i]? = some a→l[i]? = some x→Kn [] Dn a (q++x.1,x.2))→∃ ds:List DR,(∀ d∈ds,d∈Dn)∧ds.map DR.f=as∧ds.map (·.v)=l.map (·.2)
 | [],[],_,_=>⟨[],fun d h=>aP h bG,rfl,rfl⟩
 | [],_::_,h,_=>by cases h
 | _::_,[],h,_=>by cases h
 | a::as,x::l,h,f=>by
  obtain ⟨ds,h1,h2,h3⟩:=pick as l (by simpa using h) fun i a x e1 e2=>f (i+1) a x (by simpa using e1) (by simpa using e2)
  rcases f 0 a x rfl rfl with ⟨k,hk,_⟩ | ⟨d,hd,e1,e2⟩
  ·cases hk
  ·refine ⟨d::ds,fun y hy=>?_,by rw [ba,h2,e1],?_⟩
   ·rcases aF.mp hy with rfl | hy
    ·exact hd
    ·exact h1 y hy
   ·rw [ba,ba,h3];exact congrArg (·::_) (congrArg Prod.snd e2)
def xI (CO ak CP:Addr):Sp:=fun vs0 H Q _=>∃ (B:Hp) (bs:List UInt8) (whole:Sw.Value) (names:List Sw.Bytes) (vs:List Sw.Value) (fs:List Addr) (Dn:List DR) (d0:DR),vs0=[.ref d0.f]∧St CO ak CP B bs whole names vs fs H [] Dn []∧d0∈Dn∧Sw.rising names=true∧Pm.cntV d0.v≤100000 ∧
 ∀ (fn:Addr) (us:List Addr) (js:List Nat) (H':Hp),H fn=none→H' fn=some (.lst (us.map V.ref))→bC H H'→us.length=js.length→(∀ (i:Nat) (u:Addr) (j:Nat),us[i]? = some u→js[i]? = some j→fs[j]? = some u)→(∀ j,j∈js↔∃ n,n∈Fo.atV d0.v∧names[j]? = some n)→js.length≤Pm.cntV d0.v+1→Q (.ref fn) H'
theorem vt:bw ["form","found","left","inner"] ["form"] (a9 sR2):=fs_
theorem ok_R2 {f:Addr} {fd:FuncData} (F:Fun K "used_forms" "used_forms" sR2 f fd) (TF:TxF K mg CO ak):bK P w K mg base CX0 1 f fd ["form"] (xI CO ak CP):=by
 refine F.ok vt (fun vs H Q E h=>?_) (fun cdv A outer s H vs Q E hr h=>?_)
 ·obtain ⟨B,bs,whole,names,vs,fs,Dn,d0,rfl,_⟩:=h
  rfl
 ·obtain ⟨B,bs,whole,names,vs,fs,Dn,d0,rfl,st,hd0,hris,hz,q⟩:=h
  refine ⟨_,az (br (i:=1) vt.nd rfl (.inl rfl) (dX aL))
   (az (br (i:=2) vt.nd rfl (.inl rfl) (dX (aj (pv 0) aL)))
   (az (gy PassesOwn.never (cN (pv 2) (fun _=>rfl))
    (az (br (i:=3) vt.nd rfl (.inl rfl) (jk a7 PySem.F.slot_list_pop PySem.F.type_list_pop lu (pv 2)))
    (aH (bY (bo d8 (aU (pv 3) rfl) (pgi TF.s5 rfl) (bA _))
     (aH (b6 (g8 a7 PySem.F.slot_list_append PySem.F.type_list_append eI (pv 1) (aj (aU (pv 3) rfl) aL))))
     (aH (bY (bo d8 (aU (pv 3) rfl) (pgi TF.s4 rfl) (bA _))
      (aH (b6 (g8 a7 PySem.F.slot_list_extend PySem.F.type_list_extend jS (pv 2) (aj (aU (pv 3) rfl) aL)))) bF))))))
   (aH (b9 (pv 1))))),?_⟩
  try dsimp only [cY];refine ⟨(by show 0≤sizeLine;decide),fun fn hfn=>?_⟩
  refine ⟨_,rfl,(by show 1≤sizeLine;decide),fun lf hlf=>?_⟩
  have nlf:lf≠fn:=fun z=>by rw [z,au] at hlf;cases hlf
  have hlfH:H lf=none:=by rw [aa nlf] at hlf;exact hlf
  refine ⟨fun m σ G=>∃ (v3:Option V) (ds:List DR) (us:List Addr) (js:List Nat),σ=[some (.ref d0.f),some (.ref fn),some (.ref lf),v3]∧bC H G∧G fn=some (.lst (us.map V.ref))∧G lf=some (.lst (ds.map DR.rf))∧(∀ d∈ds,d∈Dn)∧us.length=js.length∧(∀ (i:Nat) (u:Addr) (j:Nat),us[i]? = some u→js[i]? = some j→fs[j]? = some u)∧(∀ n,n∈Fo.atV d0.v↔(∃ d∈ds,n∈Fo.atV d.v)∨∃ j∈js,names[j]? = some n)∧(∀ j∈js,∃ n,names[j]? = some n)∧js.length+wD ds≤Pm.cntV d0.v+1∧m=wD ds,
   ⟨_,none,[d0],[],[],rfl,fun b o e=>?_,?_,au,fun d hd=>?_,rfl,fun i u j e=>(by cases e),fun n=>?_,fun j hj=>aP hj bG,?_,rfl⟩,?_⟩
  ·rw [aa (af e hlfH),aa (af e hfn)];exact e
  ·rw [aa (aN nlf),au];rfl
  ·rw [aJ] at hd;rw [hd];exact hd0
  ·constructor
   ·exact fun z=>.inl ⟨d0,aJ.mpr rfl,z⟩
   ·rintro (⟨d,hd,z⟩ | ⟨j,hj,_⟩)
    ·rw [aJ] at hd;rw [←hd];exact z
    ·cases hj
  ·show 0+(Pm.cntV d0.v+1+0)≤_
   omega
  intro m σ G z29_;refine e4_ z29_ fun v3 ds us js=>c11_ fun z30_ kk hGf hGl hds hlen hpair hset hnm hwt hm=>?_
  subst z30_;refine ⟨_,rfl,_,.inl ⟨_,SqL.of hGl,rfl⟩,?_⟩
  rcases fV ds with rfl | ⟨ds',d,rfl⟩
  ·refine cp ⟨_,rfl,q fn us js G hfn hGf kk hlen hpair (fun j=>⟨fun hj=>?_,fun ⟨n,h1,h2⟩=>?_⟩) (by omega)⟩
   ·obtain ⟨n,hn⟩:=hnm j hj
    exact ⟨n,(hset n).mpr (.inr ⟨j,hj,hn⟩),hn⟩
   ·rcases (hset n).mp h1 with ⟨d,hd,_⟩ | ⟨j',hj',e⟩
    ·cases hd
    ·rw [Fo.rise_nodup hris h2 e];exact hj'
  ·rw [fW] at hGl hds hset hwt hm ⊢;have hmap:(ds'++[d]).map DR.rf=ds'.map DR.rf++[DR.rf d]:=by rw [aO];rfl
   rw [hmap] at hGl ⊢;rw [show (!(ds'.map DR.rf++[DR.rf d]).isEmpty)=true by simp]
   have hdn:=hds d (by simp)
   have dk:=st.dn d hdn
   refine Exists.elim dk.at_ fun fdd=>c5_ fun z31_ f1 f2 f3 f4=>?_
   obtain ⟨dx,hd⟩:=z31_
   have hwa:wD (ds'++[d])=wD ds'+(Pm.cntV d.v+1):=by
    rw [pL];show wD ds'+(Pm.cntV d.v+1+0)=_
    omega
   rw [hwa] at hwt hm;have hdsl:=pK ds'
   refine cq ⟨_,fun σ' G' h=>h,?_⟩
   refine ⟨_,rfl,.inl ⟨rfl,_,SqL.of hGl⟩,lf,_,DR.rf d,rfl,rfl,hGl,?_,?_⟩
   ·rw [aG];show (ds'.map DR.rf++[DR.rf d])[(ds'.map DR.rf).length+1 - 1]? = _
    rw [eC,bW (aI _),dB];rfl
   rw [show (ds'.map DR.rf++[DR.rf d]).dropLast=ds'.map DR.rf from dU];generalize hG1:upd G lf (.lst (ds'.map DR.rf))=G1;have k1:bC H G1:=fun b o e=>by rw [←hG1,aa (af e hlfH)];exact kk _ _ e
   have hGf1:G1 fn=some (.lst (us.map V.ref)):=by rw [←hG1,aa (aN nlf)];exact hGf
   have hGl1:G1 lf=some (.lst (ds'.map DR.rf)):=by rw [←hG1,au]
   have hd1:=k1 _ _ hd
   have hds':∀ x∈ds',x∈Dn:=fun x hx=>hds x (by simp [hx])
   obtain ⟨o5,o4,o0⟩:=Fo.own_at dk.ow
   have split:∀ n,(∃ x∈ds'++[d],n∈Fo.atV x.v)↔(∃ x∈ds',n∈Fo.atV x.v)∨n∈Fo.atV d.v:=fun n=>by
    constructor
    ·rintro ⟨x,hx,z⟩
     rcases aT.mp hx with hx | hx
     ·exact .inl ⟨x,hx,z⟩
     ·rw [aJ] at hx;exact .inr (hx▸z)
    ·rintro (⟨x,hx,z⟩ | z)
     ·exact ⟨x,cz _ hx,z⟩
     ·exact ⟨d,by simp,z⟩
   refine ⟨_,rfl,fd_ hd1 TF.cO TF.nSh rfl ⟨rfl,_,rfl,?_⟩⟩
   by_cases h5:d.sh=5
   ·rw [show decide (V.int ((fdd.shape:Nat):Int)=V.int 5)=true by rw [f2,h5];exact aq rfl]
    refine e3_ (f4 h5) fun u j t=>c4_ fun g1 g2 g3 g4=>?_
    obtain ⟨t',e1,e2,_⟩:=o5 h5
    rw [g2] at e1;injection e1 with e1;subst e1;refine cq ⟨_,rfl,.inl ⟨rfl,_,SqL.of hGf1⟩,_,rfl,fd_ hd1 TF.cO TF.nUs rfl ⟨fn,_,_,rfl,rfl,hGf1,?_,?_⟩⟩
    ·rw [ae,hlen,sizeLine_eq];omega
    ·refine ⟨wD ds',by omega,_,ds',us++[u],js++[j],rfl,fun b o e=>(aa (af e hfn)).trans (k1 _ _ e),?_,(aa nlf).trans hGl1,hds',?_,?_,fun n=>?_,?_,?_,rfl⟩
     ·rw [au,aO,g1];rfl
     ·rw [aG,aG,hlen];rfl
     ·intro i u' j' hu hj
      rw [dq] at hu hj;rw [hlen] at hu;split at hu
      ·rename_i hi
       rw [ao hi] at hj;exact hpair i u' j' hu hj
      ·rename_i hi
       rw [ah hi] at hj;have hil:i - js.length<1:=(ay.mp hj).1
       have ei:i - js.length=0:=by omega
       rw [ei] at hu hj;rw [←aA hu,←aA hj];exact g4
     ·rw [hset n,split,e2];constructor
      ·rintro ((z | z) | ⟨j',hj',z⟩)
       ·exact .inl z
       ·rw [aJ] at z;exact .inr ⟨j,by simp,by rw [z];exact g3⟩
       ·exact .inr ⟨j',by simp [hj'],z⟩
      ·rintro (z | ⟨j',hj',z⟩)
       ·exact .inl (.inl z)
       ·rcases aT.mp hj' with hj' | hj'
        ·exact .inr ⟨j',hj',z⟩
        ·rw [aJ] at hj'
         subst hj'
         rw [g3] at z;injection z with z;exact .inl (.inr (by rw [←z];simp))
     ·intro j' hj'
      rcases aT.mp hj' with hj' | hj'
      ·exact hnm j' hj'
      ·rw [aJ] at hj'
       exact ⟨_,hj'▸g3⟩
     ·rw [aG];show js.length+1+wD ds'≤_
      omega
   ·rw [show decide (V.int ((fdd.shape:Nat):Int)=V.int 5)=false by rw [f2,fT,ax (by omega)]]
    refine cp ⟨_,rfl,fd_ hd1 TF.cO TF.nSh rfl ⟨rfl,_,rfl,?_⟩⟩
    by_cases h4:d.sh=4
    ·rw [show decide (V.int ((fdd.shape:Nat):Int)=V.int 4)=true by rw [f2,h4];exact aq rfl]
     obtain ⟨ds2,p1,p2,p3⟩:=pick d.as d.l dk.ln dk.kn
     have hw2:wD ds2≤Pm.cntV d.v:=by rw [qC ds2 d.l p3];exact Fo.own_wt dk.ow
     have hl2:=pK ds2
     have hai:=k1 _ _ dk.ai
     rw [←p2,eD] at hai;have hai:G1 d.ins=some (.lst (ds2.map DR.rf)):=hai
     have e4:=o4 h4
     have e4':∀ n,n∈Fo.atV d.v↔∃ x∈ds2,n∈Fo.atV x.v:=fun n=>by
      rw [e4];have:d.l.flatMap (fun (x:List Nat×Sw.Value)=>Fo.atV x.2)=(d.l.map (·.2)).flatMap Fo.atV:=by rw [List.flatMap_map]
      rw [this,←p3,List.flatMap_map,List.mem_flatMap]
     refine cq ⟨_,rfl,.inl ⟨rfl,_,SqL.of hGl1⟩,_,rfl,fd_ hd1 TF.cO TF.nIn rfl ⟨lf,d.ins,_,_,rfl,congrArg (fun z=>[z]) f3,hGl1,hai,?_,?_⟩⟩
     ·rw [ae,ae,sizeLine_eq];omega
     ·refine ⟨wD (ds'++ds2),by rw [pL];omega,_,ds'++ds2,us,js,rfl,fun b o e=>(aa (af e hlfH)).trans (k1 _ _ e),(aa (aN nlf)).trans hGf1,by rw [au,aO],fun x hx=>?_,hlen,hpair,fun n=>?_,hnm,by rw [pL];omega,rfl⟩
      ·rcases aT.mp hx with hx | hx
       ·exact hds' x hx
       ·exact p1 x hx
      ·rw [hset n,split,e4' n];constructor
       ·rintro ((⟨x,hx,z⟩ | ⟨x,hx,z⟩) | z)
        ·exact .inl ⟨x,cz _ hx,z⟩
        ·exact .inl ⟨x,bX _ hx,z⟩
        ·exact .inr z
       ·rintro (⟨x,hx,z⟩ | z)
        ·rcases aT.mp hx with hx | hx
         ·exact .inl (.inl ⟨x,hx,z⟩)
         ·exact .inl (.inr ⟨x,hx,z⟩)
        ·exact .inr z
    ·rw [show decide (V.int ((fdd.shape:Nat):Int)=V.int 4)=false by rw [f2,fT,ax (by omega)]]
     have e0:=o0 h5 h4
     refine cp ⟨wD ds',by omega,_,ds',us,js,rfl,k1,hGf1,hGl1,hds',hlen,hpair,fun n=>?_,hnm,by omega,rfl⟩
     rw [hset n,split,e0];constructor
     ·rintro ((z | z) | z)
      ·exact .inl z
      ·cases z
      ·exact .inr z
     ·rintro (z | z)
      ·exact .inl (.inl z)
      ·exact .inr z
theorem tY {X:Cx} {K:Fg_} {tg l:Expr} {tl:TE} (hK:X.K=K) (hl:PE X l tl):PI X tg l (wB K tl):=by
 subst hK;exact eN hl
theorem jZ:∀ (m:Sw.Row) (b:Bool) (i j:Nat),i<j→j<m.length→m.before b i<m.before b j
 | .nil,b,i,j,h,hj=>aP hj (cH _)
 | .cons n v r,b,i,0,h,hj=>aP h (cH _)
 | .cons n v r,b,0,j+1,h,hj=>by
  have:=Pm.enc_pos v
  show (if b=true then _ else 0)<(if b=true then _ else 0)+v.enc.length+r.before b j
  omega
 | .cons n v r,b,i+1,j+1,h,hj=>by
  have hj:j+1<r.length+1:=hj
  have:=jZ r b i j (by omega) (by omega)
  show (if b=true then _ else 0)+v.enc.length+r.before b i<(if b=true then _ else 0)+v.enc.length+r.before b j
  omega
theorem qm:∀ {m:Sw.Row} {i:Nat} {x:Sw.Bytes×Sw.Value},m.get? i=some x→i<m.length
 | .nil,i,x,h=>by cases h
 | .cons n v r,0,x,h=>eU _
 | .cons n v r,i+1,x,h=>Nat.succ_lt_succ (qm (m:=r) (i:=i) h)
theorem qA {whole v:Sw.Value} {i p:Nat} (h:Fo.Wat whole [0,i] v p):∃ n m0 k,whole.member 0=some (n,m0)∧m0.member i=some (k,v)∧p=Pm.mplace whole 0 0+Pm.mplace m0 0 i:=by
 obtain ⟨h1,h2⟩:=h
 rw [Fo.at_cons] at h1;cases e0:whole.member 0 with
 | none=>rw [e0] at h1;cases h1
 | some x =>
  obtain ⟨n,m0⟩:=x
  rw [e0] at h1;have h1:m0.at_ [i]=some v:=h1
  rw [Fo.at_cons] at h1;cases e1:m0.member i with
  | none=>rw [e1] at h1;cases h1
  | some y =>
   obtain ⟨k,w⟩:=y
   rw [e1] at h1;have h1:w.at_ []=some v:=h1
   unfold Sw.Value.at_ at h1;injection h1 with h1;subst h1;refine ⟨n,m0,k,rfl,e1,?_⟩
   rw [←h2,Pm.place_one e0];show _+m0.placeOf [i]=_
   rw [Pm.place_one e1];show _+(_+w.placeOf [])=_
   unfold Sw.Value.placeOf;omega
theorem vb {whole v w:Sw.Value} {i j p q:Nat} (h1:Fo.Wat whole [0,i] v p) (h2:Fo.Wat whole [0,j] w q) (e:p=q):i=j:=by
 obtain ⟨n,m0,k,a1,a2,a3⟩:=qA h1
 obtain ⟨n',m0',k',b1,b2,b3⟩:=qA h2
 rw [a1] at b1;injection b1 with b1;injection b1 with _ b1;subst b1;rw [Pm.member_eq] at a2 b2;have l1:=qm a2
 have l2:=qm b2
 unfold Pm.mplace at a3 b3;rcases Nat.lt_trichotomy i j with c | c | c
 ·have:=jZ (Pm.rowOf m0) (Pm.namedOf m0) i j c l2
  omega
 ·exact c
 ·have:=jZ (Pm.rowOf m0) (Pm.namedOf m0) j i c l1
  omega
def wV (vs:List Sw.Value):Nat:=(vs.map fun v=>Pm.cntV v+1).sum
theorem mX:∀ vs:List Sw.Value,vs.length≤wV vs
 | []=>aI _
 | v::vs=>by
  have:=mX vs
  show vs.length+1≤(Pm.cntV v+1)+wV vs
  omega
theorem qB {vs:List Sw.Value} {i:Nat} {v:Sw.Value} (h:vs[i]? = some v):wV (vs.take (i+1))=wV (vs.take i)+(Pm.cntV v+1):=by
 rw [cw,h];unfold wV;rw [aO,dN];show _+(Pm.cntV v+1+0)=_
 omega
theorem wV_le {vs:List Sw.Value} {i:Nat} {v:Sw.Value} (h:vs[i]? = some v):Pm.cntV v+1≤wV vs:=by
 have h1:=qB h
 have h2:wV (vs.take (i+1))≤wV vs:=by
  have e:wV vs=wV (vs.take (i+1))+wV (vs.drop (i+1)):=by
   unfold wV;rw [←dN,←aO,dI]
  omega
 omega
theorem St.book {CO ak CP:Addr} {B G:Hp} {bs:List UInt8} {whole:Sw.Value} {names:List Sw.Bytes} {vs:List Sw.Value} {fs:List Addr} {Dn:List DR} {oth:List Addr} (h:St CO ak CP B bs whole names vs fs G [] Dn oth) {j:Nat} {u:Addr} (e:fs[j]? = some u) :
  ∃ d∈Dn,d.f=u∧d.path=[0,j]∧vs[j]? = some d.v:=by
 obtain ⟨v,h1,h2⟩:=h.bk j u e
 rcases h2 with ⟨k,hk,_⟩ | ⟨d,hd,e1,e2⟩
 ·cases hk
 ·exact ⟨d,hd,e1,congrArg Prod.fst e2,by rw [h1];exact congrArg some (congrArg Prod.snd e2).symm⟩
def xJ (CO ak CP:Addr):Sp:=fun vs0 H Q _=>∃ (B:Hp) (bs:List UInt8) (whole:Sw.Value) (names:List Sw.Bytes) (vs:List Sw.Value) (fs:List Addr) (Dn:List DR) (fl:Addr),vs0=[.ref fl]∧St CO ak CP B bs whole names vs fs H [] Dn []∧H fl=some (.lst (fs.map V.ref))∧Sw.rising names=true∧names.length=fs.length∧vs.length=fs.length∧wV vs≤65536 ∧
 ∀ (o:Addr) (g:Ri.Gr) (H':Hp),H o=none→n8 H' o g→Fo.Gsp names vs g→(g.map List.length).sum≤wV vs→bC H H'→Q (.ref o) H'
theorem oC:bw ["forms","numbers","i","form","used"] ["forms"] (a9 sR1):=fs_
theorem ok_R1 {f fR2:Addr} {fd fd2:FuncData} (F:Fun K "lead_onward" "lead_onward" sR1 f fd) (TP:TxP K mg CP) (TF:TxF K mg CO ak) (enu:mg "enumerate" = none)
  (G2:Co P w K mg base CX0 1 fR2 fd2 ["form"] (xI CO ak CP) "used_forms") :
  bK P w K mg base CX0 2 f fd ["forms"] (xJ CO ak CP):=by
 refine F.ok oC (fun vs H Q E h=>?_) (fun cdv A outer s H vs Q E hr h=>?_)
 ·obtain ⟨B,bs,whole,names,vs,fs,Dn,fl,rfl,_⟩:=h
  rfl
 ·obtain ⟨B,bs,whole,names,vs,fs,Dn,fl,rfl,st,hfl,hris,hnl,hvl,hwv,q⟩:=h
  refine ⟨_,az (br (i:=1) oC.nd rfl (Or.inr rfl) oW)
   (az (fm PassesOwn.never rfl (nj rfl enu (aj (pv 0) aL)) (p9 rfl (g6 (cy (i:=2) oC.nd rfl (.inl rfl)) (g6 (cy (i:=3) oC.nd rfl (.inl rfl)) nq)))
    (aH (kz (jw hr) (pv 1) (aU (aU (pv 3) rfl) rfl) (pv 2) rfl)))
   (aH (b9 (la rfl oC.nd (eN (pv 0)) (fe (own:=[("form",3)]) (by kernel_rfl))
    (fun s H C cl fp=>cy (i:=3) oC.nd rfl (.inl rfl)) (fun s H C cl fp=>fZ)
    (fun s H C cl fp=>la rfl oC.nd (tY (K:=K) rfl (cv G2 hr rfl cM (aj (pv 3) aL))) (fe (own:=[("used",4)]) (by kernel_rfl))
     (fun s H C cl fp=>cy (i:=4) oC.nd rfl (.inl rfl)) (fun s H C cl fp=>fZ)
     (fun s H C cl fp=>nv (jw hr) (pv 1) (kD (K:=K) rfl (kD (K:=K) rfl (pv 4) rfl) rfl) (fun _ _=>rfl))))))),?_⟩
  try dsimp only [cY];refine fun nu hnu=>?_
  have hvlen:=mX vs
  have at_j:∀ (j:Nat) (u:Addr),fs[j]? = some u→∃ d∈Dn,d.f=u∧vs[j]? = some d.v∧Fo.Wat whole [0,j] d.v d.p:=fun j u e=>by
   obtain ⟨d,hd,e1,e2,e3⟩:=st.book e
   refine ⟨d,hd,e1,e3,?_⟩
   rw [←e2];exact (st.dn d hd).wa
  have nuf:nu≠fl:=fun z=>by rw [z,hfl] at hnu;cases hnu
  refine ⟨_,rfl,fl,_,rfl,SqL.of ((aa (aN nuf)).trans hfl),?_⟩
  refine lI (xs:=fs.map V.ref) (fun i σ G=>∃ (v2 v3 v4:Option V) (e:List (Key×V)),σ=[some (.ref fl),some (.ref nu),v2,v3,v4]∧bC H G∧G nu=some (.dK e)∧e.length≤i∧∀ (j:Nat) (u:Addr),j<i→fs[j]? = some u→∀ d∈Dn,d.f=u→Fo.Wat whole [0,j] d.v d.p→eT e (.inl ((d.p:Nat):Int))=some (.int (j:Int))) ⟨none,none,none,[],rfl,fun b o e=>(aa (af e hnu)).trans e,au,aI _,fun j u hj=>aP hj (cH _)⟩ ?_ ?_ ?_
  ·rintro i σ G _ ⟨v2,v3,v4,e,rfl,kk,_⟩
   exact SqL.of (kk _ _ hfl)
  ·rintro i x σ G T hx ⟨v2,v3,v4,e,rfl,kk,hGn,hel,hval⟩ hT
   rw [aD] at hx;cases ea:fs[i]? with
   | none=>rw [ea] at hx;cases hx
   | some u =>
    rw [ea] at hx;have hx:V.ref u=x:=aA hx
    subst hx;have hi:i<fs.length:=(ay.mp ea).1
    obtain ⟨d,hd,e1,e3,wd⟩:=at_j i u ea
    have dk:=st.dn d hd
    obtain ⟨fdd,⟨dx,hdf⟩,f1,f2,f3,f4⟩:=dk.at_
    obtain ⟨np,n,nd⟩:=dk.nd
    obtain ⟨nl,l,as,dxm,hnl',hm,_⟩:=nd.pt
    have sT:bC G (upd G T (.tup [.int (i:Nat),V.ref u])):=fun b o e=>(aa (af e hT)).trans e
    have kT:=kk.trans sT
    have nTn:T≠nu:=fun z=>by rw [z,hGn] at hT;cases hT
    subst e1;refine ⟨T,_,rfl,SqT.of au,rfl,_,_,rfl,_,_,rfl,rfl,?_⟩
    refine ⟨_,rfl,_,rfl,_,rfl,fd_ (kT _ _ hdf) TF.cO TF.nPa rfl (fd_ (by rw [f1];exact kT _ _ (st.sB _ _ hm)) TP.cP TP.nPl rfl ⟨nu,_,rfl,lZ.k (k:=.inl ((d.p:Nat):Int)) (sT _ _ hGn) (by rw [sizeLine_eq];omega),?_⟩)⟩
    refine ⟨_,_,_,fG e (.inl ((d.p:Nat):Int)) (.int (i:Int)),rfl,fun b o eb=>(aa (af eb hnu)).trans (kT _ _ eb),au,by have:=gK e (.inl ((d.p:Nat):Int)) (V.int (i:Int));omega,fun j u' hj eu d' hd' ed' wd'=>?_⟩
    rw [kM];by_cases c:j=i
    ·subst c;have ep:d'.p=d.p:=by
      rw [ea] at eu;injection eu with eu;rw [←wd'.2,←wd.2]
     rw [ep,ao rfl]
    ·rw [ah (fun z=>c ?_)]
     ·exact hval j u' (by omega) eu d' hd' ed' wd'
     ·have z:(Sum.inl ((d'.p:Nat):Int):Key)=Sum.inl ((d.p:Nat):Int):=z
      injection z with z;exact vb wd' wd (by omega)
  rintro σ H1 ⟨v2,v3,v4,e,rfl,kk,hGn,hel,hval⟩
  rw [ae] at hval;have st1:=st.same kk
  refine ⟨_,rfl,fl,rfl,⟨_,SqL.of (kk _ _ hfl)⟩,fun D hD=>?_⟩
  have hDH:H D=none:=kk.free hD
  refine gM (xs:=fs.map V.ref) (fun i G=>∃ (cs:List Addr) (gs:Ri.Gr),bC H1 G∧G D=some (.lst (cs.map V.ref))∧cs.length=i∧gs.length=i∧(∀ (j:Nat) (c:Addr),cs[j]? = some c→G c=some (.lst ((Ri.adj gs j).map nV))∧c≠D)∧(∀ a j,a<i→(j∈Ri.adj gs a↔∃ v n,vs[a]? = some v∧n∈Fo.atV v∧names[j]? = some n))∧(gs.map List.length).sum≤wV (vs.take i)) ?_ ?_ ?_ ?_
  ·exact ⟨[],[],fun b o e=>(aa (af e hD)).trans e,au,rfl,rfl,fun j c e=>(by cases e),fun a j ha=>aP ha (cH _),a8 _⟩
  ·rintro i G _ ⟨cs,gs,k1,_⟩
   exact SqL.of (k1 _ _ (kk _ _ hfl))
  ·rintro i x G hx ⟨cs,gs,k1,hGD,hcl,hgl,hcs,hgs,hsum⟩
   rw [aD] at hx;cases ea:fs[i]? with
   | none=>rw [ea] at hx;cases hx
   | some u =>
    rw [ea] at hx;have hx:V.ref u=x:=aA hx
    subst hx;have hi:i<fs.length:=(ay.mp ea).1
    obtain ⟨d,hd,e1,e3,wd⟩:=at_j i u ea
    subst e1;have hcw:=wV_le e3
    have hw1:=qB e3
    refine ⟨rfl,gU ?_⟩
    refine ⟨_,rfl,B,bs,whole,names,vs,fs,Dn,d,rfl,st1.same k1,hd,hris,by omega,fun fn us js G2 hfn hGf k2 hlen hpair hset hjl=>?_⟩
    refine ⟨fn,rfl,⟨_,SqL.of hGf⟩,fun D2 hD2=>?_⟩
    have nD2:D2≠fn:=fun z=>by rw [z,hGf] at hD2;cases hD2
    refine gM (xs:=us.map V.ref) (fun i' G3=>bC G2 G3∧G3 D2=some (.lst ((js.take i').map nV))) ?_ ?_ ?_ ?_
    ·exact ⟨fun b o e=>(aa (af e hD2)).trans e,au⟩
    ·rintro i' G3 _ ⟨k3,_⟩
     exact SqL.of (k3 _ _ hGf)
    ·rintro i' y G3 hy ⟨k3,hG3⟩
     rw [aD] at hy;cases eb:us[i']? with
     | none=>rw [eb] at hy;cases hy
     | some u' =>
      rw [eb] at hy;have hy:V.ref u'=y:=aA hy
      subst hy;have hi':i'<us.length:=(ay.mp eb).1
      obtain ⟨j,ej⟩:∃ j,js[i']? = some j:=⟨js[i']'(by omega),aB _⟩
      have efu:=hpair i' u' j eb ej
      obtain ⟨d',hd',e1',e3',wd'⟩:=at_j j u' efu
      have dk:=st.dn d' hd'
      obtain ⟨fdd,⟨dx,hdf⟩,f1,f2,f3,f4⟩:=dk.at_
      obtain ⟨np,n,nd⟩:=dk.nd
      obtain ⟨nl,l,as,dxm,hnl',hm,_⟩:=nd.pt
      subst e1'
      have kA:bC H G3:=fun b o e=>k3 _ _ (k2 _ _ (k1 _ _ (kk _ _ e)))
      have hv':=hval j _ (by exact (ay.mp efu).1) efu d' hd' rfl wd'
      refine ⟨rfl,gU ?_⟩
      refine ⟨_,rfl,_,rfl,fd_ (kA _ _ hdf) TF.cO TF.nPa rfl (fd_ (by rw [f1];exact kA _ _ (st.sB _ _ hm)) TP.cP TP.nPl rfl ⟨nu,V.int (j:Int),rfl,(by rw [←hv'];exact jq.k (k:=.inl ((d'.p:Nat):Int)) (k3 _ _ (k2 _ _ (k1 _ _ hGn)))),_,hG3,?_,fun b o e=>(aa (af e hD2)).trans (k3 _ _ e),?_⟩)⟩
      ·rw [ae,aY,sizeLine_eq];omega
      ·rw [au,cw,ej,aO];rfl
    rintro G3 ⟨k3,hG3⟩
    rw [ae,hlen,cZ] at hG3;have hD2G:G D2=none:=k2.free hD2
    have nDD:D2≠D:=fun z=>by rw [z,hGD] at hD2G;cases hD2G
    refine ⟨_,k3 _ _ (k2 _ _ hGD),by rw [ae,hcl,sizeLine_eq];omega,cs++[D2],gs++[js],fun b o e=>(aa (af e hD)).trans (k3 _ _ (k2 _ _ (k1 _ _ e))),by rw [au,aO];rfl,by rw [aG,hcl];rfl,by rw [aG,hgl];rfl,?_,?_,?_⟩
    ·intro j c ec;rw [dq] at ec;unfold Ri.adj;rw [dq];split at ec
     ·rename_i hj
      rw [ao (by omega)]
      obtain ⟨h1,h2⟩:=hcs j c ec
      exact ⟨(aa h2).trans (k3 _ _ (k2 _ _ h1)),h2⟩
     ·rename_i hj
      have hil:j - cs.length<1:=(ay.mp ec).1
      have ei:j - cs.length=0:=by omega
      rw [ei] at ec;have ec:D2=c:=aA ec
      subst ec;rw [ah (by omega),show j - gs.length=0 by omega]
      exact ⟨(aa nDD).trans hG3,nDD⟩
    ·intro a j ha;unfold Ri.adj;rw [dq];by_cases c:a<gs.length
     ·rw [ao c];exact hgs a j (by omega)
     ·have:a=i:=by omega
      subst this;rw [ah c,show a - gs.length=0 by omega]
      show j∈js↔_
      rw [hset j];constructor
      ·rintro ⟨n,h1,h2⟩
       exact ⟨d.v,n,e3,h1,h2⟩
      ·rintro ⟨v,n,h0,h1,h2⟩
       rw [e3] at h0;injection h0 with h0;exact ⟨n,by rw [h0];exact h1,h2⟩
    ·rw [aO,dN,hw1];show _+(js.length+0)≤_
     omega
  rintro G ⟨cs,gs,k1,hGD,hcl,hgl,hcs,hgs,hsum⟩
  rw [ae] at hcl hgl hgs hsum;refine q D gs G hDH ⟨cs,hGD,by omega,fun i a e=>(hcs i a e).1⟩ ⟨by omega,fun i j=>?_⟩ ?_ (kk.trans k1)
  ·by_cases c:i<fs.length
   ·exact hgs i j c
   ·have e1:Ri.adj gs i=[]:=by
     unfold Ri.adj;rw [bL.mpr (by omega)]
     rfl
    rw [e1];constructor
    ·intro z;cases z
    ·rintro ⟨v,n,h,_⟩
     have:=(ay.mp h).1
     omega
  ·rw [←hvl,cZ] at hsum;exact hsum
theorem mJ {α:Type} [BEq α] [LawfulBEq α]:∀ (l:List α) (i:Nat) (x:α),l[i]? = some x→(1<l.count x↔∃ j,j≠i∧l[j]? = some x)
 | [],i,x,h=>by cases h
 | a::l,0,x,h=>by
  obtain rfl:a=x:=aA h
  rw [gf];constructor
  ·intro z;have:a∈l:=fA.mp (by omega)
   obtain ⟨j,hj⟩:=eP this
   exact ⟨j+1,by omega,by simpa using hj⟩
  ·rintro ⟨j,h1,h2⟩
   match j,h1,h2 with
   | j+1,_,h2 =>
    have:a∈l:=bj (i:=j) (by simpa using h2)
    have:=fA.mpr this
    omega
 | a::l,i+1,x,h=>by
  have h:l[i]? = some x:=by simpa using h
  have ih:=mJ l i x h
  by_cases c:a=x
  ·subst c;rw [gf];have:0<l.count a:=fA.mpr (bj h)
   exact ⟨fun _=>⟨0,by omega,rfl⟩,fun _=>by omega⟩
  ·rw [List.count_cons_of_ne c,ih];constructor
   ·rintro ⟨j,h1,h2⟩
    exact ⟨j+1,by omega,by simpa using h2⟩
   ·rintro ⟨j,h1,h2⟩
    match j,h1,h2 with
    | 0,_,h2=>exact aP (aA h2) c
    | j+1,h1,h2=>exact ⟨j,by omega,by simpa using h2⟩
theorem qY (i:Nat):∀ l:List Nat,inV (.int (i:Int)) (l.map nV)=decide (i∈l)
 | []=>rfl
 | a::l=>by
  have ih:=qY i l
  show (((a:Int)==(i:Int))||inV (.int (i:Int)) (l.map nV))=decide (i∈a::l)
  rw [ih];by_cases c:a=i
  ·subst c;rw [beq_self_eq_true,Bool.true_or,aq (by simp)]
  ·rw [aQ.mpr (by omega),Bool.false_or]
   exact decide_eq_decide.mpr ⟨fun z=>aR _ z,fun z=>(aF.mp z).elim (fun e=>aP e.symm c) id⟩
theorem mG:∀ l:List Nat,(l.map nV).all jF=true
 | []=>rfl
 | a::l=>mG l
def xK (CO ak CP:Addr):Sp:=fun vs0 H Q _=>∃ (B:Hp) (bs:List UInt8) (whole:Sw.Value) (names:List Sw.Bytes) (vs:List Sw.Value) (fs:List Addr) (Dn:List DR) (fl:Addr),vs0=[.ref fl]∧St CO ak CP B bs whole names vs fs H [] Dn []∧H fl=some (.lst (fs.map V.ref))∧Sw.rising names=true∧names.length=fs.length∧vs.length=fs.length∧wV vs≤65536 ∧
 ∀ g:Ri.Gr,Fo.Gsp names vs g→(∀ (i:Nat) (u:Addr) (H':Hp),fs[i]? = some u→Ri.Back g i→(∀ j,j<i→¬Ri.Back g j)→bC H H'→Q (.ref u) H')∧∀ H':Hp,(∀ i,i<g.length→¬Ri.Back g i)→bC H H'→Q .non H'
theorem pZ:bw ["forms","onward","rings","sizes","ring","i","form"] ["forms"] (a9 sR0):=fs_
theorem ok_R0 {f fR1 fR3:Addr} {fd fd1 fd3:FuncData} (F:Fun K "first_in_ring" "first_in_ring" sR0 f fd) (enu:mg "enumerate" = none)
  (G1:Co P w K mg base CX0 2 fR1 fd1 ["forms"] (xJ CO ak CP) "lead_onward")
  (G3:Co P w K mg base CX0 3 fR3 fd3 ["onward"] xH "join_rings") :
  bK P w K mg base CX0 4 f fd ["forms"] (xK CO ak CP):=by
 refine F.ok pZ (fun vs H Q E h=>?_) (fun cdv A outer s H vs Q E hr h=>?_)
 ·obtain ⟨B,bs,whole,names,vs,fs,Dn,fl,rfl,_⟩:=h
  rfl
 ·obtain ⟨B,bs,whole,names,vs,fs,Dn,fl,rfl,st,hfl,hris,hnl,hvl,hwv,q⟩:=h
  have hr2:cB 2 _:=hr.mono (by decide)
  refine ⟨_,az (br (i:=1) pZ.nd rfl (.inl rfl) (cv G1 hr2 rfl cM (aj (pv 0) aL)))
   (az (br (i:=2) pZ.nd rfl (.inl rfl) (cv G3 hr rfl cM (aj (pv 1) aL)))
   (az (br (i:=3) pZ.nd rfl (.inl rfl) oW)
   (az (fm PassesOwn.never rfl (eN (pv 2)) (cy (i:=4) pZ.nd rfl (.inl rfl))
    (aH (kz (jw hr) (pv 3) (pv 4) (fH ir (t5 (jw hr) (pv 3) (pv 4) bh ⟨rfl,rfl,rfl,rfl⟩) bh) rfl)))
   (az (fm PassesOwn.never rfl (nj rfl enu (aj (pv 0) aL)) (p9 rfl (g6 (cy (i:=5) pZ.nd rfl (.inl rfl)) (g6 (cy (i:=6) pZ.nd rfl (.inl rfl)) nq)))
    (aH (bY (PW.pt (je (bo i9 (pv 5) (cK bM (pv 1) (pv 5) (fun _ _=>rfl)) (by with_unfolding_all rfl)) (gX (bo iJ (nv (jw hr) (pv 3) (cK bM (pv 2) (pv 5) (fun _ _=>rfl)) (fun _ _=>rfl)) bh (bA _)))))
     (aH (b9 (pv 6))) bF)))
   (aH (b9 jO)))))),?_⟩
  try dsimp only [cY];refine ⟨_,rfl,B,bs,whole,names,vs,fs,Dn,fl,rfl,st,hfl,hris,hnl,hvl,hwv,fun o g H1 ho on hg hsum s1=>?_⟩
  have hvlen:=mX vs
  have gok:=hg.ok (by rw [hnl,hvl])
  have hgl:g.length=fs.length:=by rw [hg.1,hvl]
  obtain ⟨q1,q0⟩:=q g hg
  obtain ⟨as,hon,hal,hai⟩:=id on
  refine ⟨_,rfl,o,g,rfl,on,gok,by omega,by omega,fun rg rs H2 hrl hdis hsc hrg hrs s2=>?_⟩
  have hrv:∀ i,i<g.length→∃ r,rs[i]? = some (some r):=fun i hi=>hdis i hi
  refine fun nu hnu=>?_
  have hnu1:=s2.free hnu
  have nrn:nu≠rg:=fun z=>by rw [z,hrs] at hnu;cases hnu
  refine ⟨_,rfl,rg,rfl,⟨_,SqL.of ((aa (aN nrn)).trans hrs)⟩,ia (xs:=rs.map oV) (fun i σ G=>∃ (v4 v5 v6:Option V) (e:List (Key×V)),σ=[some (.ref fl),some (.ref o),some (.ref rg),some (.ref nu),v4,v5,v6]∧bC H2 G∧G nu=some (.dK e)∧e.length≤i∧∀ r:Nat,eT e (.inl (r:Int))=if (rs.take i).count (some r)=0 then none else some (.int ((((rs.take i).count (some r)):Nat):Int))) ⟨none,none,none,[],rfl,fun b o e=>(aa (af e hnu)).trans e,au,aI _,fun r=>rfl⟩ ?_ ?_ ?_⟩
  ·rintro i σ G _ ⟨v4,v5,v6,e,rfl,kk,_⟩
   exact SqL.of (kk _ _ hrs)
  ·rintro i x σ G hx ⟨v4,v5,v6,e,rfl,kk,hGn,hel,hval⟩
   rw [aD] at hx;have hi:i<rs.length:=by
    cases er:rs[i]? with
    | none=>rw [er] at hx;cases hx
    | some y=>exact (ay.mp er).1
   obtain ⟨r,hr'⟩:=hrv i (by omega)
   rw [hr'] at hx;have hx:V.int (r:Int)=x:=aA hx
   subst hx;have et:rs.take (i+1)=rs.take i++[some r]:=by rw [cw,hr'];rfl
   have hc1:(rs.take (i+1)).count (some r)=(rs.take i).count (some r)+1:=by
    rw [et,List.count_append,gf];rfl
   have hc2:∀ r',r'≠r→(rs.take (i+1)).count (some r')=(rs.take i).count (some r'):=fun r' hne=>by
    rw [et,List.count_append,List.count_cons_of_ne (fun z=>hne (aA z).symm)]
    rfl
   have hget:(eT e (.inl (r:Int))).getD (V.int 0)=V.int ((((rs.take i).count (some r)):Nat):Int):=by
    rw [hval r];by_cases c:(rs.take i).count (some r)=0
    ·rw [ao c,c];rfl
    ·rw [ah c];rfl
   refine ⟨_,rfl,nu,rfl,.inl ⟨_,.inl hGn⟩,_,rfl,_,jq.k (k:=.inl (r:Int)) hGn,_,_,hget,rfl,?_⟩
   refine ⟨_,rfl,_,rfl,nu,_,rfl,lZ.k (k:=.inl (r:Int)) hGn (by rw [sizeLine_eq];omega),?_⟩
   refine ⟨_,v5,v6,fG e (.inl (r:Int)) (.int (((((rs.take i).count (some r)):Nat):Int)+1)),rfl,fun b o eb=>(aa (af eb hnu)).trans (kk _ _ eb),au,by have:=gK e (.inl (r:Int)) (V.int (((((rs.take i).count (some r)):Nat):Int)+1));omega,fun r'=>?_⟩
   rw [kM];by_cases c:r'=r
   ·subst c;rw [ao rfl,hc1,ah (by omega),show (((((rs.take i).count (some r'))+1):Nat):Int)=((((rs.take i).count (some r')):Nat):Int)+1 by omega]
   ·rw [ah (fun z=>c (by have z:(Sum.inl (r':Int):Key)=Sum.inl (r:Int):=z;injection z with z;omega)),hc2 r' c]
    exact hval r'
  rintro σ G ⟨v4,v5,v6,e,rfl,kk,hGn,hel,hval⟩
  rw [ae] at hval;rw [cZ] at hval;have sA:bC H G:=fun b o e=>kk _ _ (s2 _ _ (s1 _ _ e))
  refine ⟨_,rfl,fl,_,rfl,SqL.of (sA _ _ hfl),?_⟩
  refine lI (xs:=fs.map V.ref) (fun i σ G'=>∃ (w5 w6:Option V),σ=[some (.ref fl),some (.ref o),some (.ref rg),some (.ref nu),v4,w5,w6]∧bC G G'∧∀ j,j<i→¬Ri.Back g j) ⟨v5,v6,rfl,fun _ _ e=>e,fun j hj=>aP hj (cH _)⟩ ?_ ?_ ?_
  ·rintro i σ G' _ ⟨w5,w6,rfl,k4,_⟩
   exact SqL.of (k4 _ _ (sA _ _ hfl))
  ·rintro i x σ G' T hx ⟨w5,w6,rfl,k4,hno⟩ hT
   rw [aD] at hx;cases ea:fs[i]? with
   | none=>rw [ea] at hx;cases hx
   | some u =>
    rw [ea] at hx;have hx:V.ref u=x:=aA hx
    subst hx;have hi:i<fs.length:=(ay.mp ea).1
    have sT:bC G' (upd G' T (.tup [.int (i:Nat),V.ref u])):=fun b o e=>(aa (af e hT)).trans e
    have k5:=k4.trans sT
    obtain ⟨a,ha⟩:∃ a,as[i]? = some a:=⟨as[i]'(by omega),aB _⟩
    obtain ⟨r,hr'⟩:=hrv i (by omega)
    have hav:(as.map V.ref)[i]? = some (V.ref a):=by rw [aD,ha];rfl
    have hrv':(rs.map oV)[i]? = some (V.int (r:Int)):=by rw [aD,hr'];rfl
    have hback:=Ri.back_iff gok (i:=i) (by omega)
    refine ⟨T,_,rfl,SqT.of au,rfl,_,_,rfl,_,_,rfl,rfl,?_⟩
    refine ⟨_,rfl,_,rfl,_,rfl,o,_,(i:Int),_,rfl,rfl,SqL.of (k5 _ _ (kk _ _ (s2 _ _ hon))),dR hav,a,_,rfl,.inl (SqL.of (k5 _ _ (kk _ _ (s2 _ _ (hai i a ha))))),rfl,mG _,_,rfl,?_⟩
    show (if inV (.int (i:Int)) ((Ri.adj g i).map nV)=true then _ else _)
    rw [qY];by_cases c1:i∈Ri.adj g i
    ·rw [aq c1];exact cq (cq ⟨_,rfl,q1 i u _ ea (hback.mpr (.inl c1)) hno (sA.trans k5)⟩)
    ·rw [ax c1];have hcnt:rs.count (some r)≠0:=by
      have:=fA.mpr (bj hr')
      omega
     have hv:=hval r
     rw [ah hcnt] at hv;refine cp ⟨_,rfl,_,rfl,_,rfl,rg,_,(i:Int),_,rfl,rfl,SqL.of (k5 _ _ (kk _ _ hrs)),dR hrv',nu,_,rfl,(by rw [←hv];exact jq.k (k:=.inl (r:Int)) (k5 _ _ hGn)),_,_,rfl,rfl,_,rfl,?_⟩
     have h2:=mJ rs i (some r) hr'
     by_cases c2:1<rs.count (some r)
     ·rw [aq (by omega)]
      obtain ⟨j,hj1,hj2⟩:=h2.mp c2
      have hjl:j<g.length:=by rw [←hrl];exact (ay.mp hj2).1
      exact cq ⟨_,rfl,q1 i u _ ea (hback.mpr (.inr ⟨j,hjl,hj1,(hsc i j (by omega) hjl).mp (by rw [hr',hj2])⟩)) hno (sA.trans k5)⟩
     ·rw [ax (by omega)]
      refine cp ⟨_,_,rfl,k5,fun j hj=>?_⟩
      by_cases cj:j<i
      ·exact hno j cj
      ·have:j=i:=by omega
       subst this;intro z;rcases hback.mp z with z | ⟨y,hy1,hy2,hy3⟩
       ·exact c1 z
       ·exact c2 (h2.mpr ⟨y,hy2,by rw [←(hsc j y (by omega) hy1).mpr hy3];exact hr'⟩)
  ·rintro σ G' ⟨w5,w6,rfl,k4,hno⟩
   rw [ae] at hno;exact q0 _ (fun i hi=>hno i (by omega)) (sA.trans k4)
def Ch (CO:Addr) (Fm:Addr→Prop) (r:Addr→Nat) (G:Hp):Prop:=∀ f,Fm f→∃ fd:FD,iy CO G f fd∧(fd.shape=5→∃ u,fd.used = .ref u∧Fm u∧r u<r f)
theorem Ch.keep {CO:Addr} {Fm:Addr→Prop} {r:Addr→Nat} {G G':Hp} (h:Ch CO Fm r G) (k:∀ b o,G b=some o→Fm b→G' b=some o):Ch CO Fm r G':=fun f hf=>by
 obtain ⟨fd,⟨dx,e⟩,h2⟩:=h f hf
 exact ⟨fd,⟨dx,k _ _ e hf⟩,h2⟩
def xx (CO:Addr):Sp:=fun vs0 H Q _=>∃ (Fm:Addr→Prop) (r:Addr→Nat) (us:Addr) (ul:List Addr),vs0=[.ref us]∧H us=some (.lst (ul.map V.ref))∧(∀ a∈ul,Fm a)∧Ch CO Fm r H∧(∀ f,Fm f→r f≤100000)∧∀ H':Hp,Ch CO Fm r H'→(∀ b o,H b=some o→¬Fm b→H' b=some o)→Q .non H'
theorem rQ:bw ["uses","use","passed","form","before"] ["uses"] (a9 sSU):=fs_
theorem ok_SU {f:Addr} {fd:FuncData} (F:Fun K "shorten_uses" "shorten_uses" sSU f fd) (TF:TxF K mg CO ak):bK P w K mg base CX0 1 f fd ["uses"] (xx CO):=by
 refine F.ok rQ (fun vs H Q E h=>?_) (fun cdv A outer s H vs Q E hr h=>?_)
 ·obtain ⟨Fm,r,us,ul,rfl,_⟩:=h
  rfl
 ·obtain ⟨Fm,r,us,ul,rfl,hus,hul,ch,hrb,q⟩:=h
  refine ⟨_,aH (fm PassesOwn.never rfl (eN (pv 0)) (cy (i:=1) rQ.nd rfl (.inl rfl))
   (az (br (i:=2) rQ.nd rfl (.inl rfl) (dX aL))
   (az (br (i:=3) rQ.nd rfl (.inl rfl) (pv 1))
   (az (gy PassesOwn.never (bo d8 (aU (pv 3) rfl) (pgi TF.s5 rfl) (bA _))
    (az (b6 (g8 a7 PySem.F.slot_list_append PySem.F.type_list_append eI (pv 2) (aj (pv 3) aL)))
    (aH (br (i:=3) rQ.nd rfl (.inl rfl) (aU (pv 3) rfl)))))
   (aH (fm PassesOwn.never rfl (eN (pv 2)) (cy (i:=4) rQ.nd rfl (.inl rfl))
    (aH (bN (pv 4) (pv 3) rfl)))))))),?_⟩
  try dsimp only [cY]
  have nus:¬Fm us:=fun z=>by
   obtain ⟨fd,⟨dx,e⟩,_⟩:=ch us z
   rw [hus] at e
   cases e
  refine ⟨_,rfl,us,rfl,⟨_,SqL.of hus⟩,ia (xs:=ul.map V.ref) (fun i σ G=>∃ (v1 v2 v3 v4:Option V),σ=[some (.ref us),v1,v2,v3,v4]∧Ch CO Fm r G∧(∀ b o,H b=some o→¬Fm b→G b=some o)) ⟨none,none,none,none,rfl,ch,fun b o e _=>e⟩ ?_ ?_ ?_⟩
  ·rintro i σ G _ ⟨v1,v2,v3,v4,rfl,_,kk⟩
   exact SqL.of (kk _ _ hus nus)
  ·rintro i x σ G hx ⟨v1,v2,v3,v4,rfl,chG,kk⟩
   rw [aD] at hx
   cases ea:ul[i]? with
   | none=>rw [ea] at hx;cases hx
   | some u0 =>
    rw [ea] at hx
    have hx:V.ref u0=x:=aA hx
    subst hx
    have hu0:=hul u0 (bj ea)
    have hr0:=hrb u0 hu0
    refine ⟨(by show 0≤sizeLine;decide),fun pa hpa=>?_⟩
    have npa:¬Fm pa:=fun z=>by
     obtain ⟨fd,⟨dx,e⟩,_⟩:=chG pa z
     rw [hpa] at e
     cases e
    have hpaH:H pa=none∨Fm pa:=by
     cases e:H pa with
     | none=>exact .inl rfl
     | some o =>
      have:=kk _ _ e npa
      rw [hpa] at this
      cases this
    have hpaH:H pa=none:=hpaH.elim id (fun z=>aP z npa)
    have npu:pa≠us:=fun z=>by rw [z,hus] at hpaH;cases hpaH
    refine ⟨_,rfl,?_⟩
    refine ⟨fun m σ G1=>∃ (cur:Addr) (ps:List Addr) (w4:Option V),σ=[some (.ref us),some (.ref u0),some (.ref pa),some (.ref cur),w4]∧Fm cur∧G1 pa=some (.lst (ps.map V.ref))∧(∀ b∈ps,Fm b∧r cur<r b)∧(∀ b o,G b=some o→G1 b=some o)∧ps.length+r cur≤r u0∧m=r cur,
     ⟨_,u0,[],v4,rfl,hu0,au,fun b hb=>aP hb bG,fun b o e=>(aa (af e hpa)).trans e,by show 0+r u0≤r u0;omega,rfl⟩,?_⟩
    rintro m σ G1 ⟨cur,ps,w4,rfl,hcur,hGp,hps,k1,hle,hm⟩
    obtain ⟨fd,⟨dx,e⟩,hch⟩:=chG cur hcur
    have e1:=k1 _ _ e
    refine ⟨_,rfl,fd_ e1 TF.cO TF.nSh rfl ⟨rfl,_,rfl,?_⟩⟩
    by_cases h5:fd.shape=5
    ·rw [show decide (V.int ((fd.shape:Nat):Int)=V.int 5)=true by rw [h5];exact aq rfl]
     obtain ⟨u,hu1,hu2,hu3⟩:=hch h5
     have npc:cur≠pa:=fun z=>npa (z▸hcur)
     refine cq ⟨_,fun σ' G' h=>h,?_⟩
     refine ⟨_,rfl,.inl ⟨rfl,_,SqL.of hGp⟩,_,rfl,pa,_,_,rfl,rfl,hGp,by rw [ae,sizeLine_eq];omega,?_⟩
     refine ⟨_,rfl,fd_ ((aa npc).trans e1) TF.cO TF.nUs rfl ?_⟩
     refine ⟨r u,by omega,u,ps++[cur],w4,(by show [_,_,_,some fd.used,_]=_;rw [hu1]),hu2,?_,fun b hb=>?_,fun b o eb=>(aa (fun z=>by rw [z,hpa] at eb;cases eb)).trans (k1 _ _ eb),?_,rfl⟩
     ·rw [au,aO]
      rfl
     ·rcases aT.mp hb with hb | hb
      ·obtain ⟨h1,h2⟩:=hps b hb
       exact ⟨h1,by omega⟩
      ·rw [aJ] at hb
       rw [hb]
       exact ⟨hcur,hu3⟩
     ·rw [aG]
      show ps.length+1+r u≤r u0
      omega
    ·rw [show decide (V.int ((fd.shape:Nat):Int)=V.int 5)=false by rw [fT,ax (by omega)]]
     refine cp ⟨_,rfl,pa,rfl,⟨_,SqL.of hGp⟩,ia (xs:=ps.map V.ref) (fun i' σ G2=>∃ w4',σ=[some (.ref us),some (.ref u0),some (.ref pa),some (.ref cur),w4']∧Ch CO Fm r G2∧(∀ b o,G1 b=some o→¬Fm b→G2 b=some o)) ⟨w4,rfl,chG.keep fun b o eb _=>k1 _ _ eb,fun b o eb _=>eb⟩ ?_ ?_ ?_⟩
     ·rintro i' σ G2 _ ⟨w4',rfl,_,k2⟩
      exact SqL.of (k2 _ _ hGp npa)
     ·rintro i' y σ G2 hy ⟨w4',rfl,ch2,k2⟩
      rw [aD] at hy
      cases eb:ps[i']? with
      | none=>rw [eb] at hy;cases hy
      | some b =>
       rw [eb] at hy
       have hy:V.ref b=y:=aA hy
       subst hy
       obtain ⟨hb1,hb2⟩:=hps b (bj eb)
       obtain ⟨fdb,⟨dxb,e2⟩,_⟩:=ch2 b hb1
       refine ⟨_,rfl,_,rfl,b,CO,dxb,_,rfl,e2,TF.cO,TF.nUs,(by show 11<1000;decide),?_⟩
       refine ⟨_,rfl,fun g hg=>?_,fun c o ec hc=>(aa (fun (z:c=b)=>hc (by rw [z];exact hb1))).trans (k2 _ _ ec hc)⟩
       by_cases c:g=b
       ·subst c
        exact ⟨{ fdb with used:=.ref cur },⟨dxb,au⟩,fun _=>⟨cur,rfl,hcur,hb2⟩⟩
       ·obtain ⟨fdg,⟨dxg,e3⟩,h3⟩:=ch2 g hg
        exact ⟨fdg,⟨dxg,(aa c).trans e3⟩,h3⟩
     ·rintro σ G2 ⟨w4',rfl,ch2,k2⟩
      exact ⟨_,_,_,_,rfl,ch2,fun b o eb hb=>k2 _ _ (k1 _ _ (kk _ _ eb hb)) hb⟩
  ·rintro σ G ⟨v1,v2,v3,v4,rfl,chG,kk⟩
   exact q G chG kk
theorem uL {α:Type} {p q:α→Bool}:∀ {l:List α},(∀ x∈l,p x=true→q x=true)→(∃ x,x∈l∧q x=true∧p x=false)→l.countP p<l.countP q
 | [],_,⟨x,hx,_⟩=>by cases hx
 | a::l,h,⟨x,hx,h1,h2⟩=>by
  have hl:=List.countP_mono_left (l:=l) (p:=p) (q:=q) fun y hy=>h y (aR _ hy)
  rw [List.countP_cons,List.countP_cons];rcases aF.mp hx with rfl | hx
  ·rw [h1,h2,ao rfl,ah (by decide)]
   omega
  ·have h3:=uL (l:=l) (fun y hy=>h y (aR _ hy)) ⟨x,hx,h1,h2⟩
   have h4:(if p a=true then 1 else 0)≤(if q a=true then 1 else 0):=by
    by_cases c:p a=true
    ·rw [ao c,ao (h a a6 c)];exact aI _
    ·rw [ah c];exact a8 _
   omega
section
open Classical
noncomputable def rkV (names:List Sw.Bytes) (g:Ri.Gr) (v:Sw.Value):Nat:=(List.range g.length).countP fun i=>decide (∃ j n,n∈Fo.atV v∧names[j]? = some n∧Ri.Rch g j i)
theorem rk_lt {names:List Sw.Bytes} {vs:List Sw.Value} {g:Ri.Gr} {v u:Sw.Value} {j:Nat} {n:Sw.Bytes} (hg:Fo.Gsp names vs g) (hu:vs[j]? = some u) (hn:names[j]? = some n) (hv:n∈Fo.atV v) (nb:¬Ri.Back g j):rkV names g u<rkV names g v:=by
 have hj:j<g.length:=by rw [hg.1];exact (ay.mp hu).1
 refine uL (fun i _ h=>?_) ⟨j,fP.mpr hj,?_,?_⟩
 ·obtain ⟨j',n',h1,h2,h3⟩:=of_decide_eq_true h
  exact aq ⟨j,n,hv,hn,.step ((hg.2 j j').mpr ⟨u,n',hu,h1,h2⟩) h3⟩
 ·exact aq ⟨j,n,hv,hn,.refl j⟩
 ·refine ax fun ⟨j',n',h1,h2,h3⟩=>nb ⟨j',(hg.2 j j').mpr ⟨u,n',hu,h1,h2⟩,h3⟩
theorem rk_le (names:List Sw.Bytes) (g:Ri.Gr) (v:Sw.Value):rkV names g v≤g.length:=by
 have:=List.countP_le_length (p:=fun i=>decide (∃ j n,n∈Fo.atV v∧names[j]? = some n∧Ri.Rch g j i)) (l:=List.range g.length)
 rw [List.length_range] at this;exact this
noncomputable def rkA (names:List Sw.Bytes) (g:Ri.Gr) (Dn:List DR) (a:Addr):Nat:=if h:∃ d,d∈Dn∧d.f=a then rkV names g h.choose.v else 0
theorem p0 {names:List Sw.Bytes} {g:Ri.Gr} {Dn:List DR} (df:Dn.Pairwise fun a b=>a.f≠b.f) {d:DR} (hd:d∈Dn):rkA names g Dn d.f=rkV names g d.v:=by
 have h:∃ d',d'∈Dn∧d'.f=d.f:=⟨d,hd,rfl⟩
 unfold rkA;rw [dif_pos h,oX df h.choose_spec.1 hd h.choose_spec.2]
end
theorem ch_of {CO ak CP:Addr} {B G:Hp} {bs:List UInt8} {whole:Sw.Value} {names:List Sw.Bytes} {vs:List Sw.Value} {fs:List Addr} {Dn:List DR} {oth:List Addr} {g:Ri.Gr} (st:St CO ak CP B bs whole names vs fs G [] Dn oth) (hg:Fo.Gsp names vs g) (nb:∀ i,i<g.length→¬Ri.Back g i) :
  Ch CO (fun a=>∃ d,d∈Dn∧d.f=a) (rkA names g Dn) G∧∀ f,(∃ d,d∈Dn∧d.f=f)→rkA names g Dn f≤g.length:=by
 refine ⟨fun f hf=>?_,fun f hf=>?_⟩
 ·obtain ⟨d,hd,rfl⟩:=hf
  have dk:=st.dn d hd
  obtain ⟨fd,hfd,f1,f2,f3,f4⟩:=dk.at_
  refine ⟨fd,hfd,fun h5=>?_⟩
  have h5:d.sh=5:=f2.symm.trans h5
  obtain ⟨u,j,t,g1,g2,g3,g4⟩:=f4 h5
  obtain ⟨t',e1,e2,_⟩:=(Fo.own_at dk.ow).1 h5
  rw [g2] at e1;injection e1 with e1;subst e1;obtain ⟨d',hd',k1,k2,k3⟩:=st.book g4
  refine ⟨u,g1,⟨d',hd',k1⟩,?_⟩
  rw [←k1,p0 st.df hd,p0 st.df hd'];refine rk_lt hg k3 g3 (by rw [e2];exact aJ.mpr rfl) (nb j ?_)
  rw [hg.1];exact (ay.mp k3).1
 ·obtain ⟨d,hd,rfl⟩:=hf
  rw [p0 st.df hd];exact rk_le _ _ _
theorem yz {names:List Sw.Bytes} {p:List Nat} {v:Sw.Value} {st:List (List Nat×Sw.Value)} {r:Option (List Nat)} (h:Fo.Mc names ((p,v)::st) r):(Fo.own names v=none∧r=some p)∨∃ sh l,Fo.own names v=some (sh,l)∧Fo.Mc names (Fo.onto p l++st) r:=by
 cases h with
 | bad h=>exact .inl ⟨h,rfl⟩
 | step h m=>exact .inr ⟨_,_,h,m⟩
theorem uR:∀ (ns:List Sw.Bytes) (fs:List Addr),ns.length=fs.length→∀ (n:Sw.Bytes) (f:Addr),bkD (ns++[n]) (fs++[f])=bkD ns fs++[(kB n,V.ref f)]
 | [],[],_,n,f=>rfl
 | [],_::_,h,_,_=>by cases h
 | _::_,[],h,_,_=>by cases h
 | m::ns,u::fs,h,n,f=>by
  show (kB m,V.ref u)::bkD (ns++[n]) (fs++[f])=(kB m,V.ref u)::(bkD ns fs++[(kB n,V.ref f)])
  rw [uR ns fs (by simpa using h) n f]
theorem yP {ns:List Sw.Bytes} {fs:List Addr} (h:ns.length=fs.length) {n:Sw.Bytes} (hn:n∉ns) (f:Addr):fG (bkD ns fs) (kB n) (V.ref f)=bkD (ns++[n]) (fs++[f]):=by
 rw [uR ns fs h n f,oQ];refine (qv ns fs h n).2 ?_
 cases e:ns.contains n with
 | false=>rfl
 | true=>exact aP (eJ.mp e) hn
theorem kI:∀ (ns:List Sw.Bytes) (fs:List Addr),ns.length=fs.length→(bkD ns fs).map (·.2)=fs.map V.ref
 | [],[],_=>rfl
 | [],_::_,h=>by cases h
 | _::_,[],h=>by cases h
 | m::ns,u::fs,h=>by
  show V.ref u::(bkD ns fs).map (·.2)=V.ref u::fs.map V.ref
  rw [kI ns fs (by simpa using h)]
theorem yQ {ns:List Sw.Bytes} {fs:List Addr} (h:ns.length=fs.length):(bkD ns fs).length=fs.length:=by
 have:=congrArg List.length (kI ns fs h)
 rwa [ae,ae] at this
theorem sX:∀ m:Sw.Row,wV (Fo.vals m)=Pm.cntR m
 | .nil=>by rw [Pm.cntR_nil];rfl
 | .cons n v r=>by
  show (Pm.cntV v+1)+wV (Fo.vals r)=_
  rw [sX r,Pm.cntR_cons];omega
theorem bk_wt (v:Sw.Value):wV (Fo.vals (Fo.bkRow v))≤Pm.cntV v∧Fo.wtL (Fo.bkStack v)≤Pm.cntV v+1:=by
 rw [sX];unfold Fo.bkRow Fo.bkStack;by_cases hb:Fo.isBook v
 ·rw [ao hb,ao hb];obtain ⟨h1,h2⟩:=hb
  obtain ⟨h3,h4⟩:=eO h1
  match v,h3,h4 with
  | .rec_ (.cons n a (.cons k b .nil)),_,_ =>
   show Pm.cntR (Pm.rowOf a)≤_∧Fo.wtL (Fo.rowKids [0] 0 (Pm.rowOf a)++[([1],b)])≤_
   rw [Fo.wt_app,Fo.wt_row,←Pm.cnt_row,Fo.cnt_rec,Pm.cntR_cons,Pm.cntR_cons,Pm.cntR_nil];show _∧Pm.cntV a+(Pm.cntV b+1+0)≤_
   omega
 ·rw [ah hb,ah hb,Pm.cntR_nil];exact ⟨a8 _,aI _⟩
theorem wz {CO ak CP:Addr} {B H1 G:Hp} {bs:List UInt8} {whole:Sw.Value} {names:List Sw.Bytes} {vs:List Sw.Value} {fs:List Addr} {S:List KR} {bf:Addr} {o o':HO} (sB:bC B G) (kids:ic CO ak CP B H1 G bs whole S) (h0:B bf=none) (h1:H1 bf=some o) (h2:G bf=some o')
  (bk:∀ (j:Nat) (u:Addr),fs[j]? = some u→∃ v,vs[j]? = some v∧Kn S [] u ([0,j],v)):St CO ak CP B bs whole names vs fs G S [] [bf]:=by
 refine ⟨sB,fun k hk=>(kids.ok k hk).1,kids.dj,fun d hd=>aP hd bG,.nil,fun k hk d hd=>aP hd bG,bk,fun x hx=>?_⟩
 rw [aJ] at hx;subst hx;refine ⟨h0,⟨_,h2⟩,fun k hk=>?_,fun d hd=>aP hd bG⟩
 obtain ⟨_,a,b,c⟩:=kids.ok k hk
 exact ⟨aN (af h1 a),aN (af h1 b),aN (af h1 c)⟩
theorem vQ {ks S:List KR} {m:Sw.Row} (hk:ks.map KR.kd=Fo.rowKids [0] 0 m) (hS:∀ k∈ks,k∈S):∀ (j:Nat) (u:Addr),(ks.map KR.f)[j]? = some u→∃ v,(Fo.vals m)[j]? = some v∧Kn S [] u ([0,j],v):=fun j u e=>by
 rw [aD] at e;cases ek:ks[j]? with
 | none=>rw [ek] at e;cases e
 | some k =>
  rw [ek] at e;have e:k.f=u:=aA e
  have h:=congrArg (fun z=>z[j]?) hk
  simp only [aD,hJ] at h;rw [ek] at h;rw [Fo.vals_get];cases em:m.get? j with
  | none=>rw [em] at h;cases h
  | some x =>
   rw [em] at h;have h:k.kd=([0]++[0+j],x.2):=aA h
   refine ⟨x.2,rfl,.inl ⟨k,hS k (bj ek),e,?_⟩⟩
   rw [h,dA];rfl
def x8 (K:Fg_) (CP CB:Addr):Sp:=fun vs H Q E=>∃ (a m:Addr) (bs:List UInt8) (v:Sw.Value) (np:Nat) (n:List UInt8),vs=[.ref a,.ref m]∧SqL K H a (bs.map bv)∧bs.length≤65536∧Nd CP H bs m v 0 np n ∧
 (match Sw.bookOf v with
  | .error e=>iY E CB (v.placeOf e)
  | .ok _=>∀ (f:Addr) (H':Hp),Q (.ref f) H')
def BkI (CO ak CP:Addr) (B:Hp) (bs:List UInt8) (v:Sw.Value) (a m bf:Addr) (σ:L2.St) (G:Hp):Prop:=∃ (v4:Option V) (ks:List KR) (k0:KR),σ=[some (.ref a),some (.ref m),some (.ref bf),some (.ref k0.f),v4,none,none,none,none]∧(ks++[k0]).map KR.kd=Fo.bkStack v∧(Fo.bkRow v).names.length=ks.length ∧
 St CO ak CP B bs v (Fo.bkRow v).names (Fo.vals (Fo.bkRow v)) (ks.map KR.f) G (ks++[k0]) [] [bf]∧G bf=some (.dT (bkD (Fo.bkRow v).names (ks.map KR.f)))
theorem tS {k:KR} {S:List KR}:((k::S).map KR.rf).reverse=(S.map KR.rf).reverse++[KR.rf k]:=by rw [ba,cE]
theorem m7:bw ["row","whole","forms","start_form","part","unread","uses","form","ringed"] ["row","whole"] (a9 sBK):=fs_
theorem ok_BK {f fHN fF0 fR0 fSU:Addr} {fd fdH fdz fdR fdS:FuncData} (F:Fun K "read_book" "read_book" sBK f fd) (TP:TxP K mg CP) (TF:TxF K mg CO ak) (TW:TxW K mg CB) (mli:mg "list" = none) (mrv:mg "reversed" = none)
  (uc:iF K U CB fUB) (GB:bK P w K mg base CX0 2 fUB fdB ["self","place"] (jL CB 1 aWB)) (bB:bT K fdB ["self","place"] [])
  (M:Mk K CO fFO) (GO:bK P w K mg base CX0 1 fFO fdO ["self","part"] (pW CO ak)) (bO:bT K fdO ["self","part"] [])
  (GH:Co P w K mg base CX0 2 fHN fdH ["part","names"] (tJ K CP) "has_names")
  (G0:Co P w K mg base (CXF P w) 6 fF0 fdz ["row","form","book_forms"] (xY K CO ak CP CB) "read_form")
  (GR:Co P w K mg base CX0 4 fR0 fdR ["forms"] (xK CO ak CP) "first_in_ring")
  (GS:Co P w K mg base CX0 1 fSU fdS ["uses"] (xx CO) "shorten_uses") :
  bK P w K mg base (CXF P w) 7 f fd ["row","whole"] (x8 K CP CB):=by
 refine okX F m7 (fun vs H Q E h=>?_) (fun cdv A outer s H vs Q E hr h=>?_)
 ·obtain ⟨a,m,bs,v,np,n,rfl,_⟩:=h
  rfl
 ·obtain ⟨a,m,bs,v,np,n,rfl,hs,hz,nd,q⟩:=h
  have hr1:cB 1 _:=hr.mono (by decide)
  have hr2:cB 2 _:=hr.mono (by decide)
  have hr3:cB 3 _:=hr.mono (by decide)
  have hr4:cB 4 _:=hr.mono (by decide)
  refine ⟨_,az (br (i:=2) m7.nd rfl (.inl rfl) oU)
   (az (br (i:=3) m7.nd rfl (.inl rfl) (gn (E:=E) M GO hr2 rfl TF.mO bO .nil cM (aj (pv 1) aL)))
   (az (bY (PW.pt (jM (cN (cv GH hr2 rfl cM (aj (pv 1) (aj (fq (aj fX (aj fX aL))) aL))) (fun _=>rfl))
     (i8 (bo d8 (aU (cK bM (aU (pv 1) rfl) bh (fun _ _=>rfl)) rfl) (pgi TW.k6 rfl) (bA _)))))
    (az (fm PassesOwn.leaving rfl (eN (aU (cK bM (aU (pv 1) rfl) bh (fun _ _=>rfl)) rfl)) (cy (i:=4) m7.nd rfl (.inl rfl))
     (aH (kz (jw hr) (pv 2) (g7 gY rfl TW.tup PyProof.Rows.boot_tuple (aj (aU (pv 4) rfl) aL)) (gn (E:=E) M GO hr2 rfl TF.mO bO .nil cM (aj (pv 4) aL)) rfl)))
    (aH (br (i:=3) m7.nd rfl (.inl rfl) (gn (E:=E) M GO hr2 rfl TF.mO bO .nil cM (aj (cK bM (aU (pv 1) rfl) bh (fun _ _=>rfl)) aL))))) bF)
   (az (br (i:=5) m7.nd rfl (.inl rfl) (k9 rfl rfl mli rfl mrv (aj (fH qO (g7 (lN rfl) rfl mli jo (aj (jk PySem.F.plainAttrs_dict PySem.F.slot_dict_values PySem.F.type_dict_values mw (pv 2)) aL)) (dX (aj (pv 3) aL))) aL)))
   (az (br (i:=6) m7.nd rfl (.inl rfl) (dX aL))
   (az (gy PassesOwn.leaving (cN (pv 5) (fun _=>rfl))
    (az (br (i:=7) m7.nd rfl (.inl rfl) (jk a7 PySem.F.slot_list_pop PySem.F.type_list_pop lu (pv 5)))
    (az (b6 (cv G0 hr rfl dC (aj (pv 0) (aj (pv 7) (aj (pv 2) aL)))))
    (az (bY (bo d8 (aU (pv 7) rfl) (pgi TF.s5 rfl) (bA _))
     (aH (b6 (g8 a7 PySem.F.slot_list_append PySem.F.type_list_append eI (pv 6) (aj (pv 7) aL)))) bF)
    (aH (b6 (g8 a7 PySem.F.slot_list_extend PySem.F.type_list_extend jS (pv 5) (aj (k9 rfl rfl mli rfl mrv (aj (aU (pv 7) rfl) aL)) aL))))))))
   (az (br (i:=8) m7.nd rfl (.inl rfl) (cv GR hr4 rfl cM (aj (g7 (lN rfl) rfl mli jo (aj (jk PySem.F.plainAttrs_dict PySem.F.slot_dict_values PySem.F.type_dict_values mw (pv 2)) aL)) aL)))
   (az (bY (tX (vJ (pv 8)))
    (aH (dW uc GB bB rfl hr3 ck rfl rfl TW.mB (aj (aU (aU (pv 8) rfl) rfl) aL) (by decide))) bF)
   (az (b6 (cv GS hr1 rfl cM (aj (pv 6) aL)))
   (aH (b9 (pv 3))))))))))),?_⟩
  try dsimp only [cY];refine e4_ nd.pt fun nl l as dx=>c5_ fun hnl hm hl hal hmem=>?_
  have hcn:Pm.cntV v+1≤65536:=by
   have h1:=Pm.cntV_le v
   have h2:=nd.at_.le
   omega
  have hpl:=nd.pl
  obtain ⟨hw1,hw2⟩:=bk_wt v
  have hwl:=mX (Fo.vals (Fo.bkRow v))
  obtain ⟨r0,hmc,hre,hrn⟩:∃ r0,Fo.Mc (Fo.bkRow v).names (Fo.bkStack v) r0∧(∀ e,r0=some e→Sw.bookOf v = .error e)∧(r0=none→∃ b,Sw.readBook v = .ok b):=by
   have hrd:=Fo.read_book hpl
   unfold Sw.bookOf;cases e:Sw.readBook v with
   | error x =>
    rw [e] at hrd;exact ⟨some x,hrd,fun y z=>by rw [←aA z],fun z=>(by cases z)⟩
   | ok b =>
    rw [e] at hrd;exact ⟨none,hrd.1,fun y z=>(by cases z),fun _=>⟨b,rfl⟩⟩
  refine fun bf hbf=>?_
  generalize hH1:upd H bf (.dT [])=H1;have sH1:bC H H1:=fun b o e=>by rw [←hH1];exact (aa (af e hbf)).trans e
  have hb1:H1 bf=some (.dT []):=by rw [←hH1];exact au
  refine ⟨_,rfl,fun g gx hg hgx ngx=>iu hg hgx ngx fun nm ins G1 mk=>⟨rfl,?_⟩⟩
  dsimp only [lH];refine oA (BkI CO ak CP H bs v a m bf) (fun σ' G I=>?_) (fun go=>?_)
  ·refine e3_ I fun v4 ks k0=>c5_ fun z44_ hkd hnl' st0 hGb=>?_
   subst z44_;have hfs:(Fo.bkRow v).names.length=(ks.map KR.f).length:=by rw [ae];exact hnl'
   have hvl:(Fo.vals (Fo.bkRow v)).length=ks.length:=by rw [Fo.vals_len,←hnl',dF]
   refine ⟨_,rfl,.inr (.inr (.inl ⟨rfl,.inr ⟨_,hGb⟩⟩)),bf,_,rfl,rfl,hGb,fun vw hvw=>?_⟩
   have s2:bC G (upd G vw (lR vw bf)):=fun b o e=>(aa (af e hvw)).trans e
   refine ⟨vw,bf,_,rfl,au,s2 _ _ hGb,fun fl hfl=>?_⟩
   rw [kI _ _ hfs];generalize hG3:upd (upd G vw (lR vw bf)) fl (.lst ((ks.map KR.f).map V.ref))=G3;have s3:bC G G3:=fun b o e=>by rw [←hG3];exact (aa (af (s2 _ _ e) hfl)).trans (s2 _ _ e)
   have h3:G3 fl=some (.lst ((ks.map KR.f).map V.ref)):=by rw [←hG3];exact au
   refine ⟨_,rfl,(by show 1≤sizeLine;decide),fun sl hsl=>?_⟩
   refine ⟨fl,sl,_,_,rfl,rfl,SqL.of ((aa (af h3 hsl)).trans h3),SqL.of au,?_,fun cl hcl=>?_⟩
   ·rw [ae,ae,sizeLine_eq];show ks.length+1≤_
    omega
   generalize hG5:upd (upd G3 sl (.lst [.ref k0.f])) cl _=G5;have s5:bC G G5:=fun b o e=>by
    have e3:=s3 _ _ e
    have e4:upd G3 sl (.lst [.ref k0.f]) b=some o:=(aa (af e3 hsl)).trans e3
    rw [←hG5];exact (aa (af e4 hcl)).trans e4
   have h5:=(congrFun hG5 cl).symm.trans au
   refine ⟨cl,_,rfl,SqL.of h5,fun un hun=>?_⟩
   have st6:=(st0.same s5).add hun (.lst (((ks++[k0]).map KR.rf).reverse))
   have el:(ks.map KR.f).map V.ref++[V.ref k0.f]=(ks++[k0]).map KR.rf:=by rw [aO,eD];rfl
   rw [el];generalize hG6:upd G5 un (.lst (((ks++[k0]).map KR.rf).reverse))=G6 at st6 ⊢;have hu6:G6 un=some (.lst (((ks++[k0]).map KR.rf).reverse)):=by rw [←hG6];exact au
   have hb6:G6 bf=some (.dT (bkD (Fo.bkRow v).names (ks.map KR.f))):=by rw [←hG6];exact (aa (af (s5 _ _ hGb) hun)).trans (s5 _ _ hGb)
   refine ⟨(by show 0≤sizeLine;decide),fun us hus=>?_⟩
   have nus:un≠us:=af hu6 hus
   have nbu:bf≠us:=af hb6 hus
   refine ⟨fun mm σ G=>∃ (v7:Option V) (S:List KR) (Dn:List DR) (ul:List Addr),σ=[some (.ref a),some (.ref m),some (.ref bf),some (.ref k0.f),v4,some (.ref un),some (.ref us),v7,none]∧St CO ak CP H bs v (Fo.bkRow v).names (Fo.vals (Fo.bkRow v)) (ks.map KR.f) G S Dn [us,un,bf]∧G bf=some (.dT (bkD (Fo.bkRow v).names (ks.map KR.f)))∧G un=some (.lst (S.map KR.rf).reverse)∧G us=some (.lst (ul.map V.ref))∧(∀ x∈ul,∃ d,d∈Dn∧d.f=x)∧Fo.Mc (Fo.bkRow v).names (S.map KR.kd) r0∧Fo.wtL (S.map KR.kd)+ul.length≤65537∧mm=Fo.wtL (S.map KR.kd),
    ⟨_,none,ks++[k0],[],[],rfl,st6.add hus (.lst []),(aa nbu).trans hb6,(aa nus).trans hu6,au,fun x hx=>aP hx bG,by rw [hkd];exact hmc,by rw [hkd];show _+0≤_;omega,rfl⟩,?_⟩
   intro mm σ G' z45_
   refine e4_ z45_ fun v7 S Dn ul=>c9_ fun z46_ st hbG huG hsG hul hmc' hwt hmm=>?_
   subst z46_;refine ⟨_,rfl,_,.inl ⟨_,SqL.of huG,rfl⟩,?_⟩
   cases S with
   | nil =>
    have hr0:r0=none:=by
     have z:Fo.Mc (Fo.bkRow v).names [] r0:=hmc'
     cases z;rfl
    obtain ⟨b,hb⟩:=hrn hr0
    refine cp ⟨_,rfl,.inr (.inr (.inl ⟨rfl,.inr ⟨_,hbG⟩⟩)),bf,_,rfl,rfl,hbG,fun vw hvw=>?_⟩
    have s2:bC G' (upd G' vw (lR vw bf)):=fun b o e=>(aa (af e hvw)).trans e
    refine ⟨vw,bf,_,rfl,au,s2 _ _ hbG,fun fl hfl=>?_⟩
    rw [kI _ _ hfs];generalize hG3:upd (upd G' vw (lR vw bf)) fl (.lst ((ks.map KR.f).map V.ref))=G3;have s3:bC G' G3:=fun b o e=>by rw [←hG3];exact (aa (af (s2 _ _ e) hfl)).trans (s2 _ _ e)
    have h3:G3 fl=some (.lst ((ks.map KR.f).map V.ref)):=by rw [←hG3];exact au
    refine ⟨H,bs,v,_,_,_,Dn,fl,rfl,(st.same s3).less,h3,Fo.names_rise hpl,hfs,by rw [ae];exact hvl,by omega,fun g hg=>?_⟩
    obtain ⟨r1,r2⟩:=Fo.book_ring hpl hb hg
    refine ⟨fun i u H' hu hbk hfst sm=>?_,fun H' hno sm=>?_⟩
    ·have hi:i<g.length:=by
      rw [hg.1,hvl,←ae (f:=KR.f)]
      exact (ay.mp hu).1
     rw [r1 i hi hbk hfst] at q;have q:iY E CB (v.placeOf [0,i]):=q
     obtain ⟨d,hd,e1,e2,e3⟩:=st.book hu
     have dk:=st.dn d hd
     obtain ⟨fdd,⟨fx,hf⟩,f1,_⟩:=dk.at_
     obtain ⟨np',n',nd'⟩:=dk.nd
     obtain ⟨nl',l',as',dx',_,hm',_⟩:=nd'.pt
     have sA:=s3.trans sm
     subst e1;have ep:v.placeOf [0,i]=d.p:=by
      have:=dk.wa.2
      rw [e2] at this;exact this
     rw [ep] at q;refine ⟨_,rfl,_,rfl,?_⟩
     rw [show decide (V.ref d.f=V.non)=false from ax (fun z=>by cases z)]
     exact cq ⟨_,rfl,fd_ (sA _ _ hf) TF.cO TF.nPa rfl (fd_ (by rw [f1];exact sA _ _ (st.sB _ _ hm')) TP.cP TP.nPl rfl ⟨rfl,q⟩)⟩
    ·rw [r2 hno] at q;have q:∀ (f:Addr) (H':Hp),Q (.ref f) H':=q
     have sA:=s3.trans sm
     obtain ⟨c1,c2⟩:=ch_of (st.same sA) hg hno
     refine ⟨_,rfl,_,rfl,?_⟩
     rw [show decide (V.non=V.non)=true from aq rfl];refine cp ⟨_,rfl,_,_,us,ul,rfl,sA _ _ hsG,hul,c1,fun f hf=>?_,fun H'' _ _=>⟨_,rfl,q _ _⟩⟩
     have:=c2 f hf
     rw [hg.1] at this;omega
   | cons k S =>
    rw [tS] at huG ⊢;rw [show (!((S.map KR.rf).reverse++[KR.rf k]).isEmpty)=true by simp]
    refine cq ⟨_,fun σ' G' h=>h,?_⟩
    refine ⟨_,rfl,.inl ⟨rfl,_,SqL.of huG⟩,un,_,KR.rf k,rfl,rfl,huG,?_,?_⟩
    ·rw [aG];show ((S.map KR.rf).reverse++[KR.rf k])[(S.map KR.rf).reverse.length+1 - 1]? = _
     rw [eC,bW (aI _),dB];rfl
    rw [show ((S.map KR.rf).reverse++[KR.rf k]).dropLast=(S.map KR.rf).reverse from dU];have nbn:bf≠un:=fun z=>by rw [z,huG] at hbG;cases hbG
    have st1:=st.other (x:=un) (by simp) (.lst (S.map KR.rf).reverse)
    generalize hG1:upd G' un (.lst (S.map KR.rf).reverse)=G1 at st1 ⊢;have hb1':G1 bf=some (.dT (bkD (Fo.bkRow v).names (ks.map KR.f))):=by rw [←hG1];exact (aa nbn).trans hbG
    have hu1:G1 un=some (.lst (S.map KR.rf).reverse):=by rw [←hG1];exact au
    have hs1:G1 us=some (.lst (ul.map V.ref)):=by rw [←hG1];exact (aa (aN nus)).trans hsG
    have pk:=st1.po k a6
    have hwk:Fo.wtL ((k::S).map KR.kd)=(Pm.cntV k.v+1)+Fo.wtL (S.map KR.kd):=rfl
    refine ⟨_,rfl,_,rfl,_,rfl,H,a,bf,bs,v,_,_,k,rfl,st1.sB,hs,hz,pk,hb1',hfs,?_⟩
    rcases yz hmc' with ⟨ho,hr⟩ | ⟨sh,ll,ho,hm'⟩
    ·rw [hre _ hr] at q;have q:iY E CB (v.placeOf k.path):=q
     rw [pk.wa.2] at q;rw [ho];exact q
    rw [ho];intro G2 aft;refine e3_ (st1.step ho aft) fun kk d fdd=>c9_ fun st2 e1 e2 e3 hfd f2 f3 hins hoth=>?_
    have hb2:=(hoth bf (by simp)).trans hb1'
    have hu2:=(hoth un (by simp)).trans hu1
    have hs2:=(hoth us (by simp)).trans hs1
    obtain ⟨fx,hf⟩:=hfd
    have ndu:=(st2.ok us (by simp)).2.2.2 d a6
    have hwl2:=Fo.own_wt ho
    dsimp only;refine oA (fun σ' G3=>∃ ul':List Addr,σ'=[some (.ref a),some (.ref m),some (.ref bf),some (.ref k0.f),v4,some (.ref un),some (.ref us),some (.ref k.f),none]∧St CO ak CP H bs v (Fo.bkRow v).names (Fo.vals (Fo.bkRow v)) (ks.map KR.f) G3 (kk++S) (d::Dn) [us,un,bf]∧G3 bf=some (.dT (bkD (Fo.bkRow v).names (ks.map KR.f)))∧G3 un=some (.lst (S.map KR.rf).reverse)∧G3 us=some (.lst (ul'.map V.ref))∧(∀ x∈ul',∃ d',d'∈d::Dn∧d'.f=x)∧ul'.length≤ul.length+1∧iy CO G3 k.f fdd∧G3 d.ins=some (.lst (kk.map KR.rf))) ?_ (fun go2=>?_)
    ·intro σ' G3 z47_
     refine Exists.elim z47_ fun ul'=>c9_ fun z48_ st3 hb3 hu3 hs3 hul' hll z49_ hins3=>?_
     subst z48_;obtain ⟨fx3,hf3⟩:=z49_
     refine ⟨_,rfl,.inl ⟨rfl,_,SqL.of hu3⟩,_,rfl,fd_ hf3 TF.cO TF.nIn rfl ⟨d.ins,_,congrArg (fun z=>[z]) f3,SqL.of hins3,fun x hx=>?_⟩⟩
     have sx:bC G3 (upd G3 x (.lst (kk.map KR.rf).reverse)):=fun b o e=>(aa (af e hx)).trans e
     have hkl:kk.length=ll.length:=by
      have:=congrArg List.length e2
      rw [ae] at this;rw [this];exact ae _
     have hl1:=Fo.wt_len ll
     have hl2:=Fo.wt_len (S.map KR.kd)
     rw [ae] at hl2;refine ⟨un,x,_,_,rfl,rfl,sx _ _ hu3,au,?_,?_⟩
     ·rw [cT,cT,ae,ae,sizeLine_eq];omega
     have st4:=(st3.same sx).other (x:=un) (by simp) (.lst ((S.map KR.rf).reverse++(kk.map KR.rf).reverse))
     have hwn:Fo.wtL ((kk++S).map KR.kd)=Fo.wtL ll+Fo.wtL (S.map KR.kd):=by rw [aO,Fo.wt_app,e2,Fo.wt_onto]
     refine ⟨Fo.wtL ((kk++S).map KR.kd),by rw [hwn];omega,_,kk++S,d::Dn,ul',rfl,st4,(aa nbn).trans (sx _ _ hb3),?_,(aa (aN nus)).trans (sx _ _ hs3),hul',?_,by rw [hwn];omega,rfl⟩
     ·rw [au,aO,List.reverse_append]
     ·rw [aO,e2];exact hm'
    ·refine ⟨_,rfl,fd_ hf TF.cO TF.nSh rfl ⟨rfl,_,rfl,?_⟩⟩
     have base0:∀ x∈ul,∃ d',d'∈d::Dn∧d'.f=x:=fun x hx=>by
      obtain ⟨d',h1,h2⟩:=hul x hx
      exact ⟨d',aR _ h1,h2⟩
     by_cases h5:fdd.shape=5
     ·rw [show decide (V.int ((fdd.shape:Nat):Int)=V.int 5)=true by rw [h5];exact aq rfl]
      refine cq ⟨_,rfl,.inl ⟨rfl,_,SqL.of hs2⟩,_,rfl,us,_,_,rfl,rfl,hs2,by rw [ae,sizeLine_eq];omega,?_⟩
      refine go2 _ _ ⟨ul++[k.f],rfl,st2.other (x:=us) (by simp) _,(aa nbu).trans hb2,(aa nus).trans hu2,?_,fun x hx=>?_,by rw [aG];exact aI _,⟨fx,(aa (fun z=>ndu.1 (e1.trans z))).trans hf⟩,(aa ndu.2).trans hins⟩
      ·rw [au,aO];rfl
      ·rcases aT.mp hx with hx | hx
       ·exact base0 x hx
       ·rw [aJ] at hx;exact ⟨d,a6,by rw [hx];exact e1⟩
     ·rw [show decide (V.int ((fdd.shape:Nat):Int)=V.int 5)=false by rw [fT,ax (by omega)]]
      exact cp (go2 _ _ ⟨ul,rfl,st2,hb2,hu2,hs2,base0,Nat.le_succ _,⟨fx,hf⟩,hins⟩)
  ·have s1:bC H G1:=sH1.trans mk.sm
   have hb2:G1 bf=some (.dT []):=mk.sm _ _ hb1
   have vr:∀ (i:Nat) (a:Addr),as[i]? = some a→(as.map V.ref)[i]? = some (V.ref a):=fun i a e=>by rw [aD,e];rfl
   refine ⟨_,rfl,(by show 2≤sizeLine;decide),gp (E:=E0) (ws:=[Fo.W "forms",Fo.W "start"]) s1 (fun _ _ e=>e) nd hz (by rw [ve,vc];rfl) (by decide) (by decide) fun G sG=>?_⟩
   have sG1:=s1.trans sG
   have no:¬Fo.isBook v→BkI CO ak CP H bs v a m bf [some (.ref a),some (.ref m),some (.ref bf),some (.ref g),none,none,none,none,none] G:=fun hnb=>by
    have e1:Fo.bkRow v = .nil:=ah hnb
    have e2:Fo.bkStack v=[([],v)]:=ah hnb
    have kids:=(ic.nil (CO:=CO) (ak:=ak) (CP:=CP) (B:=H) (H:=H1) (G:=H1) (bs:=bs) (whole:=v)).snoc (fun b e=>e) sH1 mk ⟨_,_,nd⟩ (Fo.Wat.top v)
    have kids':=kids.fresh (G':=G) fun b o e _=>sG _ _ e
    unfold BkI;rw [e1,e2];exact ⟨none,[],⟨g,m,nm,ins,[],v,0⟩,rfl,rfl,rfl,wz sG1 kids' hbf hb1 (sG _ _ hb2) (fun j u e=>(by cases e)),sG _ _ hb2⟩
   cases hb:Fo.hasN v [Fo.W "forms",Fo.W "start"] with
   | false=>exact cp (cp (go _ _ (no (Fo.not_book hb))))
   | true =>
    obtain ⟨k6,k2⟩:=eO hb
    have k2:(Pm.rowOf v).length=2:=k2
    obtain ⟨a0,e0⟩:∃ a0,as[0]? = some a0:=⟨as[0]'(by omega),aB _⟩
    obtain ⟨a1,e1⟩:∃ a1,as[1]? = some a1:=⟨as[1]'(by omega),aB _⟩
    refine e3_ (hmem 0 a0 e0) fun n0 w0 np0=>c2_ fun em0 nd0=>?_
    refine e3_ (hmem 1 a1 e1) fun n1 w1 np1=>c2_ fun em1 nd1=>?_
    refine e4_ nd0.pt fun nl0 l0 as0 dx0=>c5_ fun hnl0 hm0 hl0 hal0 hmem0=>?_
    have wa0:=(Fo.Wat.top v).mem em0
    have wa1:=(Fo.Wat.top v).mem em1
    refine cq ⟨_,rfl,fd_ (sG1 _ _ hm) TP.cP TP.nMe rfl ⟨l,_,_,V.ref a0,rfl,rfl,SqL.of (sG1 _ _ hl),fK (j:=0) rfl (vr 0 a0 e0),fd_ (sG1 _ _ hm0) TP.cP TP.nKi rfl ⟨rfl,_,rfl,?_⟩⟩⟩
    by_cases h6:w0.kind=6
    case neg =>
     rw [show decide (V.int ((Pm.pdOf w0 (Pm.mplace v 0 0) np0 n0.length).kind:Int)=V.int 6)=false by rw [gk,fT,ax (by omega)]]
     exact cp (go _ _ (no fun z=>h6 (by rw [←ft em0];exact z.2)))
    rw [show decide (V.int ((Pm.pdOf w0 (Pm.mplace v 0 0) np0 n0.length).kind:Int)=V.int 6)=true by rw [gk,h6];exact aq rfl]
    have hbk:Fo.isBook v:=⟨hb,by rw [ft em0];exact h6⟩
    have er:Fo.bkRow v=Pm.rowOf w0:=by unfold Fo.bkRow;rw [ao hbk,ft em0]
    have es:Fo.bkStack v=Fo.rowKids [0] 0 (Pm.rowOf w0)++[([1],w1)]:=by unfold Fo.bkStack;rw [ao hbk,ft em0,ft em1]
    have hris:Sw.rising (Pm.rowOf w0).names=true:=by rw [←er];exact Fo.names_rise hpl
    have sh0:=g5 nd0
    have kpG:Kp H1 G bf:=fun b o e _=>sG _ _ (mk.sm _ _ e)
    refine cq ⟨_,rfl,fd_ (sG1 _ _ hm) TP.cP TP.nMe rfl ⟨l,_,_,V.ref a0,rfl,rfl,SqL.of (sG1 _ _ hl),fK (j:=0) rfl (vr 0 a0 e0),fd_ (sG1 _ _ hm0) TP.cP TP.nMe rfl ⟨l0,rfl,⟨_,SqL.of (sG1 _ _ hl0)⟩,ia (xs:=as0.map V.ref) (fun i σ G'=>∃ (v4:Option V) (ks:List KR),σ=[some (.ref a),some (.ref m),some (.ref bf),some (.ref g),v4,none,none,none,none]∧Kp H1 G' bf∧ic CO ak CP H H1 G' bs v ks∧ks.length=i∧ks.map KR.kd=(Fo.rowKids [0] 0 (Pm.rowOf w0)).take i∧G' bf=some (.dT (bkD ((Pm.rowOf w0).names.take i) (ks.map KR.f)))) ⟨none,[],rfl,kpG,.nil,rfl,rfl,sG _ _ hb2⟩ ?_ ?_ ?_⟩⟩⟩
    ·rintro i σ G' _ ⟨v4,ks,rfl,kp,_⟩
     exact SqL.of (iq sH1 hbf kp _ _ hl0)
    ·intro i x σ G' hx z50_
     refine e2_ z50_ fun v4 ks=>c6_ fun z51_ kp kids hkl hkd hGb=>?_
     subst z51_;rw [aD] at hx;cases ea:as0[i]? with
     | none=>rw [ea] at hx;cases hx
     | some b =>
      rw [ea] at hx;have hx:V.ref b=x:=aA hx
      subst hx;refine e3_ (hmem0 i b ea) fun n' w' np'=>c2_ fun em' nd'=>?_
      refine e4_ nd'.pt fun nlb lb asb dxb=>c3_ fun hnlb hmb _=>?_
      have em'':=em'
      rw [Pm.member_eq] at em''
      have hi:i<as0.length:=(ay.mp ea).1
      have hni:(Pm.rowOf w0).names[i]? = some n':=by rw [iL,em''];rfl
      have hln:((Pm.rowOf w0).names.take i).length=(ks.map KR.f).length:=by
       rw [aY,dF,ae];omega
      refine ⟨_,rfl,fun g' gx' hg' hgx' ngx'=>iu hg' hgx' ngx' fun nm' ins' G4 mk4=>⟨rfl,?_⟩⟩
      have hk4:=kids.snoc (fun c hc=>kp.free ⟨_,hGb⟩ hc) sH1 mk4 ⟨_,_,nd'⟩ (path:=[]++[0]++[i]) (wa0.mem em')
      have kp4:Kp H1 G4 bf:=fun c o e nc=>mk4.sm _ _ (kp _ _ e nc)
      have s4:=iq sH1 hbf kp4
      have hGb4:=mk4.sm _ _ hGb
      refine ⟨_,rfl,_,rfl,fd_ (s4 _ _ hmb) TP.cP TP.nNl rfl ⟨nlb,_,rfl,.inl ⟨SqL.of (s4 _ _ hnlb),fun y hy=>?_⟩⟩⟩
      have sy:bC G4 (upd G4 y (.tup (n'.map bv))):=fun b o e=>(aa (af e hy)).trans e
      refine ⟨bf,_,rfl,lZ.t (k:=kB n') (sy _ _ hGb4) (by rw [ux];exact au) (by rw [yQ hln,ae,sizeLine_eq];omega),?_⟩
      rw [yP hln (fun z=>?_) g']
      ·refine ⟨_,ks++[KR.mk g' b nm' ins' ([]++[0]++[i]) w' (Pm.mplace w0 (Pm.mplace v 0 0) i)],rfl,fun c o e nc=>(aa nc).trans (sy _ _ (kp4 _ _ e nc)),hk4.fresh (fun c o e hc=>(aa (fun z=>by rw [z,hb1] at hc;cases hc)).trans (sy _ _ e)),by rw [aG,hkl];rfl,?_,?_⟩
       ·rw [aO,hkd,cw,hJ,em''];show _++[(_,w')]=_++[([0]++[0+i],w')]
        rw [dA];rfl
       ·rw [au,aO,cw,hni];rfl
      ·obtain ⟨j,hj⟩:=eP z
       rw [List.getElem?_take] at hj;split at hj
       ·rename_i hji
        have:=Fo.rise_nodup hris hj hni
        omega
       ·cases hj
    ·intro σ G' z52_
     refine e2_ z52_ fun v4 ks=>c6_ fun z53_ kp kids hkl hkd hGb=>?_
     subst z53_;rw [ae] at hkl hkd hGb;rw [bJ (by rw [gb,hal0];exact aI _)] at hkd
     rw [bJ (by rw [dF,hal0];exact aI _)] at hGb
     have s5:=iq sH1 hbf kp
     refine ⟨_,rfl,fd_ (s5 _ _ hm) TP.cP TP.nMe rfl ⟨l,_,_,V.ref a1,rfl,rfl,SqL.of (s5 _ _ hl),fK (j:=1) rfl (vr 1 a1 e1),fun g' gx' hg' hgx' ngx'=>iu hg' hgx' ngx' fun nm' ins' G4 mk4=>⟨rfl,?_⟩⟩⟩
     have hk4:=kids.snoc (fun c hc=>kp.free ⟨_,hGb⟩ hc) sH1 mk4 ⟨_,_,nd1⟩ (path:=[]++[1]) wa1
     refine go _ _ ?_
     unfold BkI;rw [er,es];refine ⟨v4,ks,KR.mk g' a1 nm' ins' ([]++[1]) w1 (Pm.mplace v 0 1),rfl,?_,?_,wz (s5.trans mk4.sm) hk4 hbf hb1 (mk4.sm _ _ hGb) (vQ hkd fun k hk=>cz _ hk),mk4.sm _ _ hGb⟩
     ·rw [aO,hkd];rfl
     ·rw [dF,←hal0,hkl]
def px (v:Sw.Value):List Int:=match Sw.bookOf v with
 | .error e=>[-5,((v.placeOf e:Nat):Int)]
 | .ok _=>[0]
def rj (bs:List UInt8):List Int:=match Sw.decode bs with
 | .ok v=>px v
 | .error _=>[-6]
def spFM (K:Fg_):Sp:=fun vs H Q _=>∃ (a:Addr) (bs:List UInt8),vs=[.ref a]∧SqL K H a (bs.map bv)∧bs.length≤65536∧∀ (H':Hp) (p:Addr),H' p=some (.lst ((rj bs).map V.int))→Q (.ref p) H'
theorem scFM:bw ["f","refusal"] ["f"] (a9 sFO):=fs_
theorem ok_FM {f fRW fBK:Addr} {fd fdW fdK:FuncData} (F:Fun K "form" "form" sFO f fd) (xc:j6 K CF fFI) (mF:mg "Fault" = some (.ref CF)) (mU:mg "Refusal" = some (.ref U)) (uc:iF K U CB fUB) (sb:yU K CF U CB)
  (GW:Co P w K mg base (CXF P w) 9 fRW fdW ["row"] (xA K CF CP) "read_whole")
  (GK:Co P w K mg base (CXF P w) 7 fBK fdK ["row","whole"] (x8 K CP CB) "read_book") :
  bK P w K mg base CX0 10 f fd ["f"] (spFM K):=by
 refine F.ok scFM (fun vs H Q E h=>?_) (fun cdv A outer s H vs Q E hr h=>?_)
 ·obtain ⟨a,bs,rfl,_⟩:=h
  rfl
 ·obtain ⟨a,bs,rfl,hs,hz,q⟩:=h
  have hr7:cB 7 _:=hr.mono (by decide)
  refine ⟨_,az (vF (U:=U) (i:=1) xc rfl mF rfl mU rfl ⟨outer,rfl⟩ scFM.nd rfl rfl
    (fun pn xe E' fl=>aH (b6 (cv GK hr7 rfl (jP fl rfl) (aj (pv 0) (aj (cv GW hr rfl (jP fl rfl) (aj (pv 0) aL)) aL)))))
    (fun v=>aH (b9 (dX (aj (kZ ji bh) aL))))
    (fun v=>aH (b9 (pe_uf (U:=U) (K:=K) rfl (pv 1) rfl))))
   (aH (b9 (dX (aj bh aL)))),?_⟩
  try dsimp only [cY];have w1:=Pm.whole_rel bs
  unfold rj at q;refine ⟨_,rfl,_,rfl,a,bs,rfl,hs,hz,?_⟩
  cases e1:Sw.decode bs with
  | error e =>
   rw [e1] at w1 q;have w1:Pm.wholeAt bs = .error e:=w1
   rw [w1];intro H' dx hdx
   exact .inl ⟨rfl,_,rfl,(by show 1≤sizeLine;decide),fun p hp=>q _ p au⟩
  | ok v =>
   rw [e1] at w1 q;obtain ⟨w1,ev,pv1,dv1⟩:=w1
   rw [w1];have q:∀ (H':Hp) (p:Addr),H' p=some (.lst ((px v).map V.int))→Q (.ref p) H':=q
   unfold px at q;intro aw H1 tr1 k1;refine ⟨a,aw,bs,v,0,[],rfl,k1.seq hs,hz,.whole tr1 ev pv1,?_⟩
   cases e3:Sw.bookOf v with
   | error e =>
    rw [e3] at q;intro H' dx an hdx han
    refine .inr ⟨CB,dx,rfl,sb,rfl,fun e' he=>?_⟩
    have ne1:dx≠e':=af hdx he
    have ne2:an≠e':=af han he
    refine ⟨_,rfl,e',CB,fUB,dx,.ref an,rfl,uc,au,(aa ne1).trans hdx,q _ an ?_⟩
    exact (aa ne2).trans han
   | ok b =>
    rw [e3] at q;intro f' H'
    exact ⟨(by show 1≤sizeLine;decide),fun p hp=>q _ p au⟩
theorem form_is (bs:List UInt8) (h:bs.length≤65536):PyYqswga.form (gR bs)=rj bs:=by
 show ansL (Values.withOne (ValuesNeutral.text (gR bs)) _)=_
 rw [rN];unfold Values.withOne rj;rw [ah (by show ¬16777216<bs.length;omega)]
 cases e1:Sw.decode bs with
 | error e=>rfl
 | ok v =>
  show ansL (match Sw.bookOf v with
   | .ok _=>Values.num 0
   | .error l=>Values.nums (-5) [v.placeOf l])=px v
  unfold px;cases Sw.bookOf v<;>rfl
theorem all_mk {P:Program} {w:World} {K:Fg_} {h:Heap} {mg:Str→Option Value} {fa CF CR CP CO CZ CB:Addr} (X:K.In h) (G:h.Ns mainGlobals mg) (hfa:mg "form" = some (.ref fa))
  {fFI fRI fSB fRB fPB fRV fSL fLS fHS fPS fCU fPN fPR fRN fPI fLM fDP fBM fBP fRW fUI fUB fIB fAO fNO fAB fSO fHN fFO fF0 fXW fF1 fF2 fF3 fF4 fF5 fR0 fR1 fR2 fR3 fR4 fR5 fR6 fBK fSU fEN:Addr} {dFI dRI dSB dRB dPB dRV dSL dLS dHS dPS dCU dPN dPR dRN dPI dLM dDP dBM dBP dRW dUI dUB dIB dAO dNO dAB dSO dHN dFO dF0 dXW dF1 dF2 dF3 dF4 dF5 dR0 dR1 dR2 dR3 dR4 dR5 dR6 dBK dSU dEN:FuncData}
  {ak dK xw0 xw1 xw2 xw3 xw4 xw5 xw6 xw7 xw8:Addr} {oK:Obj} {epK:Nat} {tw0 tw1 tw2 tw3 tw4 tw5 tw6 tw7 tw8:Tok}
  (mU:mg "Refusal" = some (.ref CZ))
  (mCB:mg "WrongBook" = some (.ref CB))
  (mCF:mg "Fault" = some (.ref CF))
  (mCR:mg "Reader" = some (.ref CR))
  (mKW:mg "KINDS_BY_WORD" = some (.ref dK))
  (mPS:mg "pass_scalar" = some (.ref fPS))
  (mCU:mg "check_utf8" = some (.ref fCU))
  (mPN:mg "pass_number" = some (.ref fPN))
  (mPR:mg "pass_row" = some (.ref fPR))
  (mRN:mg "read_name" = some (.ref fRN))
  (mLM:mg "lacks_members" = some (.ref fLM))
  (mDP:mg "deepen" = some (.ref fDP))
  (mBP:mg "begin_part" = some (.ref fBP))
  (mBM:mg "begin_member" = some (.ref fBM))
  (mRW:mg "read_whole" = some (.ref fRW))
  (mIB:mg "inner_bytes" = some (.ref fIB))
  (mAO:mg "amount_of" = some (.ref fAO))
  (mNO:mg "number_of" = some (.ref fNO))
  (mAB:mg "all_bytes" = some (.ref fAB))
  (mSO:mg "signs_of" = some (.ref fSO))
  (mHN:mg "has_names" = some (.ref fHN))
  (mXW:mg "read_word" = some (.ref fXW))
  (mF2:mg "read_bound" = some (.ref fF2))
  (mF1:mg "read_bounds" = some (.ref fF1))
  (mF3:mg "read_names" = some (.ref fF3))
  (mF4:mg "read_one" = some (.ref fF4))
  (mF5:mg "read_use" = some (.ref fF5))
  (mF0:mg "read_form" = some (.ref fF0))
  (mR6:mg "end_from" = some (.ref fR6))
  (mR5:mg "order_by_end" = some (.ref fR5))
  (mR4:mg "turn_round" = some (.ref fR4))
  (mR3:mg "join_rings" = some (.ref fR3))
  (mR2:mg "used_forms" = some (.ref fR2))
  (mR1:mg "lead_onward" = some (.ref fR1))
  (mR0:mg "first_in_ring" = some (.ref fR0))
  (mSU:mg "shorten_uses" = some (.ref fSU))
  (mBK:mg "read_book" = some (.ref fBK))
  (mLS:mg "lowest_second" = some (.ref fLS))
  (mHS:mg "highest_second" = some (.ref fHS))
  (mSL:mg "scalar_length" = some (.ref fSL))
  (mEN:mg "form" = some (.ref fEN))
  (mCP:mg "Part" = some (.ref CP))
  (mCO:mg "Form" = some (.ref CO))
  (mAK:mg "ALL_KINDS" = some (.ref ak))
  (hSB:km K CR "see_byte" fSB)
  (hRB:km K CR "read_byte" fRB)
  (hRV:km K CR "read_varying" fRV)
  (hPB:km K CR "pass_bytes" fPB)
  (qCP:Mk K CP fPI)
  (qCR:Mk K CR fRI)
  (xc:j6 K CF fFI)
  (T:TxR K mg CF CR fFI)
  (U:TxU mg)
  (NN:TxN mg)
  (TP:TxP K mg CP)
  (B:TxB mg CP)
  (cU:u6 K CZ "__init__" fUI)
  (ucCB:iF K CZ CB fUB)
  (sbCB:yU K CF CZ CB)
  (TF:TxF K mg CO ak)
  (TW:TxW K mg CB)
  (MO:Mk K CO fFO)
  (FFI:Fun K "__init__" "Fault.__init__" sFI fFI dFI)
  (FRI:Fun K "__init__" "Reader.__init__" sRI fRI dRI)
  (FSB:Fun K "see_byte" "Reader.see_byte" sSB fSB dSB)
  (FRB:Fun K "read_byte" "Reader.read_byte" sRB fRB dRB)
  (FPB:Fun K "pass_bytes" "Reader.pass_bytes" sPB fPB dPB)
  (FRV:Fun K "read_varying" "Reader.read_varying" sRV fRV dRV)
  (FSL:Fun K "scalar_length" "scalar_length" sSL fSL dSL)
  (FLS:Fun K "lowest_second" "lowest_second" sLS fLS dLS)
  (FHS:Fun K "highest_second" "highest_second" sHS fHS dHS)
  (FPS:Fun K "pass_scalar" "pass_scalar" sPS fPS dPS)
  (FCU:Fun K "check_utf8" "check_utf8" sCU fCU dCU)
  (FPN:Fun K "pass_number" "pass_number" sPN fPN dPN)
  (FPR:Fun K "pass_row" "pass_row" sPR fPR dPR)
  (FRN:Fun K "read_name" "read_name" sRN fRN dRN)
  (FPI:Fun K "__init__" "Part.__init__" sPI fPI dPI)
  (FLM:Fun K "lacks_members" "lacks_members" sLM fLM dLM)
  (FDP:Fun K "deepen" "deepen" sDP fDP dDP)
  (FBM:Fun K "begin_member" "begin_member" sBM fBM dBM)
  (FBP:Fun K "begin_part" "begin_part" sBP fBP dBP)
  (FRW:Fun K "read_whole" "read_whole" sRW fRW dRW)
  (FUI:Fun K "__init__" "Refusal.__init__" sUI fUI dUI)
  (FUB:Fun K "__init__" "WrongBook.__init__" sUB fUB dUB)
  (FIB:Fun K "inner_bytes" "inner_bytes" sIB fIB dIB)
  (FAO:Fun K "amount_of" "amount_of" sAO fAO dAO)
  (FNO:Fun K "number_of" "number_of" sNO fNO dNO)
  (FAB:Fun K "all_bytes" "all_bytes" sAB fAB dAB)
  (FSO:Fun K "signs_of" "signs_of" sSO fSO dSO)
  (FHN:Fun K "has_names" "has_names" sHN fHN dHN)
  (FFO:Fun K "__init__" "Form.__init__" yi fFO dFO)
  (FF0:Fun K "read_form" "read_form" sF0 fF0 dF0)
  (FXW:Fun K "read_word" "read_word" sXW fXW dXW)
  (FF1:Fun K "read_bounds" "read_bounds" sF1 fF1 dF1)
  (FF2:Fun K "read_bound" "read_bound" sF2 fF2 dF2)
  (FF3:Fun K "read_names" "read_names" sF3 fF3 dF3)
  (FF4:Fun K "read_one" "read_one" sF4 fF4 dF4)
  (FF5:Fun K "read_use" "read_use" sF5 fF5 dF5)
  (FR0:Fun K "first_in_ring" "first_in_ring" sR0 fR0 dR0)
  (FR1:Fun K "lead_onward" "lead_onward" sR1 fR1 dR1)
  (FR2:Fun K "used_forms" "used_forms" sR2 fR2 dR2)
  (FR3:Fun K "join_rings" "join_rings" sR3 fR3 dR3)
  (FR4:Fun K "turn_round" "turn_round" sR4 fR4 dR4)
  (FR5:Fun K "order_by_end" "order_by_end" sR5 fR5 dR5)
  (FR6:Fun K "end_from" "end_from" sR6 fR6 dR6)
  (FBK:Fun K "read_book" "read_book" sBK fBK dBK)
  (FSU:Fun K "shorten_uses" "shorten_uses" sSU fSU dSU)
  (FEN:Fun K "form" "form" sFO fEN dEN)
  (gBYTES_BEHIND:GI mg "BYTES_BEHIND" (8))
  (gNOT_BEGUN:GI mg "NOT_BEGUN" (-1))
  (gNO_RING:GI mg "NO_RING" (-1))
  (zreversed:mg "reversed" = none)
  (zord:mg "ord" = none)
  (zrange:mg "range" = none)
  (zenumerate:mg "enumerate" = none)
  (zlist:mg "list" = none)
  (lKW:K.lookup dK=some oK)
  (eKW:oK=⟨.type "dict",none,.dict (wEs w [(Str.ofString "any",tw0,xw0),(Str.ofString "yesno",tw1,xw1),(Str.ofString "number",tw2,xw2),(Str.ofString "bytes",tw3,xw3),(Str.ofString "text",tw4,xw4),(Str.ofString "list",tw5,xw5),(Str.ofString "record",tw6,xw6),(Str.ofString "moment",tw7,xw7),(Str.ofString "id",tw8,xw8)]) epK,#[]⟩)
  (sKW:(dK==sysModules)=false)
  : ∃ fd:FuncData,(∀ (s:Shared) (us:List Value),us.length=(["f"]:List Str).length→BindsTo s fd ⟨us,[]⟩ ((["f"]:List Str).zip us))∧∀ base:Heap,K.In base→base.Ns mainGlobals mg→bK P w K mg base CX0 10 fa fd ["f"] (spFM K):=by
 have e:=hfa.symm.trans mEN
 cases e;obtain ⟨oc,od,kV,dc,pm,an,cd,ct,sl,rfl,_,_⟩:=id FEN.ex
 refine ⟨PySem.W.fnOf "form" "form" (gq sFO) (fJ sFO) (a9 sFO) .none kV dc pm an cd ct,fun s us hu=>match us,hu with | [_],_=>.of_eq rfl,fun base _ _=>?_⟩
 have hKW:=xq (P:=P) (l:=[(Str.ofString "any",tw0,xw0),(Str.ofString "yesno",tw1,xw1),(Str.ofString "number",tw2,xw2),(Str.ofString "bytes",tw3,xw3),(Str.ofString "text",tw4,xw4),(Str.ofString "list",tw5,xw5),(Str.ofString "record",tw6,xw6),(Str.ofString "moment",tw7,xw7),(Str.ofString "id",tw8,xw8)]) lKW eKW sKW rfl
 have bSL:bT K _ ["first"] []:=b1_ FSL
 have bLS:bT K _ ["first"] []:=b1_ FLS
 have bHS:bT K _ ["first"] []:=b1_ FHS
 have GFI:bK P w K mg base CX0 1 fFI _ ["self","kind","place"] (jK CF):=mr FFI T
 have bFI:bT K _ ["self","kind","place"] []:=b3_ FFI
 have GSB:bK P w K mg base (CXF P w) 3 fSB _ ["self"] (xy K CF CR):=ok_SB FSB T FFI bFI
 have bSB:bT K _ ["self"] []:=b1_ FSB
 have GRB:bK P w K mg base (CXF P w) 4 fRB _ ["self"] (vj K CF CR):=ok_RB FRB T GSB bSB hSB
 have bRB:bT K _ ["self"] []:=b1_ FRB
 have GPB:bK P w K mg base (CXF P w) 3 fPB _ ["self","how_many"] (xQ K CF CR):=ok_PB FPB T FFI bFI
 have bPB:bT K _ ["self","how_many"] []:=b2_ FPB
 have GRV:bK P w K mg base (CXF P w) 5 fRV _ ["self"] (xB K CF CR):=ok_RV FRV T FFI bFI GRB bRB hRB
 have bRV:bT K _ ["self"] []:=b1_ FRV
 have GPS:Co P w K mg base (CXF P w) 3 fPS _ ["row","place","end"] (xM K CF) "pass_scalar":=⟨ok_PS FPS T U FFI bFI FSL bSL mSL FLS bLS mLS FHS bHS mHS,b3_ FPS,FPS.kp,mPS⟩
 have GCU:Co P w K mg base (CXF P w) 4 fCU _ ["row","start","end"] (vk K CF) "check_utf8":=⟨ok_CU FCU T U FFI bFI GPS,b3_ FCU,FCU.kp,mCU⟩
 have R:uY P w K mg base CF CR fRV fPB fRB _ _ _:=⟨GRV,bRV,hRV,GPB,bPB,hPB,GRB,bRB,hRB⟩
 have GPN:Co P w K mg base (CXF P w) 6 fPN _ ["reader","part"] (xO K CF CR CP) "pass_number":=⟨ok_PN FPN T TP NN GFI bFI R,b2_ FPN,FPN.kp,mPN⟩
 have GPR:Co P w K mg base (CXF P w) 6 fPR _ ["reader","part"] (xN K CF CR CP) "pass_row":=⟨ok_PR FPR T TP NN R GCU,b2_ FPR,FPR.kp,mPR⟩
 have GRN:Co P w K mg base (CXF P w) 6 fRN _ ["reader","holder"] (xC K CF CR CP) "read_name":=⟨ok_RN FRN T TP GFI bFI R GCU,b2_ FRN,FRN.kp,mRN⟩
 have GPI:bK P w K mg base CX0 1 fPI _ ["self","kind","place"] (xP CP):=ok_PI FPI TP
 have bPI:bT K _ ["self","kind","place"] []:=b3_ FPI
 have GLM:Co P w K mg base CX0 1 fLM _ ["part"] (xS CP) "lacks_members":=⟨ok_LM FLM TP B T.len,b1_ FLM,FLM.kp,mLM⟩
 have GDP:Co P w K mg base CX0 1 fDP _ ["holder","part"] (xZ CP) "deepen":=⟨ok_DP FDP TP B,b2_ FDP,FDP.kp,mDP⟩
 have GBP:Co P w K mg base (CXF P w) 7 fBP _ ["reader","level"] (vm K CF CR CP) "begin_part":=⟨ok_BP FBP T TP B GFI bFI R qCP GPI bPI GPN GPR,b2_ FBP,FBP.kp,mBP⟩
 have GBM:Co P w K mg base (CXF P w) 8 fBM _ ["reader","holder","level"] (x6 K CF CR CP) "begin_member":=⟨ok_BM FBM T TP B GRN GBP,b3_ FBM,FBM.kp,mBM⟩
 have GRI:bK P w K mg base CX0 1 fRI _ ["self","row"] (xD CR):=ok_RI FRI T
 have bRI:bT K _ ["self","row"] []:=b2_ FRI
 have GRW:Co P w K mg base (CXF P w) 9 fRW _ ["row"] (xA K CF CP) "read_whole":=⟨ok_RW FRW T TP mCR gBYTES_BEHIND GFI bFI qCR GRI bRI GBP GLM GBM GDP,b1_ FRW,FRW.kp,mRW⟩
 have GIB:Co P w K mg base CX0 1 fIB _ ["row","part"] (tI K CP) "inner_bytes":=⟨ok_IB FIB TP,b2_ FIB,FIB.kp,mIB⟩
 have GAO:Co P w K mg base CX0 1 fAO _ ["row"] (x9 K) "amount_of":=⟨ok_AO FAO zreversed,b1_ FAO,FAO.kp,mAO⟩
 have GNO:Co P w K mg base CX0 2 fNO _ ["row","part"] (xR K CP) "number_of":=⟨ok_NO FNO TP GIB GAO,b2_ FNO,FNO.kp,mNO⟩
 have GAB:Co P w K mg base CX0 1 fAB _ ["row","part"] (ya K CP) "all_bytes":=⟨ok_AB FAB TP,b2_ FAB,FAB.kp,mAB⟩
 have GUI:bK P w K mg base CX0 1 fUI _ ["self","answer"] (xw K CZ):=ok_UI FUI
 have bUI:bT K _ ["self","answer"] []:=b2_ FUI
 have GUB:bK P w K mg base CX0 2 fUB _ ["self","place"] (jL CB 1 aWB):=ok_UB FUB ucCB cU mU GUI bUI
 have bUB:bT K _ ["self","place"] []:=b2_ FUB
 have GSO:Co P w K mg base CX0 1 fSO _ ["words"] (vi) "signs_of":=⟨ok_SO FSO zord,b1_ FSO,FSO.kp,mSO⟩
 have GHN:Co P w K mg base CX0 2 fHN _ ["part","names"] (tJ K CP) "has_names":=⟨ok_HN FHN TP T.len TW.k6 GSO,b2_ FHN,FHN.kp,mHN⟩
 have GFO:bK P w K mg base CX0 1 fFO _ ["self","part"] (pW CO ak):=ok_FO FFO TF
 have bFO:bT K _ ["self","part"] []:=b2_ FFO
 have GXW:Co P w K mg base (CXF P w) 4 fXW _ ["row","form"] (xu K CO CP CB) "read_word":=⟨ok_XW FXW TP TF TW mKW hKW rfl ucCB GUB bUB GIB GSO,b2_ FXW,FXW.kp,mXW⟩
 have GF2:Co P w K mg base (CXF P w) 4 fF2 _ ["row","form","part"] (xW K CO CP CB) "read_bound":=⟨ok_F2 FF2 TP TF TW ucCB GUB bUB GNO,b3_ FF2,FF2.kp,mF2⟩
 have GF1:Co P w K mg base (CXF P w) 5 fF1 _ ["row","form","kind","part"] (xX K CO CP CB) "read_bounds":=⟨ok_F1 FF1 TP TF TW ucCB GUB bUB GF2,b4_ FF1,FF1.kp,mF1⟩
 have GF3:Co P w K mg base (CXF P w) 4 fF3 _ ["form"] (xV K CO ak CP CB) "read_names":=⟨ok_F3 FF3 TP TF TW ucCB GUB bUB MO GFO bFO,b1_ FF3,FF3.kp,mF3⟩
 have GF4:Co P w K mg base (CXF P w) 4 fF4 _ ["form"] (xU K CO ak CP CB) "read_one":=⟨ok_F4 FF4 TP TF TW ucCB GUB bUB MO GFO bFO,b1_ FF4,FF4.kp,mF4⟩
 have GF5:Co P w K mg base (CXF P w) 4 fF5 _ ["row","form","book_forms"] (xT K CO ak CP CB) "read_use":=⟨ok_F5 FF5 TP TF TW ucCB GUB bUB GIB,b3_ FF5,FF5.kp,mF5⟩
 have GF0:Co P w K mg base (CXF P w) 6 fF0 _ ["row","form","book_forms"] (xY K CO ak CP CB) "read_form":=⟨ok_F0 FF0 TP TF TW ucCB GUB bUB MO GFO bFO GHN GAB GXW GF1 GF3 GF4 GF5,b3_ FF0,FF0.kp,mF0⟩
 have GR6:Co P w K mg base CX0 1 fR6 _ ["first","onward","passed","ended"] (xE K) "end_from":=⟨ok_R6 FR6 T.len gNOT_BEGUN,b4_ FR6,FR6.kp,mR6⟩
 have GR5:Co P w K mg base CX0 2 fR5 _ ["onward"] (xF) "order_by_end":=⟨ok_R5 FR5 T.len zrange gNOT_BEGUN GR6,b1_ FR5,FR5.kp,mR5⟩
 have GR4:Co P w K mg base CX0 1 fR4 _ ["onward"] (xG) "turn_round":=⟨ok_R4 FR4 zenumerate,b1_ FR4,FR4.kp,mR4⟩
 have GR3:Co P w K mg base CX0 3 fR3 _ ["onward"] (xH) "join_rings":=⟨ok_R3 FR3 zreversed gNO_RING GR4 GR5,b1_ FR3,FR3.kp,mR3⟩
 have GR2:Co P w K mg base CX0 1 fR2 _ ["form"] (xI CO ak CP) "used_forms":=⟨ok_R2 FR2 TF,b1_ FR2,FR2.kp,mR2⟩
 have GR1:Co P w K mg base CX0 2 fR1 _ ["forms"] (xJ CO ak CP) "lead_onward":=⟨ok_R1 FR1 TP TF zenumerate GR2,b1_ FR1,FR1.kp,mR1⟩
 have GR0:Co P w K mg base CX0 4 fR0 _ ["forms"] (xK CO ak CP) "first_in_ring":=⟨ok_R0 FR0 zenumerate GR1 GR3,b1_ FR0,FR0.kp,mR0⟩
 have GSU:Co P w K mg base CX0 1 fSU _ ["uses"] (xx CO) "shorten_uses":=⟨ok_SU FSU TF,b1_ FSU,FSU.kp,mSU⟩
 have GBK:Co P w K mg base (CXF P w) 7 fBK _ ["row","whole"] (x8 K CP CB) "read_book":=⟨ok_BK FBK TP TF TW zlist zreversed ucCB GUB bUB MO GFO bFO GHN GF0 GR0 GSU,b2_ FBK,FBK.kp,mBK⟩
 exact ok_FM FEN xc mCF mU ucCB sbCB GRW GBK
end L2.J
namespace PySem.W
structure Fast:Prop where
 (tw2933725133619814654 tw13945774220299615394 tw16788669924266475434 tw3278209331122677431 tw16943032892981580400 tw8370773128299296182 tw23328667392795767 tw3354510337867978837 tw9188609724998020161 tw17610757178805298822 tw11002071680240034317 tw13472101104847700381 tw7110377577572938878 tw683123599049122038 tw1515529835541170072 tw9280524288103588501 tw1857396020525604062 tw9341197138977687560 tw13277041751281553514 tw334270789451530837 tw2685710426227189896 tw5547219519126627013 tw12311506739518816877 tw7981397183690256606 tw10598123801406856869 tw4651868157968846807 tw12919105252460557375 tw15814413603473972555 tw2506540820098993847 tw15649006601100411836 tw3397008802149615810 tw810617128948042293 tw4066765889703843195 tw3059942167452909398 tw15857792530380917749 tw6876758235845153862 tw1343466795075092750 tw11118362351884713284 tw392563352526093883 tw2604120513729077834 tw5843421041328234246 tw16433699807058915331 tw15880702277297911439 tw17412850697424562691 tw1716646928399115379 tw3569615110268959135 tw2621841485753082192 tw15744991205947778572 tw8477910907207844288 tw12846901613518868841 tw1310380756368007721 tw8380743526948819705 tw16061392019810990456 tw13108293434436357883 tw14751925141222258446 tw7017160094519873802 tw11257408866944830247 tw7403443977762494304 tw9268708401500564756 tw5786627722905212792 tw10101573582649743434 tw12576163725233162998 tw11341909392694085286 tw9818131207438798224 tw8750164993442209179 tw1020048725579924877 tw15263904854252387263 tw142995220678114410 tw1544386321451607089 tw3776996200822717302 tw11280190625394640632 tw17648793706045984952 tw17167974892245536896 tw8851309359683702529 tw1553971405347728143 tw10989569113714498585 tw17566587205547025752 tw5107273701363119972 tw14594586909296384979 tw1812004030759471289 tw9212873670015356356 tw8945431418133683468 tw17933530057471984473 tw12849692008320060491 tw14961264361579200287 tw4212122197029882841 tw907890934152786195 tw830948622449693586 tw13570564093011000121 tw18027693433600873509 tw6402138108736431275 tw17081046001751447250 tw10452712508133984510 tw1601162919127139582 tw16201872697588147141 tw774336199547117967 tw800188673196327721 tw6361410430536392240 tw8298692072103108183 tw8496654133926515472 tw17752195510932009889 tw7768789223840146278 tw16337701293718045738 tw7982725204111618793 tw489852162370378839 tw16571012753778242022 tw14115709215203982505 tw8852372290881692008 tw1275730797371493115 tw5325525123472334245 tw15107068961728477791 tw1901826231118597114 tw1919765658105016503 tw7839975836702733337 tw5478368443179399715 tw5555145942764641291 tw2953039069529837848 tw10225800285956093827 tw1619507675043510513 tw1082927517945282664 tw10067345670804136682 tw12297277376982560679 tw8970701316458499998 tw8266843177037702808 tw9190571261708466464 tw12798279698815773525 tw16291365775282119326 tw12800460187859589034 tw937590868828319969 tw3990202745736246791 tw16871488899109982348 tw11312304142262697465 tw16554353712395328702 tw3225491154727205764 tw3896176625870441553 tw5747004125154770598 tw7053127757924859197 tw9513313279345573891 tw16864844613094374069 tw5413783411730752942 tw8646160723461270047 tw15189066043604193296 tw15112152801647315133 tw16961983957937134361 tw2548769028996392065 tw8973639424505559120 tw10713117806752867654 tw16685424647691750907 tw9376304954369336154 tw3296981150541448263 tw7002128908927168253 tw12954605532418259488 tw6986754821852716657 tw5415753181094795524 tw6323847077762332623 tw17271307928834411804 tw8812875578482923188 tw11202175708383243969 tw12606970033041920034 tw18302299435359222861 tw11057503052763292417 tw4944308376746241639 tw12383397425193547830 tw13146042603015748330 tw9079576601168553911 tw2954301963479906042 tw17202071927416491717 tw15832176780037855628 tw8781304703792381232 tw15569176646679521613 tw385997826389539508 tw10044850119904170390 tw12059889150937728337 tw15638355053814338066 tw7406465706790031111 tw1909896814100669478 tw4307787927922278894 tw11186323826445756922 tw12398514565433329638 tw6696372190274633127 tw13296408328110246805 tw12173192645054660823 tw8239852899843942689 tw9329807093904418200 tw15500215273123381500 tw13804481546922582497 tw14505016927694775370 tw7819707391832028947 tw446663909471849030 tw5543033655031999357 tw4333982560196441679 tw18308884424875082399 tw15241250599371737627 tw17919236854904470718 tw17741167490802964383 tw690361662606522659 tw17725877681842414086 tw1962535379910174263 tw10942742110238946442 tw15256207464364719660 tw18119960822554662165 tw10642959355864416941 tw6752763791343007605 tw2054605335235036344 tw3119048595837625943 tw605506005942263957 tw2828225242562247353 tw6647321572473495224 tw4638554575526734372 tw5134576552267426773 tw2098286820891223537 tw18118589676838523411 tw14066586999373129455 tw17395421417997938053 tw2410145572560396754 tw17178743428998643855 tw13291600960272854531 tw16485326015742748242 tw17908759711608110404 tw18211105675289236955 tw9328905484803158860 tw3626831294147252652 tw7430041759753978353 tw1064242050061286607 tw3586042615189870527 tw18287298971319906386 tw5579547156461913026 tw3804188740169360670 tw1391992643486536572 tw4454740285173590690 tw582084740439230502 tw16380283040437647190 tw14563043463114139841 tw16800562953256186779 tw14528732586399469735 tw17093970064667695425:True)
end PySem.W
open PySem PySem.W PyProof.Rows
set_option maxRecDepth 100000 in
set_option maxHeartbeats 0 in
theorem PySem.Challenge.cw_onevalues_s14_form_holds : PySem.Challenge.rw_onevalues_s14_form.Holds := by
  w_on; k_headS; (case hw => exact ⟨[.list []], by decide +kernel, by decide +kernel⟩)
  k_fillS
  refine L2.wJ (r := PySem.Challenge.rw_onevalues_s14_form) (k := 10) (CX := L2.CX0) (ps := ["f"]) (sp := fun K => L2.J.spFM K) (by decide +kernel) rfl rfl ⟨rfl, by decide, by decide⟩ (fun w h Y => PySem.W.kIn_of Y) ?F ?S (fun _ _ _ _ z => z)
  case F =>
    intro w mg fa h Y KX G hmg
    refine' L2.J.all_mk KX G hmg ..
    any_goals first | exact PySem.W.mg_of KX G (by k_is) | exact PySem.W.ns_none_of KX G (by k_is) | exact ⟨_, PySem.W.mg_of KX G (by k_is)⟩ | skip
    any_goals first | exact L2.fun_mk (by k_is) (by k_is) (by k_is) | skip
    repeat' first | exact PySem.W.mg_of KX G (by k_is) | exact PySem.W.ns_none_of KX G (by k_is) | exact ⟨_, PySem.W.mg_of KX G (by k_is)⟩ | k_is | exact L2.fun_mk (by k_is) (by k_is) (by k_is) | (simp [L2.XC.uv]; done) | exact L2.J.exm_mk (by k_is) (by k_is) (by k_is) (by k_is) | rfl | (show (_ : Prop); constructor)
  case S =>
    intro K H xs a hO hwi hask hx
    cases hx with
    | cons h0 r0 =>
      cases r0
      cases h0 with
      | lst hs0 ha0 =>
        have e0 := L2.vS a.1 _ ha0
        subst e0
        have q : ((Codec.inLen 0 65536 a.1 && a.1.all (Codec.inInt 0 255)) && true) = true := hwi
        simp only [Bool.and_eq_true] at q
        have hb0 : ∀ x ∈ a.1, 0 ≤ x ∧ x ≤ 255 := fun x hx => Codec.inInt_iff.mp (List.all_eq_true.mp q.1.2 x hx)
        obtain ⟨bs0, eb0, el0⟩ := L2.J.ql a.1 hb0
        have hz0 : bs0.length ≤ 65536 := by rw [el0]; exact (Codec.inNat_iff.mp q.1.1).2
        have hd : PyYqswga.form a.1 = L2.J.rj bs0 := by rw [eb0]; exact L2.J.form_is bs0 hz0
        rw [eb0, ← L2.J.rB] at hs0
        refine ⟨_, bs0, rfl, hs0, hz0, fun H' p hp => ?_⟩
        rw [← hd] at hp
        exact .lst (L2.SqL.of hp) (L2.vX _)
#print axioms PySem.Challenge.cw_onevalues_s14_form_holds

