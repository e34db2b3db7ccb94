import PyProof.Rows.All
import Wide.All
import OpenK.AllK
import Wide.FinOn
import PyProof.EqAt
import PyProof.EqKinds
import PyProof.TupleCall
import Open.SpecLaws
import KE.OsHead
import KE.OsGo
import PyProof.ExcInit
import PyProof.InstStoreFacts
import PyProof.StationsW
import PyProof.ExcBaseAll.Exception
import PyProof.ExcAttrAll.Exception
import PyProof.RulesAs
import KE.KTryMore
import PyProof.JoinWalk
import PyProof.CollectIter
import KE.KRevIter
import PySem.Challenge.RW_onevalues_s10_add
set_option linter.all false
set_option Elab.async false
set_option maxRecDepth 100000
set_option maxHeartbeats 4000000
local macro_rules | `(tactic| omega) => `(tactic| lia)
abbrev Fg_:=PySem.W.Frag
abbrev aa:=@List.length_append
abbrev af:=@decide_eq_false
abbrev ag:=@decide_eq_true
abbrev aj:=@List.length_cons
abbrev ak:=@List.mem_append_right
abbrev ao:=@PySem.W.mg_of
abbrev au:=@List.length_map
abbrev ax:=@List.mem_cons_of_mem
abbrev ay:=@List.length_drop
abbrev az:=@List.mem_append_left
abbrev aB:=@List.mem_cons
abbrev aC:=@Bool.and_eq_true
abbrev aF:=@List.mem_append
abbrev aG:=@List.mem_singleton
abbrev aH:=@List.length_take
abbrev aI:=@Bool.false_ne_true
abbrev aJ:=@List.getElem?_eq_getElem
abbrev aK:=@Nat.le_refl
abbrev aL:=@List.map_append
abbrev aM:=@List.size_toArray
abbrev aN:=@List.getElem?_eq_some_iff
abbrev aO:=@List.append_assoc
abbrev aP:=@List.length_singleton
abbrev aR:=@List.mem_cons_self
abbrev aS:=@List.nodup_cons
abbrev aT:=@Nat.lt_of_lt_of_le
abbrev aW:=@Nat.zero_le
abbrev aY:=@List.map_cons
abbrev aZ:=@PySem.F.plainAttrs_list
abbrev a6:=@List.getElem?_take_of_lt
abbrev a7:=@PySem.boot_len
abbrev a8:=@Option.some.inj
abbrev a9:=@List.getLast?_eq_none_iff
abbrev bc:=@List.nodup_append
abbrev bg:=@Nat.add_assoc
abbrev bj:=@List.drop_eq_getElem_cons
abbrev bo:=@decide_eq_true_eq
abbrev bp:=@PySem.mem_of_lookup
abbrev bq:=@List.getElem?_map
abbrev bu:=@Nat.ne_of_lt
abbrev bz:=@List.getElem?_append_left
abbrev bA:=@PySem.W.ns_none_of
abbrev bC:=@List.append_nil
abbrev bF:=@Nat.le_trans
abbrev bG:=@List.getElem?_eq_none_iff
abbrev bK:=@Nat.lt_irrefl
abbrev bO:=@List.drop_drop
abbrev bQ:=@Array.getElem?_eq_some_iff
abbrev bT:=@List.take_of_length_le
abbrev bX:=@List.eq_nil_or_concat
abbrev bY:=@List.concat_eq_append
abbrev bZ:=@Nat.min_eq_left
abbrev b9:=@List.getLast?_eq_getElem?
abbrev cj:=@Nat.div_div_eq_div_mul
abbrev cu:=@List.cons_append
abbrev cv:=@Array.getElem?_toList
abbrev cw:=@List.getElem?_concat_length
abbrev cy:=@List.length_eq_zero_iff
abbrev cI:=@List.take_append_drop
abbrev cN:=@List.mem_of_getElem?
abbrev cW:=@Int.toNat_natCast
abbrev cX:=@List.perm_iff_count
abbrev c9:=@List.length_nil
abbrev dc:=@Bool.or_eq_true
abbrev df:=@List.all_eq_true
abbrev dj:=@List.mem_map
abbrev dv:=@List.getElem?_of_mem
abbrev dw:=@List.count_append
abbrev dA:=@List.mem_map_of_mem
abbrev dB:=@Array.length_toList
abbrev dD:=@List.lookup_cons
abbrev dF:=@List.take_zero
abbrev dG:=@List.drop_left
abbrev dH:=@Array.getElem?_eq_getElem
abbrev dM:=@List.reverse_cons
abbrev dN:=@List.map_map
abbrev dO:=@List.dropLast_concat
abbrev dQ:=@List.take_add
abbrev dU:=@List.length_reverse
abbrev dW:=@List.drop_zero
abbrev dX:=@List.drop_length
abbrev d7:=@List.contains_cons
abbrev d8:=@Nat.div_add_mod
abbrev d9:=@List.take_add_one
abbrev eE:=@List.getElem?_append_right
abbrev eK:=@List.take_succ_cons
abbrev eN:=@List.takeWhile_cons
abbrev eO:=@List.nil_append
abbrev eP:=@List.count_cons
abbrev eT:=@List.getElem?_drop
abbrev eW:=@List.getLast?_cons_cons
abbrev eX:=@List.getElem?_replicate
abbrev fe:=@Nat.succ_pos
abbrev ff:=@Nat.pow_succ
abbrev fg:=@Nat.ne_of_gt
abbrev fh:=@Nat.lt_succ_of_lt
abbrev fi:=@Nat.le_of_succ_le
abbrev fj:=@Nat.le_of_eq
abbrev fk:=@Nat.add_zero
abbrev fm:=@List.getElem?_set_self
abbrev fq:=@List.filter_eq_nil_iff
abbrev ft:=@List.drop_of_length_le
abbrev fu:=@Bool.false_and
abbrev fv:=@List.eraseIdxIfInBounds_toArray
abbrev fw:=@List.length_replicate
abbrev fA:=@List.getElem?_eq_none
abbrev fF:=@Nat.lt_of_not_le
abbrev fG:=@Nat.le_of_not_lt
abbrev fH:=@List.take_length
abbrev fJ:=@List.filter_cons
abbrev fL:=@List.map_take
abbrev fM:=@List.all_cons
abbrev fO:=@Nat.div_lt_of_lt_mul
abbrev fP:=@List.getElem?_set_ne
abbrev fT:=@Bool.eq_iff_iff
abbrev fV:=@List.filterMap_cons
abbrev f9:=@Nat.zero_add
abbrev gv:=@Nat.lt_of_le_of_lt
abbrev gw:=@List.take_left
abbrev gy:=@List.mapM_cons
abbrev gz:=@Bool.false_eq_true
abbrev gA:=@Bool.and_false
abbrev gQ:=@List.sum_cons
abbrev gR:=@List.map_drop
abbrev ie:=@Nat.lt_succ_self
abbrev ig:=@List.take_append
abbrev iD:=@Nat.add_comm
namespace L2
theorem ex2 {A : Sort _} {B : A → Sort _} {p : (a : A) → B a → Prop} (a : A) (b : B a) (h : p a b) : ∃ a b, p a b := ⟨a, b, h⟩
theorem ex3 {A B C : Sort _} {p : A → B → C → Prop} (a : A) (b : B) (c : C) (h : p a b c) : ∃ a b c, p a b c := ⟨a, b, c, h⟩
theorem ex4 {A B C D : Sort _} {p : A → B → C → D → Prop} (a : A) (b : B) (c : C) (d : D) (h : p a b c d) : ∃ a b c d, p a b c d := ⟨a, b, c, d, h⟩
theorem ex5 {A B C D E : Sort _} {p : A → B → C → D → E → Prop} (a : A) (b : B) (c : C) (d : D) (e : E) (h : p a b c d e) : ∃ a b c d e, p a b c d e := ⟨a, b, c, d, e, h⟩
theorem ex6 {A B C D E F : Sort _} {p : A → B → C → D → E → F → Prop} (a : A) (b : B) (c : C) (d : D) (e : E) (f : F) (h : p a b c d e f) : ∃ a b c d e f, p a b c d e f := ⟨a, b, c, d, e, f, h⟩
theorem ex7 {A B C D E F G : Sort _} {p : A → B → C → D → E → F → G → Prop} (a : A) (b : B) (c : C) (d : D) (e : E) (f : F) (g : G) (h : p a b c d e f g) : ∃ a b c d e f g, p a b c d e f g := ⟨a, b, c, d, e, f, g, h⟩
theorem ex8 {A B C D E F G H : Sort _} {p : A → B → C → D → E → F → G → H → Prop} (a : A) (b : B) (c : C) (d : D) (e : E) (f : F) (g : G) (h : H) (z : p a b c d e f g h) : ∃ a b c d e f g h, p a b c d e f g h := ⟨a, b, c, d, e, f, g, h, z⟩
open PySem PySem.Spec PyProof.Rows
abbrev Key:=Sum Int Str
def wO:Key→Value→Bool
 | .inl k,v=>Value.isInt k v
 | .inr x,v=>Value.isStrOf x v
def keyH (w:World):Key→Int
 | .inl k=>hashInt k
 | .inr x=>hashStr w x
theorem dJ:∀ {k:Key} {v:Value},wO k v=true→(∃ i t,k=Sum.inl i∧v=Value.int i t)∨(∃ x t,k=Sum.inr x∧v=Value.str x t)
 | .inl i,v,h=>by
  obtain ⟨t,e⟩:=Value.isInt_shape (k:=i) (v:=v) h
  exact .inl ⟨i,t,rfl,e⟩
 | .inr x,v,h=>by
  obtain ⟨t,e⟩:=Value.isStrOf_shape (x:=x) (v:=v) h
  exact .inr ⟨x,t,rfl,e⟩
theorem yU (a b:Int):decide ((Sum.inl a:Key)=Sum.inl b)=(a==b):=by
 by_cases e:a=b
 ·subst e;simp
 ·have h:¬(Sum.inl a:Key)=Sum.inl b:=fun q=>e (Sum.inl.inj q)
  rw [af h];exact (beq_eq_false_iff_ne.mpr e).symm
theorem yQ (a b:Str):decide ((Sum.inr a:Key)=Sum.inr b)=decide (a=b):=by
 by_cases e:a=b
 ·subst e;simp
 ·have h:¬(Sum.inr a:Key)=Sum.inr b:=fun q=>e (Sum.inr.inj q)
  rw [af h,af e]
theorem yS (a:Int) (b:Str):decide ((Sum.inl a:Key)=Sum.inr b)=false:=af (fun q=>nomatch q)
theorem yR (a:Str) (b:Int):decide ((Sum.inr a:Key)=Sum.inl b)=false:=af (fun q=>nomatch q)
def oH (prog:Program) (w:World):PySem.KeyKind prog w Key where
 is:=wO
 hash:=keyH w
 inj:=fun v a b ha hb=>by
  rcases dJ ha with ⟨i,t,rfl,rfl⟩ | ⟨x,t,rfl,rfl⟩
  ·rcases dJ hb with ⟨j,u,rfl,e⟩ | ⟨y,u,rfl,e⟩
   ·injection e with e1 _;rw [e1]
   ·exact nomatch e
  ·rcases dJ hb with ⟨j,u,rfl,e⟩ | ⟨y,u,rfl,e⟩
   ·exact nomatch e
   ·injection e with e1 _;rw [e1]
 byValue:=fun k v h=>by
  rcases dJ h with ⟨i,t,rfl,rfl⟩ | ⟨x,t,rfl,rfl⟩<;>rfl
 pyHash:=fun hv h=>by
  rcases dJ hv with ⟨i,t,rfl,rfl⟩ | ⟨x,t,rfl,rfl⟩
  ·exact wpAny_pyHash_int h
  ·exact wpAny_pyHash_str h
 eqBool:=fun hu hv h=>by
  rcases dJ hu with ⟨i,t,rfl,rfl⟩ | ⟨x,t,rfl,rfl⟩
  ·rcases dJ hv with ⟨j,u,rfl,rfl⟩ | ⟨y,u,rfl,rfl⟩
   ·rw [yU] at h;exact wpAny_eqBool_int h
   ·rw [yS] at h;exact SeqAt.EqAt.int_str i t y u _ _ _ _ h
  ·rcases dJ hv with ⟨j,u,rfl,rfl⟩ | ⟨y,u,rfl,rfl⟩
   ·rw [yR] at h;exact SeqAt.EqAt.str_int x t j u _ _ _ _ h
   ·rw [yQ] at h;exact wpAny_eqBool_str h
 «strs»:=fun k x t v h=>by
  rcases dJ h with ⟨i,u,rfl,e⟩ | ⟨y,u,rfl,e⟩
  ·exact nomatch e
  ·injection e with e1 _;subst e1;cases v<;>rfl
inductive V where
 | non | bl (b:Bool) | int (i:Int) | str (x:Str) | byt (b:Array UInt8) | flt (b:UInt64) | ref (a:Addr) | ty (n:String)
 deriving DecidableEq
def cM:V→Value→Prop
 | .non,u=>u=Value.none
 | .bl b,u=>u=Value.bool b
 | .int i,u=>∃ t,u=Value.int i t
 | .str x,u=>∃ t,u=Value.str x t
 | .byt b,u=>∃ t,u=Value.bytes b t
 | .flt b,u=>∃ t,u=Value.float b t
 | .ref a,u=>u=Value.ref a
 | .ty n,u=>u=Value.type n
abbrev b8:List V→List Value→Prop:=Paired cM
theorem b8.length {xs:List V} {us:List Value} (r:b8 xs us):xs.length=us.length:=Paired.length r
theorem b8.get:∀ {xs:List V} {us:List Value} {i:Nat} {x:V},b8 xs us→xs[i]? = some x→∃ u,us[i]? = some u∧cM x u
 | _,_,_,_,.nil,e=>by simp at e
 | _,_,0,_,.cons r _,e=>by simp at e;subst e;exact ⟨_,rfl,r⟩
 | _,_,i+1,x,.cons _ t,e=>by
  obtain ⟨u,h1,h2⟩:=b8.get (i:=i) (x:=x) t (by simpa using e)
  exact ⟨u,by simpa using h1,h2⟩
theorem b8.set {x:V} {u:Value} (r:cM x u):∀ {xs:List V} {us:List Value} (i:Nat),b8 xs us→b8 (xs.set i x) (us.set i u)
 | _,_,_,.nil=>.nil
 | _,_,0,.cons _ t=>.cons r t
 | _,_,i+1,.cons q t=>.cons q (b8.set r i t)
theorem b8.append:∀ {xs ys:List V} {us ws:List Value},b8 xs us→b8 ys ws→b8 (xs++ys) (us++ws)
 | _,_,_,_,.nil,s=>s
 | _,_,_,_,.cons r t,s=>.cons r (b8.append t s)
theorem b8.take:∀ {xs:List V} {us:List Value} (n:Nat),b8 xs us→b8 (xs.take n) (us.take n)
 | _,_,0,_=>.nil
 | _,_,_+1,.nil=>.nil
 | _,_,n+1,.cons r t=>.cons r (b8.take n t)
theorem b8.drop:∀ {xs:List V} {us:List Value} (n:Nat),b8 xs us→b8 (xs.drop n) (us.drop n)
 | _,_,0,r=>r
 | _,_,_+1,.nil=>.nil
 | _,_,n+1,.cons _ t=>b8.drop n t
def iV:Option V→Option Value→Prop
 | some v,some u=>cM v u
 | none,none=>True
 | _,_=>False
def KV {κ:Type}:List (κ×V)→List (κ×Value)→Prop:=Paired fun (p:κ×V) (q:κ×Value)=>p.1=q.1∧cM p.2 q.2
def kV:Key→V
 | .inl i=>.int i
 | .inr x=>.str x
inductive HO where
 | lst (xs:List V)
 | tup (xs:List V)
 | dK (kvs:List (Key×V)) | dT (kvs:List (List Key×V))
 | set (S:Int→Bool) (n:Nat)
 | ins (C dx:Addr) (fs:List (Str×V))
 | own (x:Addr)
 | xd (fs:List (Str×V))
 | met (f x:Addr)
 | rng (lo hi:Int)
 | frz (o:Obj) (u:HO)
 | tbl (ps:Array Value)
 | ext (φ:Heap→Prop)
abbrev Hp:=Addr→Option HO
def upd (H:Hp) (a:Addr) (o:HO):Hp:=fun b=>if b=a then some o else H b
theorem aA {H:Hp} {a:Addr} {o:HO}:upd H a o a=some o:=by unfold upd;rw [if_pos rfl]
theorem ai {H:Hp} {a b:Addr} {o:HO} (h:b≠a):upd H a o b=H b:=by unfold upd;rw [if_neg h]
theorem cQ {H:Hp} {a b:Addr} {o u:HO} (h:H a=some o) (h':H b=some u) (d:o≠u):a≠b:=by
 intro e;subst e;rw [h] at h';exact d (a8 h')
theorem ah {H:Hp} {a b:Addr} {o:HO} (h:H a=some o) (h':H b=none):a≠b:=by
 intro e;subst e;rw [h] at h';cases h'
section
variable (P:Program) (w:World)
def dZ (H:Hp) (h:Heap) (a:Addr):HO→Prop
 | .lst xs=>xs.length≤sizeLine∧∃ (its:List Value) (n:Nat),b8 xs its∧h.get? a=some { cls:=.type "list",data:=.seq its.toArray n }
 | .tup xs=>xs.length≤sizeLine∧∃ its:List Value,b8 xs its∧IsTup h a its.toArray
 | .dK kvs=>kvs.length≤sizeLine∧(a==sysModules)=false∧∃ vs,KV kvs vs∧h.DictOf (oH P w) a vs
 | .dT kvs=>kvs.length≤sizeLine∧(a==sysModules)=false∧∃ xs:List (List Key×Addr×Value),
   Paired (fun (p:List Key×V) (q:List Key×Addr×Value)=>p.1=q.1∧H q.2.1=some (.tup (p.1.map kV))∧cM p.2 q.2.2) kvs xs ∧
   ∃ o es ep,h.get? a=some o∧o.ExactDict∧o.data = .dict es ep∧es.toList=xs.map (entryOfKey (tupleKind (oH P w)))∧(xs.map (·.1)).Nodup
 | .set S n=>h.SetOf (intKind P w) a S n
 | .ins C dx fs=>H dx=some (.own a)∧fs.length≤1000∧dx≠a∧h.get? a=some (PySem.W.instObj C dx) ∧
   ∃ mA,h.Ns1 dx mA∧(∀ f,iV (fs.lookup f) (mA f))∧PySem.Within mA (fs.map (·.1))
 | .own _=>∃ o,h.get? a=some o
 | .xd fs=>∃ mA,h.Ns1 a mA∧∀ f,iV (fs.lookup f) (mA f)
 | .rng lo hi=>∃ t u v,h.get? a=some { cls:=.type "range",data:=.fields #[.int lo t,.int hi u,.int 1 v] }
 | .frz o u=>h.get? a=some o∧dZ H h a u
 | .tbl ps=>h.get? a=some { cls:=.none,data:=.fields ps }
 | .met f x=>h.get? a=some (PySem.W.methodObj (.ref f) (.ref x))
 | .ext φ=>φ h∧(∃ o,h.get? a=some o)∧∀ h1 h2:Heap,φ h1→(∀ o,h1.get? a=some o→h2.get? a=some o)→φ h2
def HOk (H:Hp) (h:Heap):Prop:=∀ a o,H a=some o→dZ P w H h a o
end
section
variable {P:Program} {w:World} {H H':Hp} {h h':Heap} {a:Addr} {o:HO}
theorem dZ.lt (x:dZ P w H h a o):a<h.objs.size:=by
 cases o with
 | lst xs=>obtain ⟨_,_,_,_,e⟩:=x;exact Heap.lt_size e
 | tup xs=>obtain ⟨_,_,_,p⟩:=x;exact p.lt
 | dK kvs=>obtain ⟨_,_,_,_,o,_,_,e,_⟩:=x;exact Heap.lt_size e
 | dT kvs=>obtain ⟨_,_,_,_,o,_,_,e,_⟩:=x;exact Heap.lt_size e
 | set S n=>obtain ⟨o,_,_,_,e,_⟩:=x;exact Heap.lt_size e
 | ins C dx fs=>obtain ⟨_,_,_,e,_⟩:=x;exact Heap.lt_size e
 | own y=>obtain ⟨_,e⟩:=x;exact Heap.lt_size e
 | xd fs=>obtain ⟨_,⟨_,_,_,e,_⟩,_⟩:=x;exact Heap.lt_size e
 | rng lo hi=>obtain ⟨_,_,_,e⟩:=x;exact Heap.lt_size e
 | frz ob u=>obtain ⟨e,_⟩:=x;exact Heap.lt_size e
 | tbl ps=>exact Heap.lt_size (show h.get? a=some _ from x)
 | met f y=>exact Heap.lt_size (show h.get? a=some _ from x)
 | ext φ=>obtain ⟨_,⟨_,e⟩,_⟩:=x;exact Heap.lt_size e
theorem Paired.mapP {α β:Type} {F G:α→β→Prop}:∀ {l₁:List α} {l₂:List β},Paired F l₁ l₂→(∀ a b,F a b→G a b)→Paired G l₁ l₂
 | _,_,.nil,_=>.nil
 | _,_,.cons r t,f=>.cons (f _ _ r) (Paired.mapP t f)
theorem dZ.stay (x:dZ P w H h a o) (k:∀ b u,(b=a∨H b=some (.own a))→h.get? b=some u→h'.get? b=some u)
  (ho:∀ b,H b=some (.own a)→H' b=some (.own a)) (ht:∀ b xs,H b=some (.tup xs)→H' b=some (.tup xs)):dZ P w H' h' a o:=by
 induction o with
 | lst xs=>obtain ⟨z,its,n,r,e⟩:=x;exact ⟨z,its,n,r,k _ _ (.inl rfl) e⟩
 | tup xs=>obtain ⟨z,its,r,ob,e,c⟩:=x;exact ⟨z,its,r,ob,k _ _ (.inl rfl) e,c⟩
 | dK kvs=>obtain ⟨z,y,vs,r,ob,es,ep,e,c⟩:=x;exact ⟨z,y,vs,r,ob,es,ep,k _ _ (.inl rfl) e,c⟩
 | dT kvs =>
  obtain ⟨z,y,xs,r,ob,es,ep,e,c⟩:=x
  exact ⟨z,y,xs,Paired.mapP r fun p q z=>⟨z.1,ht _ _ z.2.1,z.2.2⟩,ob,es,ep,k _ _ (.inl rfl) e,c⟩
 | set S n=>obtain ⟨ob,es,ep,t,e,c⟩:=x;exact ⟨ob,es,ep,t,k _ _ (.inl rfl) e,c⟩
 | ins C dx fs =>
  obtain ⟨d,z,ne,e,mA,⟨od,es,ep,e2,c⟩,r⟩:=x
  exact ⟨ho _ d,z,ne,k _ _ (.inl rfl) e,mA,⟨od,es,ep,k _ _ (.inr d) e2,c⟩,r⟩
 | own y=>obtain ⟨ob,e⟩:=x;exact ⟨ob,k _ _ (.inl rfl) e⟩
 | xd fs=>obtain ⟨mA,⟨od,es,ep,e,c⟩,r⟩:=x;exact ⟨mA,⟨od,es,ep,k _ _ (.inl rfl) e,c⟩,r⟩
 | rng lo hi=>obtain ⟨t,u,v,e⟩:=x;exact ⟨t,u,v,k _ _ (.inl rfl) e⟩
 | frz ob u ih=>obtain ⟨e,q⟩:=x;exact ⟨k _ _ (.inl rfl) e,ih q⟩
 | tbl ps =>
  have e:h.get? a=some { cls:=.none,data:=.fields ps }:=x
  show h'.get? a=some { cls:=.none,data:=.fields ps }
  exact k a _ (.inl rfl) e
 | met f y =>
  have e:h.get? a=some (PySem.W.methodObj (.ref f) (.ref y)):=x
  show h'.get? a=some (PySem.W.methodObj (.ref f) (.ref y))
  exact k a _ (.inl rfl) e
 | ext φ=>obtain ⟨p,⟨o,e⟩,st⟩:=x;exact ⟨st _ _ p fun o q=>k _ _ (.inl rfl) q,⟨o,k _ _ (.inl rfl) e⟩,st⟩
theorem HOk.lt (x:HOk P w H h) (e:H a=some o):a<h.objs.size:=(x a o e).lt
theorem HOk.fresh (x:HOk P w H h) (e:h.objs.size≤a):H a=none:=by
 cases q:H a with
 | none=>rfl
 | some u=>exact absurd (aT (x.lt q) e) (bK _)
theorem HOk.kept (x:HOk P w H h) (k:∀ b u,h.get? b=some u→h'.get? b=some u):HOk P w H h':=fun a o e =>
 (x a o e).stay (fun b u _ q=>k b u q) (fun _ q=>q) fun _ _ q=>q
theorem HOk.laid (x:HOk P w H h) (k:∀ b u,h.get? b=some u→h'.get? b=some u) (hp:h.objs.size≤a) (new:dZ P w (upd H a o) h' a o):HOk P w (upd H a o) h':=fun b u e=>by
 have hn:=x.fresh hp
 by_cases hb:b=a
 ·subst hb;rw [aA] at e;cases e;exact new
 ·rw [ai hb] at e;exact (x b u e).stay (fun c v _ q=>k c v q) (fun c q=>by rw [ai (ah q hn)];exact q) fun c xs q=>by rw [ai (ah q hn)];exact q
end
def Rd (H:Hp) (a:Addr) (u:HO):Prop:=H a=some u∨∃ o,H a=some (.frz o u)
theorem Rd.ok {P:Program} {w:World} {H:Hp} {h:Heap} {a:Addr} {u:HO} (r:Rd H a u) (x:HOk P w H h):dZ P w H h a u:=by
 rcases r with r | ⟨o,r⟩
 ·exact x a u r
 ·obtain ⟨_,q⟩:=x a _ r
  exact q
def Mut:Option HO→Prop
 | some (.lst _)=>True
 | some (.dK _)=>True
 | some (.dT _)=>True
 | some (.set _ _)=>True
 | some (.ins _ _ _)=>True
 | some (.ext _)=>True
 | _=>False
section
variable {P:Program} {w:World} {H:Hp} {h h':Heap} {x e:Addr} {o':HO}
theorem HOk.write (ok:HOk P w H h) (mu:Mut (H x)) (he:e=x∨H e=some (.own x)) (k:∀ b u,b≠e→h.get? b=some u→h'.get? b=some u) (heo:∃ u,h'.get? e=some u)
  (new:dZ P w (upd H x o') h' x o'):HOk P w (upd H x o') h':=fun b u q=>by
 have nown:∀ c y,H c=some (.own y)→c≠x:=fun c y r z=>by subst z;rw [r] at mu;exact mu
 have ntup:∀ c xs,H c=some (.tup xs)→c≠x:=fun c xs r z=>by subst z;rw [r] at mu;exact mu
 by_cases hb:b=x
 ·subst hb;rw [aA] at q;cases q;exact new
 ·rw [ai hb] at q;by_cases hbe:b=e
  ·have q':H b=some (.own x):=by
    rcases he with z | z
    ·exact absurd (hbe.trans z) hb
    ·rw [hbe];exact z
   rw [q] at q';cases q'
   obtain ⟨v,hv⟩:=heo
   exact ⟨v,by rw [hbe];exact hv⟩
  ·refine (ok b u q).stay (fun c v hc r=>k c v ?_ r) (fun c r=>by rw [ai (nown c b r)];exact r) fun c xs r=>by rw [ai (ntup c xs r)];exact r
   rcases hc with rfl | hc
   ·exact hbe
   ·rintro rfl
    rcases he with z | z
    ·exact nown c b hc z
    ·rw [hc] at z;cases z;exact hb rfl
end
structure Un (fs ex:List Addr) (H H':Hp) (h h':Heap):Prop where
 keep:∀ b o,h.get? b=some o→H b=none→b∉fs→b∉ex→h'.get? b=some o
 slot:∀ b o,h.get? b=some o→H b=none→b∈fs→b∉ex→∃ sl,h'.get? b=some { o with slots:=sl }
 free:∀ b o,h.get? b=some o→H b=none→b∉ex→H' b=none
 there:∀ b o,h.get? b=some o→b∉ex→∃ o',h'.get? b=some o'
 tups:∀ b xs,H b=some (.tup xs)→H' b=some (.tup xs)
 frzs:∀ b o u,H b=some (.frz o u)→H' b=some (.frz o u)
 tbls:∀ b ps,H b=some (.tbl ps)→∃ more,H' b=some (.tbl (ps++more))
section
variable {fs fs' ex ex':List Addr} {H H1 H2:Hp} {h h1 h2 h':Heap} {a x e:Addr} {o:HO}
theorem Un.any (u:Un fs ex H H1 h h1) {b:Addr} {ob:Obj} (q:h.get? b=some ob) (n:H b=none) (hx:b∉ex):∃ sl,h1.get? b=some { ob with slots:=sl }:=by
 by_cases hb:b∈fs
 ·exact u.slot b ob q n hb hx
 ·exact ⟨ob.slots,u.keep b ob q n hb hx⟩
theorem Un.kept (k:∀ b u,h.get? b=some u→h'.get? b=some u):Un fs ex H H h h' :=
 ⟨fun b ob q _ _ _=>k b ob q,fun b ob q _ _ _=>⟨ob.slots,k b ob q⟩,fun _ _ _ n _=>n,fun b ob q _=>⟨ob,k b ob q⟩,fun _ _ q=>q,fun _ _ _ q=>q,fun _ ps q=>⟨#[],by rw [q];simp⟩⟩
theorem Un.refl:Un fs ex H H h h:=Un.kept fun _ _ q=>q
theorem Un.laid (k:∀ b u,h.get? b=some u→h'.get? b=some u) (hp:h.objs.size≤a) (hn:H a=none):Un fs ex H (upd H a o) h h' where
 keep:=fun b u q _ _ _=>k b u q
 slot:=fun b u q _ _ _=>⟨u.slots,k b u q⟩
 free:=fun b u q n _=>by rw [ai (bu (aT (Heap.lt_size q) hp))];exact n
 there:=fun b u q _=>⟨u,k b u q⟩
 tups:=fun b xs q=>by rw [ai (ah q hn)];exact q
 frzs:=fun b u xs q=>by rw [ai (ah q hn)];exact q
 tbls:=fun b ps q=>⟨#[],by rw [ai (ah q hn),q];simp⟩
theorem Un.write (mu:Mut (H x)) (he:e=x∨H e=some (.own x)) (k:∀ b u,b≠e→h.get? b=some u→h'.get? b=some u) (heo:∃ u,h'.get? e=some u):Un fs ex H (upd H x o) h h':=by
 have hx:∀ b,H b=none→b≠x:=fun b n z=>by subst z;rw [n] at mu;exact mu
 have hb:∀ b,H b=none→b≠e:=fun b n z=>by
  subst z;rcases he with r | r
  ·exact hx b n r
  ·rw [n] at r;cases r
 have hm:∀ b u,H b=some u→¬Mut (some u)→b≠x:=fun b u q nm z=>by subst z;rw [q] at mu;exact nm mu
 refine ⟨fun b u q n _ _=>k b u (hb b n) q,fun b u q n _ _=>⟨u.slots,k b u (hb b n) q⟩,fun b u q n _=>by rw [ai (hx b n)];exact n,fun b u q _=>?_,
  fun b xs q=>by rw [ai (hm b _ q fun z=>z)];exact q,fun b u xs q=>by rw [ai (hm b _ q fun z=>z)];exact q,fun b ps q=>⟨#[],by rw [ai (hm b _ q fun z=>z),q];simp⟩⟩
 by_cases hbe:b=e
 ·subst hbe;exact heo
 ·exact ⟨u,k b u hbe q⟩
end
def trk (h:Heap) (H:Hp):List Addr:=(List.range h.objs.size).filter fun a=>(H a).isSome
def oR (h:Heap) (H:Hp):Heap:=PySem.W.hideAll h (trk h H)
theorem tN (h:Heap) (H:Hp):(oR h H).objs.size=h.objs.size:=PySem.W.hideAll_size _ _
theorem uT {h:Heap} {H:Hp} {b:Addr} {o:Obj} (e:h.get? b=some o) (n:H b=none):(oR h H).get? b=some o :=
 PySem.W.hideAll_get _ e fun hm=>by
  have q:(H b).isSome=true:=(List.mem_filter.mp hm).2
  rw [n] at q;simp at q
theorem vX {h:Heap} {H:Hp} {b:Addr} {o:Obj} (e:(oR h H).get? b=some o):h.get? b=some o∧H b=none:=by
 have e':h.get? b=some o:=PySem.W.of_hideAll (trk h H) e
 refine ⟨e',?_⟩
 cases q:H b with
 | none=>rfl
 | some x =>
  have hm:b∈trk h H:=List.mem_filter.mpr ⟨List.mem_range.mpr (Heap.lt_size e'),by simp [q]⟩
  have z:(oR h H).get? b=none:=PySem.W.hideAll_none (trk h H) hm
  rw [z] at e;cases e
structure Mod (K:Fg_) (mg:Str→Option Value) (base:Heap):Prop where
 kin:K.In base
 glob:base.Ns mainGlobals mg
 blt:∃ mb,base.Ns builtinsNs mb∧∀ x:Str,x≠"__name__"→mb x=bootBuiltins x
 nolimit:base.NoLimit
structure Cx where
 prog:Program
 w:World
 K:Fg_
 mg:Str→Option Value
 base:Heap
 A:Around
 N:List Str
 s_0:Shared
 H_0:Hp
 env:Env
 outer:List Env
 stack:List Env
 ex:List Addr
 fn:Str→Bool
 calm:Bool
 pn:List (Addr×Obj)
 xe:Value→Shared→Prop
def frs (l:List Env):List Addr:=l.filterMap (·.frame)
abbrev Cx.fs (X:Cx):List Addr:=frs X.outer
def Vis (sc:Scope) (x:Str):Prop:=sc.names.lookup x=some .local∨sc.names.lookup x=some .cell∨sc.names.lookup x=some .free
def Loc (sc:Scope) (x:Str):Prop:=sc.names.lookup x=some .local∨sc.names.lookup x=some .cell
def Look (env:Env) (h:Heap) (m:Str→Option Value) (x:Str) (u:Value):Prop :=
 (env.kindOf x=some .local∧m x=some u)∨((env.kindOf x=some .cell∨env.kindOf x=some .free)∧∃ c,env.cells.lookup x=some c∧h.IsCell c (some u))
structure Cx.Ok (X:Cx):Prop where
 mod:Mod X.K X.mg X.base
 kind:X.env.scope.kind = .function
 glob:X.env.globals=mainGlobals
 blt:X.env.builtins=builtinsNs
 above:X.s_0.heap.objs.size≤X.env.locals
 inj:∀ x y c,X.env.cells.lookup x=some c→X.env.cells.lookup y=some c→x=y
 has:∀ x,(X.env.kindOf x=some .cell∨X.env.kindOf x=some .free)→∃ c,X.env.cells.lookup x=some c
 cab:∀ x c,X.fn x=true→X.env.cells.lookup x=some c→X.s_0.heap.objs.size≤c
 hd:X.calm=true→X.A.handled=none
 frames:X.A.frames=some X.stack
 stk:X.stack=X.outer∨(X.stack=X.env::X.outer∧X.env.frame=some X.env.locals)
 exf:∀ b∈X.ex,b≠X.env.locals∧∀ x c,X.env.cells.lookup x=some c→c≠b
 bs:∀ b o,X.base.get? b=some o→X.s_0.heap.get? b=some o∧X.H_0 b=none
 bsz:X.base.objs.size≤X.s_0.heap.objs.size
 noex:∀ b o,X.base.get? b=some o→b∉X.ex
 exfs:∀ b∈X.ex,b∉X.fs
 funs:X.s_0.heap.FunFrames X.base X.outer
 frf:∀ b∈X.fs,X.H_0 b=none
structure Inv (X:Cx) (pins:List (Addr×Obj)) (σ:List (Option V)) (H:Hp) (s:Shared):Prop where
 ok:X.Ok
 os:s.os=X.s_0.os
 bare:AllBare s.gens
 base:Un X.fs X.ex X.H_0 H X.s_0.heap s.heap
 loc:∃ m,s.heap.Ns X.env.locals m∧∀ (i:Nat) (x:Str) (v:V),X.N[i]? = some x→σ[i]? = some (some v)→Vis X.env.scope x→∃ u,cM v u∧Look X.env s.heap m x u
 cell:∀ x c,X.env.cells.lookup x=some c→∃ v,s.heap.IsCell c v
 free:H X.env.locals=none
 freeC:∀ x c,X.env.cells.lookup x=some c→H c=none
 pin:∀ p∈X.pn++pins,s.heap.get? p.1=some p.2∧H p.1=none∧p.1≠X.env.locals∧p.1∉X.fs∧∀ v,p.2.data≠.cell v
 hok:HOk X.prog X.w H s.heap
 len:σ.length=X.N.length
section
variable {X:Cx} {pins:List (Addr×Obj)} {σ:List (Option V)} {H H':Hp} {s:Shared} {h':Heap}
theorem Cx.Ok.nofr (ok:X.Ok) {b:Addr} {o:Obj} (e:X.base.get? b=some o):b∉X.fs:=fun hb=>by
 have:=(ok.funs.mem hb).1
 rw [e] at this;cases this
theorem Inv.bs (I:Inv X pins σ H s):∀ b o,X.base.get? b=some o→s.heap.get? b=some o∧H b=none:=fun b o e =>
 ⟨I.base.keep b o (I.ok.bs b o e).1 (I.ok.bs b o e).2 (I.ok.nofr e) (I.ok.noex b o e),I.base.free b o (I.ok.bs b o e).1 (I.ok.bs b o e).2 (I.ok.noex b o e)⟩
theorem Inv.bk (I:Inv X pins σ H s):∀ b o,X.base.get? b=some o→s.heap.get? b=some o:=fun b o e=>(I.bs b o e).1
theorem Inv.mod (I:Inv X pins σ H s):Mod X.K X.mg X.base:=I.ok.mod
theorem Inv.kIn (I:Inv X pins σ H s):X.K.In s.heap:=I.ok.mod.kin.keeps I.bk
theorem Inv.lt (I:Inv X pins σ H s):X.env.locals<s.heap.objs.size:=let ⟨_,hn,_⟩:=I.loc;hn.lt
theorem Inv.sz (I:Inv X pins σ H s):X.s_0.heap.objs.size≤s.heap.objs.size:=bF I.ok.above (Nat.le_of_lt I.lt)
theorem Inv.nofs (I:Inv X pins σ H s) {a:Addr} (h:s.heap.objs.size≤a):a∉X.fs:=fun hb=>by
 obtain ⟨_,o,ho,_⟩:=I.ok.funs.mem hb
 exact absurd (aT (Heap.lt_size ho) (bF I.sz h)) (bK _)
theorem Inv.cne (I:Inv X pins σ H s):∀ x c,X.env.cells.lookup x=some c→c≠X.env.locals:=fun x c e z=>by
 obtain ⟨v,o,ho,hd⟩:=I.cell x c e
 obtain ⟨m,⟨o',es,ep,ho',hd',_⟩,_⟩:=I.loc
 rw [z,ho'] at ho;cases ho;rw [hd'] at hd;cases hd
theorem Inv.funs (I:Inv X pins σ H s):s.heap.FunFrames X.base X.outer:=by
 have all:∀ (l:List Env),(∀ b∈frs l,b∈X.fs)→X.s_0.heap.FunFrames X.base l→s.heap.FunFrames X.base l:=by
  intro l;induction l with
  | nil=>intro _ _;trivial
  | cons env r ih =>
   intro hs hl;obtain ⟨hk,⟨L,o,hf,hn,ho,hd⟩,hr⟩:=hl
   have hL:L∈X.fs:=hs L (by unfold frs;rw [fV,hf];exact aR)
   obtain ⟨sl,e⟩:=I.base.slot L o ho (I.ok.frf L hL) hL fun z=>I.ok.exfs L z hL
   exact ⟨hk,⟨L,_,hf,hn,e,hd⟩,ih (fun b hb=>hs b (by unfold frs;rw [fV,hf];exact ax _ hb)) hr⟩
 exact all X.outer (fun _ hb=>hb) I.ok.funs
theorem Inv.stack (I:Inv X pins σ H s):s.heap.FunFrames X.base X.stack:=by
 rcases I.ok.stk with e | ⟨e,hf⟩
 ·rw [e];exact I.funs
 ·rw [e];obtain ⟨m,hn,_⟩:=I.loc
  refine .cons (by rw [I.ok.kind];decide) hf hn ?_ I.funs
  exact Heap.get?_none_of_le (bF I.ok.bsz I.ok.above)
theorem Inv.stkSub (I:Inv X pins σ H s):∀ b∈frs X.stack,b∈X.env.locals::X.fs:=fun b hb=>by
 rcases I.ok.stk with e | ⟨e,hf⟩
 ·rw [e] at hb;exact ax _ hb
 ·rw [e] at hb;unfold frs at hb;rw [fV,hf] at hb;exact hb
theorem Inv.stkFree (I:Inv X pins σ H s):∀ b∈frs X.stack,H b=none:=fun b hb=>by
 rcases aB.mp (I.stkSub b hb) with e | hb
 ·rw [e];exact I.free
 ·obtain ⟨_,o,ho,_⟩:=I.ok.funs.mem hb
  exact I.base.free b o ho (I.ok.frf b hb) fun z=>I.ok.exfs b z hb
theorem Inv.step {g':Array GenState} {t':Nat} {d':Drawn} {ch:List Addr} (I:Inv X pins σ H s)
  (hch:∀ b∈ch,(b∈X.ex∨X.s_0.heap.objs.size≤b)∧b≠X.env.locals∧(∀ x c,X.env.cells.lookup x=some c→c≠b)∧∀ p∈X.pn++pins,p.1≠b)
  (keep:∀ b o,b≠X.env.locals→b∉X.fs→b∉ch→s.heap.get? b=some o→H b=none→h'.get? b=some o)
  (slot:∀ b o,b≠X.env.locals→b∈X.fs→b∉ch→s.heap.get? b=some o→H b=none→∃ sl,h'.get? b=some { o with slots:=sl }) (free:∀ b o,b∉ch→s.heap.get? b=some o→H b=none→H' b=none)
  (there:∀ b o,b∉ch→s.heap.get? b=some o→∃ o',h'.get? b=some o')
  (tups:∀ b xs,H b=some (.tup xs)→H' b=some (.tup xs)) (frzs:∀ b o u,H b=some (.frz o u)→H' b=some (.frz o u)) (tbls:∀ b ps,H b=some (.tbl ps)→∃ more,H' b=some (.tbl (ps++more)))
  (ns:∀ m,s.heap.Ns X.env.locals m→h'.Ns X.env.locals m) (hok:HOk X.prog X.w H' h') (hg:AllBare g') :
  Inv X pins σ H' { s with heap:=h',gens:=g',drawn:=d',toks:=t' }:=by
 have neL:∀ b o,X.s_0.heap.get? b=some o→b≠X.env.locals:=fun b o e=>bu (aT (Heap.lt_size e) I.ok.above)
 have neC:∀ b o,X.s_0.heap.get? b=some o→b∉X.ex→b∉ch:=fun b o e hx hb=>by
  rcases (hch b hb).1 with z | z
  ·exact hx z
  ·exact absurd (aT (Heap.lt_size e) z) (bK _)
 have cellK:∀ x c,X.env.cells.lookup x=some c→∀ v,s.heap.IsCell c v→h'.IsCell c v:=fun x c e v ⟨o,ho,hd⟩=>by
  have nch:c∉ch:=fun z=>(hch c z).2.2.1 x c e rfl
  by_cases hc:c∈X.fs
  ·obtain ⟨sl,q⟩:=slot c o (I.cne x c e) hc nch ho (I.freeC x c e)
   exact ⟨_,q,hd⟩
  ·exact ⟨o,keep c o (I.cne x c e) hc nch ho (I.freeC x c e),hd⟩
 refine ⟨I.ok,I.os,hg,⟨fun b o e n hb hx=>?_,fun b o e n hb hx=>?_,fun b o e n hx=>?_,fun b o e hx=>?_,fun b xs e=>tups b xs (I.base.tups b xs e),fun b o xs e=>frzs b o xs (I.base.frzs b o xs e),fun b ps e=>?_⟩,?_,fun x c e=>?_,?_,fun x c e=>?_,fun p hp=>?_,hok,I.len⟩
 ·exact keep b o (neL b o e) hb (neC b o e hx) (I.base.keep b o e n hb hx) (I.base.free b o e n hx)
 ·obtain ⟨sl,e1⟩:=I.base.slot b o e n hb hx
  obtain ⟨sl',e2⟩:=slot b _ (neL b o e) hb (neC b o e hx) e1 (I.base.free b o e n hx)
  exact ⟨sl',e2⟩
 ·obtain ⟨o',e1⟩:=I.base.there b o e hx
  exact free b o' (neC b o e hx) e1 (I.base.free b o e n hx)
 ·obtain ⟨o',e1⟩:=I.base.there b o e hx
  exact there b o' (neC b o e hx) e1
 ·obtain ⟨m1,e1⟩:=I.base.tbls b ps e
  obtain ⟨m2,e2⟩:=tbls b _ e1
  exact ⟨m1++m2,by rw [e2,Array.append_assoc]⟩
 ·obtain ⟨m,hn,hl⟩:=I.loc
  refine ⟨m,ns m hn,fun i x v e1 e2 e3=>?_⟩
  obtain ⟨u,r,l⟩:=hl i x v e1 e2 e3
  refine ⟨u,r,?_⟩
  rcases l with l | ⟨k,c,e,z⟩
  ·exact .inl l
  ·exact .inr ⟨k,c,e,cellK x c e _ z⟩
 ·obtain ⟨v,z⟩:=I.cell x c e
  exact ⟨v,cellK x c e v z⟩
 ·obtain ⟨m,⟨o,_,_,ho,_⟩,_⟩:=I.loc
  exact free _ o (fun z=>(hch _ z).2.1 rfl) ho I.free
 ·obtain ⟨v,o,ho,hd⟩:=I.cell x c e
  exact free c o (fun z=>(hch c z).2.2.1 x c e rfl) ho (I.freeC x c e)
 ·obtain ⟨e,n,ne,nf,d⟩:=I.pin p hp
  have nch:p.1∉ch:=fun z=>(hch p.1 z).2.2.2 p hp rfl
  exact ⟨keep p.1 p.2 ne nf nch e n,free p.1 p.2 nch e n,ne,nf,d⟩
theorem Inv.un {t':Nat} (I:Inv X pins σ H s) (u:Un X.fs [] H H' s.heap h') (hok:HOk X.prog X.w H' h'):Inv X pins σ H' { s with heap:=h',toks:=t' }:=by
 obtain ⟨m,⟨o,es,ep,ho,r⟩,_⟩:=id I.loc
 obtain ⟨sl,hL⟩:=u.any ho I.free (by simp)
 exact I.step (g':=s.gens) (d':=s.drawn) (ch:=[]) (fun _ z=>nomatch z) (fun b o _ hb _ e n=>u.keep b o e n hb (by simp)) (fun b o _ hb _ e n=>u.slot b o e n hb (by simp)) (fun b o _ e n=>u.free b o e n (by simp)) (fun b o _ e=>u.there b o e (by simp)) u.tups u.frzs u.tbls (fun m' hm=>by
  obtain ⟨o',es',ep',ho',r'⟩:=hm
  rw [ho] at ho';cases ho'
  exact ⟨_,es',ep',hL,r'⟩) hok I.bare
theorem Inv.call {g':Array GenState} {t':Nat} {d':Drawn} {ch:List Addr} (I:Inv X pins σ H s) (u:Un (frs X.stack) ch H H' s.heap h') (hok:HOk X.prog X.w H' h') (hg:AllBare g')
  (hch:∀ b∈ch,(b∈X.ex∨X.s_0.heap.objs.size≤b)∧b≠X.env.locals∧(∀ x c,X.env.cells.lookup x=some c→c≠b)∧∀ p∈X.pn++pins,p.1≠b) :
  Inv X pins σ H' { s with heap:=h',gens:=g',drawn:=d',toks:=t' }:=by
 obtain ⟨m,⟨o,es,ep,ho,r⟩,_⟩:=id I.loc
 obtain ⟨sl,hL⟩:=u.any ho I.free fun z=>(hch _ z).2.1 rfl
 exact I.step (ch:=ch) hch (fun b o hL hb hc e n=>u.keep b o e n (fun z=>(aB.mp (I.stkSub b z)).elim hL hb) hc) (fun b o _ _ hc e n=>u.any e n hc) (fun b o hc e n=>u.free b o e n hc) (fun b o hc e=>u.there b o e hc) u.tups u.frzs u.tbls (fun m' hm=>by
  obtain ⟨o',es',ep',ho',r'⟩:=hm
  rw [ho] at ho';cases ho'
  exact ⟨_,es',ep',hL,r'⟩) hok hg
theorem Inv.turned {t':Nat} {it:Addr} (I:Inv X pins σ H s) (k:∀ b o,b≠it→s.heap.get? b=some o→h'.get? b=some o) (hn:H it=none) (hL:it≠X.env.locals)
  (h1:it∈X.ex∨X.s_0.heap.objs.size≤it) (h2:∀ x c,X.env.cells.lookup x=some c→c≠it) (h3:∀ p∈X.pn++pins,p.1≠it):Inv X pins σ H { s with heap:=h',toks:=t' }:=by
 have nit:∀ b u,H b=some u→b≠it:=fun b u e z=>by rw [z,hn] at e;cases e
 refine I.step (g':=s.gens) (d':=s.drawn) (ch:=[it]) (fun b hb=>?_) (fun b o _ _ hc e _=>k b o (fun z=>hc (by simp [z])) e) (fun b o _ _ hc e _=>⟨o.slots,k b o (fun z=>hc (by simp [z])) e⟩) (fun _ _ _ _ n=>n)
  (fun b o hc e=>⟨o,k b o (fun z=>hc (by simp [z])) e⟩) (fun _ _ e=>e) (fun _ _ _ e=>e) (fun b ps e=>⟨#[],by rw [e];simp⟩) (fun m hm=>?_) (fun b u e=>?_) I.bare
 ·have e:b=it:=by simpa using hb
  subst e;exact ⟨h1,hL,h2,h3⟩
 ·obtain ⟨o,es,ep,ho,r⟩:=hm
  exact ⟨o,es,ep,k _ o (Ne.symm hL) ho,r⟩
 ·refine (I.hok b u e).stay (fun c v hc q=>k c v ?_ q) (fun _ q=>q) fun _ _ q=>q
  rcases hc with z | z
  ·rw [z];exact nit b u e
  ·exact nit c _ z
theorem Inv.tok (I:Inv X pins σ H s) (t:Nat):Inv X pins σ H { s with toks:=t }:=I.un (h':=s.heap) (t':=t) Un.refl I.hok
theorem Inv.kept {t':Nat} (I:Inv X pins σ H s) (k:∀ b u,s.heap.get? b=some u→h'.get? b=some u):Inv X pins σ H { s with heap:=h',toks:=t' }:=I.un (Un.kept k) (I.hok.kept k)
theorem Inv.laid {a:Addr} {o:HO} {t':Nat} (I:Inv X pins σ H s) (k:∀ b u,s.heap.get? b=some u→h'.get? b=some u) (hp:s.heap.objs.size≤a) (new:dZ X.prog X.w (upd H a o) h' a o) :
  Inv X pins σ (upd H a o) { s with heap:=h',toks:=t' }:=I.un (Un.laid k hp (I.hok.fresh hp)) (I.hok.laid k hp new)
theorem Inv.write {x e:Addr} {o:HO} {t':Nat} (I:Inv X pins σ H s) (mu:Mut (H x)) (he:e=x∨H e=some (.own x)) (k:∀ b u,b≠e→s.heap.get? b=some u→h'.get? b=some u) (heo:∃ u,h'.get? e=some u)
  (new:dZ X.prog X.w (upd H x o) h' x o):Inv X pins σ (upd H x o) { s with heap:=h',toks:=t' }:=I.un (Un.write mu he k heo) (I.hok.write mu he k heo new)
theorem Inv.weak {σ':List (Option V)} (I:Inv X pins σ H s) (hl:σ'.length=σ.length) (w:∀ (i:Nat) v,σ'[i]? = some (some v)→σ[i]? = some (some v)):Inv X pins σ' H s :=
 ⟨I.ok,I.os,I.bare,I.base,let ⟨m,hn,hl'⟩:=I.loc;⟨m,hn,fun i x v e1 e2 e3=>hl' i x v e1 (w i v e2) e3⟩,I.cell,I.free,I.freeC,I.pin,I.hok,hl.trans I.len⟩
theorem Inv.pins_of {pins':List (Addr×Obj)} (I:Inv X pins σ H s) (h:∀ p∈pins',s.heap.get? p.1=some p.2∧H p.1=none∧p.1≠X.env.locals∧p.1∉X.fs∧∀ v,p.2.data≠.cell v):Inv X pins' σ H s :=
 ⟨I.ok,I.os,I.bare,I.base,I.loc,I.cell,I.free,I.freeC,fun p hp=>(aF.mp hp).elim (fun z=>I.pin p (az _ z)) (h p),I.hok,I.len⟩
theorem my {N:List Str} (hN:N.Nodup) {i j:Nat} {x:Str} (a:N[i]? = some x) (b:N[j]? = some x):i=j:=by
 obtain ⟨h1,e1⟩:=aN.mp a
 obtain ⟨h2,e2⟩:=aN.mp b
 exact (List.getElem_inj hN).mp (e1.trans e2.symm)
theorem sS {M:Model} {A:Around} {E:Value→Shared→Prop} {i:Nat} {x:Str} {v:V} {u:Value} {Q:Unit→Shared→Prop} (I:Inv X pins σ H s) (hN:X.N.Nodup) (hi:X.N[i]? = some x) (hx:Loc X.env.scope x) (r:cM v u)
  (h:∀ s',Inv X pins (σ.set i (some v)) H s'→(∃ a,Heap.SameBut a s.heap s'.heap∧(a=X.env.locals∨X.env.cells.lookup x=some a))→Q () s') (hf:X.fn x=true∨X.env.scope.names.lookup x=some .local:=by first | exact .inl rfl | exact .inr rfl | assumption):wpAny M A (storeName X.env x u) Q E s:=by
 obtain ⟨m,hn,hl⟩:=id I.loc
 have hcls:(X.env.scope.kind==.class||(X.env.scope.kind==.module&&X.env.locals != X.env.globals))=false:=by rw [I.ok.kind];rfl
 have hiσ:i<σ.length:=by rw [I.len];exact (aN.mp hi).1
 have cne:=I.cne
 have tracked:∀ {a:Addr} {h':Heap},(∃ o,s.heap.get? a=some o∧H a=none)→Heap.SameBut a s.heap h'→HOk X.prog X.w H h':=fun {a h'} ha hs b ob e=>by
  obtain ⟨_,_,hfree⟩:=ha
  refine (I.hok b ob e).stay (fun c w' hc q=>(hs.2 c ?_).trans q) (fun _ q=>q) fun _ _ q=>q
  rintro rfl
  rcases hc with rfl | hc
  ·rw [hfree] at e;cases e
  ·rw [hfree] at hc;cases hc
 rcases hx with hk | hk
 ·refine wpAny_storeName_local hk hn (fun h' hn' hs=>?_) hcls
  obtain ⟨oL,_,_,hoL,_⟩:=id hn
  refine h _ ⟨I.ok,I.os,I.bare,⟨fun b o e n hb hx=>?_,fun b o e n hb hx=>?_,I.base.free,fun b o e hx=>?_,I.base.tups,I.base.frzs,I.base.tbls⟩,⟨_,hn',fun j y v' e1 e2 e3=>?_⟩,fun y c e=>?_,I.free,I.freeC,fun p hp=>?_,tracked ⟨oL,hoL,I.free⟩ hs,by simpa using I.len⟩ ⟨_,hs,.inl rfl⟩
  ·exact (hs.2 b (bu (aT (Heap.lt_size e) I.ok.above))).trans (I.base.keep b o e n hb hx)
  ·obtain ⟨sl,e1⟩:=I.base.slot b o e n hb hx
   exact ⟨sl,(hs.2 b (bu (aT (Heap.lt_size e) I.ok.above))).trans e1⟩
  ·obtain ⟨o',e1⟩:=I.base.there b o e hx
   exact ⟨o',(hs.2 b (bu (aT (Heap.lt_size e) I.ok.above))).trans e1⟩
  ·by_cases hj:j=i
   ·subst hj;rw [hi] at e1;cases e1;rw [fm hiσ] at e2;cases e2;exact ⟨u,r,.inl ⟨hk,by simp⟩⟩
   ·rw [fP (Ne.symm hj)] at e2;obtain ⟨u',r',q⟩:=hl j y v' e1 e2 e3
    refine ⟨u',r',?_⟩
    rcases q with ⟨k,e⟩ | ⟨k,c,e,z⟩
    ·refine .inl ⟨k,?_⟩
     have:y≠x:=fun e=>hj (my hN e1 (e▸hi))
     simp [this,e]
    ·exact .inr ⟨k,c,e,z.sameBut hs (cne y c e)⟩
  ·obtain ⟨w',z⟩:=I.cell y c e
   exact ⟨w',z.sameBut hs (cne y c e)⟩
  ·obtain ⟨e,n,ne,nf,d⟩:=I.pin p hp
   exact ⟨(hs.2 p.1 ne).trans e,n,ne,nf,d⟩
 ·have hfn:X.fn x=true:=by
   rcases hf with z | z
   ·exact z
   ·rw [z] at hk;cases hk
  obtain ⟨c,hc⟩:=I.ok.has x (.inl hk)
  obtain ⟨w',z⟩:=I.cell x c hc
  refine wpAny_storeName_cell I.ok.kind hk hc z (fun h' hc' hs=>?_)
  obtain ⟨oc,hoc,hocd⟩:=id z
  refine h { s with heap:=h' } ⟨I.ok,I.os,I.bare,⟨fun b o e n hb hx=>?_,fun b o e n hb hx=>?_,I.base.free,fun b o e hx=>?_,I.base.tups,I.base.frzs,I.base.tbls⟩,⟨m,hn.sameBut hs (Ne.symm (cne x c hc)),fun j y v' e1 e2 e3=>?_⟩,fun y c' e=>?_,I.free,I.freeC,fun p hp=>?_,tracked ⟨oc,hoc,I.freeC x c hc⟩ hs,by simpa using I.len⟩ ⟨c,hs,.inr hc⟩
  ·exact (hs.2 b (bu (aT (Heap.lt_size e) (I.ok.cab x c hfn hc)))).trans (I.base.keep b o e n hb hx)
  ·obtain ⟨sl,e1⟩:=I.base.slot b o e n hb hx
   exact ⟨sl,(hs.2 b (bu (aT (Heap.lt_size e) (I.ok.cab x c hfn hc)))).trans e1⟩
  ·obtain ⟨o',e1⟩:=I.base.there b o e hx
   exact ⟨o',(hs.2 b (bu (aT (Heap.lt_size e) (I.ok.cab x c hfn hc)))).trans e1⟩
  ·by_cases hj:j=i
   ·subst hj;rw [hi] at e1;cases e1;rw [fm hiσ] at e2;cases e2;exact ⟨u,r,.inr ⟨.inl hk,c,hc,hc'⟩⟩
   ·rw [fP (Ne.symm hj)] at e2;obtain ⟨u',r',q⟩:=hl j y v' e1 e2 e3
    refine ⟨u',r',?_⟩
    rcases q with q | ⟨k,c',e,z'⟩
    ·exact .inl q
    ·refine .inr ⟨k,c',e,z'.sameBut hs ?_⟩
     rintro rfl
     exact hj (my hN e1 (I.ok.inj _ _ _ e hc▸hi))
  ·by_cases hcc:c'=c
   ·subst hcc;exact ⟨_,hc'⟩
   ·obtain ⟨w2,z2⟩:=I.cell y c' e
    exact ⟨w2,z2.sameBut hs hcc⟩
  ·obtain ⟨e,n,ne,nf,d⟩:=I.pin p hp
   refine ⟨(hs.2 p.1 ?_).trans e,n,ne,nf,d⟩
   intro q;rw [q,hoc] at e;have q':oc=p.2:=a8 e
   exact d w' (by rw [←q'];exact hocd)
theorem jz {M:Model} {A:Around} {E:Value→Shared→Prop} {i:Nat} {x:Str} {v:V} {u:Value} {Q:Unit→Shared→Prop} (I:Inv X pins σ H s) (hN:X.N.Nodup) (hi:X.N[i]? = some x) (hx:Loc X.env.scope x) (r:cM v u)
  (h:∀ s',Inv X pins (σ.set i (some v)) H s'→Q () s') (hf:X.fn x=true∨X.env.scope.names.lookup x=some .local:=by first | exact .inl rfl | exact .inr rfl | assumption):wpAny M A (storeName X.env x u) Q E s :=
 sS I hN hi hx r (fun s' I' _=>h s' I') hf
theorem Inv.call' {s':Shared} {ch:List Addr} (I:Inv X pins σ H s) (ho:s'.os=s.os) (u:Un (frs X.stack) ch H H' s.heap s'.heap) (hok:HOk X.prog X.w H' s'.heap) (hg:AllBare s'.gens)
  (hch:∀ b∈ch,(b∈X.ex∨X.s_0.heap.objs.size≤b)∧b≠X.env.locals∧(∀ x c,X.env.cells.lookup x=some c→c≠b)∧∀ p∈X.pn++pins,p.1≠b):Inv X pins σ H' s':=by
 obtain ⟨h',g',d',t',o'⟩:=s'
 have e:o'=s.os:=ho
 subst e;exact I.call (g':=g') (t':=t') (d':=d') u hok hg hch
end
abbrev XK:=Value→Option Addr→Hp→Prop
abbrev St:=List (Option V)
abbrev VK:=V→Hp→Prop
abbrev TE:=St→Hp→VK→Prop
abbrev TT:=St→Hp→(Bool→Hp→Prop)→Prop
abbrev TA:=St→Hp→(List V→Hp→Prop)→Prop
structure iW where
 nx:St→Hp→Prop
 rt:VK
 bk:St→Hp→Prop:=fun _ _=>False
 ct:St→Hp→Prop:=fun _ _=>False
abbrev TS:=iW→St→Hp→Prop
def EP (X:Cx) (pins:List (Addr×Obj)) (σ:St) (Q:VK) (u:Value) (s':Shared):Prop:=∃ v H',Inv X pins σ H' s'∧cM v u∧Q v H'
def TP (X:Cx) (pins:List (Addr×Obj)) (σ:St) (Q:Bool→Hp→Prop) (b:Bool) (s':Shared):Prop:=∃ H',Inv X pins σ H' s'∧Q b H'
def AP (X:Cx) (pins:List (Addr×Obj)) (σ:St) (Q:List V→Hp→Prop) (us:List Value) (s':Shared):Prop:=∃ vs H',Inv X pins σ H' s'∧b8 vs us∧Q vs H'
def SP (X:Cx) (pins:List (Addr×Obj)) (D:iW) (f:Flow) (s':Shared):Prop :=
 match f with
 | .next=>∃ σ' H',Inv X pins σ' H' s'∧D.nx σ' H'
 | .brk=>∃ σ' H',Inv X pins σ' H' s'∧D.bk σ' H'
 | .cont=>∃ σ' H',Inv X pins σ' H' s'∧D.ct σ' H'
 | .ret u=>∃ v σ' H',Inv X pins σ' H' s'∧cM v u∧D.rt v H'
def PE (X:Cx) (e:Expr) (t:TE):Prop :=
 ∀ (pins:List (Addr×Obj)) (s:Shared) (σ:St) (H:Hp) (Q:VK),Inv X pins σ H s→t σ H Q→wpAny (model X.prog X.w) X.A (eval e X.env) (EP X pins σ Q) X.xe s
def PT (X:Cx) (e:Expr) (t:TT):Prop :=
 ∀ (pins:List (Addr×Obj)) (s:Shared) (σ:St) (H:Hp) (Q:Bool→Hp→Prop),Inv X pins σ H s→t σ H Q→wpAny (model X.prog X.w) X.A (isTrue e X.env (eval e X.env)) (TP X pins σ Q) X.xe s
def PW (X:Cx) (e:Expr) (t:TT):Prop :=
 ∀ (whole:Sem Value) (pins:List (Addr×Obj)) (s:Shared) (σ:St) (H:Hp) (Q:Bool→Hp→Prop),Inv X pins σ H s→t σ H Q→wpAny (model X.prog X.w) X.A (isTrue e X.env whole) (TP X pins σ Q) X.xe s
theorem PW.pt {X:Cx} {e:Expr} {t:TT} (h:PW X e t):PT X e t:=h _
def PA (X:Cx) (es:List Expr) (t:TA):Prop :=
 ∀ (pos:Pos) (pins:List (Addr×Obj)) (s:Shared) (σ:St) (H:Hp) (Q:List V→Hp→Prop),Inv X pins σ H s→t σ H Q→wpAny (model X.prog X.w) X.A (spliced (backTo pos (starEach es X.env))) (AP X pins σ Q) X.xe s
def PS (X:Cx) (st:Stmt) (t:TS):Prop :=
 ∀ (pins:List (Addr×Obj)) (s:Shared) (σ:St) (H:Hp) (D:iW),Inv X pins σ H s→t D σ H→wpAny (model X.prog X.w) X.A (exec st X.env) (SP X pins D) X.xe s
def PSs (X:Cx) (st:List Stmt) (t:TS):Prop :=
 ∀ (pins:List (Addr×Obj)) (s:Shared) (σ:St) (H:Hp) (D:iW),Inv X pins σ H s→t D σ H→wpAny (model X.prog X.w) X.A (execs st X.env) (SP X pins D) X.xe s
theorem thn {α:Type} {t:Sem α} {Q Q':α→Shared→Prop} {M:Model} {A:Around} {E:Value→Shared→Prop} {s:Shared} (h:wpAny M A t Q E s) (hQ:∀ a s,Q a s→Q' a s):wpAny M A t Q' E s:=wpAny_mono h hQ fun _ _ x=>x
section
variable {X:Cx}
def qw (i:Nat):TE:=fun σ H Q=>∃ v,σ[i]? = some (some v)∧Q v H
def tC (v:V):TE:=fun _ H Q=>Q v H
theorem yG {i:Nat} {x:Str} {pos:Pos} (hN:X.N[i]? = some x) (hv:Vis X.env.scope x) (hd:(x==("__debug__" : Str))=false:=by decide) (hcd:(x==("__classdict__" : Str))=false:=by decide):PE X (.Name x pos) (qw i):=by
 intro pins s σ H Q I h;obtain ⟨v,e,h⟩:=h
 obtain ⟨m,hn,hl⟩:=I.loc
 obtain ⟨u,r,l⟩:=hl i x v hN e hv
 have fin:EP X pins σ Q u s:=⟨v,H,I,r,h⟩
 rcases l with ⟨hk,hm⟩ | ⟨hk,c,hc,hcell⟩
 ·exact wpAny_Name (wpAny_loadName_local I.ok.kind hk hn hm fin) hd
 ·rcases hk with hk | hk
  ·exact wpAny_Name (wpAny_loadName_cell I.ok.kind hk hc hcell fin) hd
  ·exact wpAny_Name (wpAny_loadName_free I.ok.kind hk hc hcell fin hcd) hd
theorem aX {i j pos}:PE X (.Constant (.int i) j pos) (tC (.int i)):=fun _ _ _ H _ I h=>wpAny_Constant_int ⟨.int i,H,I.tok _,⟨_,rfl⟩,h⟩
def Gl (X:Cx) (x:Str):Prop:=X.env.kindOf x=some .globalImplicit
theorem fW {E:Value→Shared→Prop} {pins:List (Addr×Obj)} {s:Shared} {σ:St} {H:Hp} {x:Str} {u:Value} {pos:Pos} {Q:Value→Shared→Prop} (I:Inv X pins σ H s) (hg:Gl X x) (hm:X.mg x=some u) (h:Q u s)
  (hd:(x==("__debug__" : Str))=false:=by decide):wpAny (model X.prog X.w) X.A (eval (.Name x pos) X.env) Q E s :=
 Calls.Name_function_global I.ok.kind hg (Calls.loadGlobal_global (by rw [I.ok.glob];exact I.mod.glob.keeps I.bk) hm h) hd
theorem jl {E:Value→Shared→Prop} {pins:List (Addr×Obj)} {s:Shared} {σ:St} {H:Hp} {x:Str} {u:Value} {pos:Pos} {Q:Value→Shared→Prop} (I:Inv X pins σ H s) (hg:Gl X x) (hm:X.mg x=none) (hv:bootBuiltins x=some u) (h:Q u s)
  (hn:x≠"__name__":=by decide) (hd:(x==("__debug__" : Str))=false:=by decide):wpAny (model X.prog X.w) X.A (eval (.Name x pos) X.env) Q E s:=by
 obtain ⟨mb,h1,h2⟩:=I.mod.blt
 exact Calls.Name_function_global I.ok.kind hg (Calls.loadGlobal_builtin (by rw [I.ok.glob];exact I.mod.glob.keeps I.bk) hm (by rw [I.ok.blt];exact h1.keeps I.bk) ((h2 x hn).trans hv) h) hd
theorem vS {x:Str} {v:V} {u:Value} {pos:Pos} (hg:Gl X x) (hm:X.mg x=some u) (r:cM v u) (hd:(x==("__debug__" : Str))=false:=by decide):PE X (.Name x pos) (tC v) :=
 fun _ _ _ H _ I h=>fW I hg hm ⟨v,H,I,r,h⟩ hd
theorem vT {x:Str} {v:V} {u:Value} {pos:Pos} (hg:Gl X x) (hm:X.mg x=none) (hv:bootBuiltins x=some u) (r:cM v u) (hn:x≠"__name__":=by decide) (hd:(x==("__debug__" : Str))=false:=by decide):PE X (.Name x pos) (tC v) :=
 fun _ _ _ H _ I h=>jl I hg hm hv ⟨v,H,I,r,h⟩ hn hd
variable {a b:Expr} {ta tb:TE} {pos:Pos}
def tB (t:TE):TT:=fun σ H Q=>t σ H fun x H1=>∃ c,x = .bl c∧Q c H1
theorem mf {e:Expr} {t:TE} (h:PE X e t) (he:∀ whole,isTrue e X.env whole=(do let v ←whole;standAt e.pos;holding [v] (truthy v)):=by intro _;rfl):PT X e (tB t):=by
 intro pins s σ H Q I hw;refine isTrue_plain (thn (h pins s σ H _ I hw) fun v s1 ⟨x,H1,I1,r1,q1⟩=>?_) (he _)
 obtain ⟨d,rfl,q⟩:=q1
 cases r1;exact wpAny_truthy_bool ⟨H1,I1,q⟩
variable {tA tB':TT} {rest:List Expr}
def xp (t u:TT):TT:=fun σ H Q=>t σ H fun c H1=>if c=true then u σ H1 Q else Q false H1
def tOr (t u:TT):TT:=fun σ H Q=>t σ H fun c H1=>if c=true then Q true H1 else u σ H1 Q
def tNot (t:TT):TT:=fun σ H Q=>t σ H fun c H1=>Q (!c) H1
theorem i9 (ha:PT X a tA):PW X (.BoolOp .And [a] pos) tA:=by
 intro wh pins s σ H Q I h;refine isTrue_and (thn (ha pins s σ H Q I h) fun c s1 e=>?_)
 cases c with
 | true=>exact isTrue_and_nil e
 | false=>exact e
theorem jh (ha:PT X a tA):PW X (.BoolOp .Or [a] pos) tA:=by
 intro wh pins s σ H Q I h;refine isTrue_or (thn (ha pins s σ H Q I h) fun c s1 e=>?_)
 cases c with
 | false=>exact isTrue_or_nil e
 | true=>exact e
theorem kq (ha:PT X a tA) (hb:PW X (.BoolOp .And (b::rest) pos) tB'):PW X (.BoolOp .And (a::b::rest) pos) (xp tA tB'):=by
 intro wh pins s σ H Q I h;refine isTrue_and (thn (ha pins s σ H _ I h) fun c s1 ⟨H1,I1,q1⟩=>?_)
 cases c with
 | true=>exact hb wh pins s1 σ H1 Q I1 q1
 | false=>exact ⟨H1,I1,q1⟩
theorem kZ (ha:PT X a tA) (hb:PW X (.BoolOp .Or (b::rest) pos) tB'):PW X (.BoolOp .Or (a::b::rest) pos) (tOr tA tB'):=by
 intro wh pins s σ H Q I h;refine isTrue_or (thn (ha pins s σ H _ I h) fun c s1 ⟨H1,I1,q1⟩=>?_)
 cases c with
 | true=>exact ⟨H1,I1,q1⟩
 | false=>exact hb wh pins s1 σ H1 Q I1 q1
theorem mj (ha:PT X a tA):PT X (.UnaryOp .Not a pos) (tNot tA):=by
 intro pins s σ H Q I h;exact isTrue_not (ha pins s σ H (fun c H1=>Q (!c) H1) I h)
def tAndV (ta tb:TE):TE:=fun σ H Q=>ta σ H fun x H1=>∃ c,x = .bl c∧if c=true then tb σ H1 Q else Q (.bl false) H1
theorem ox {op} {t:TE} (h:PE X a t):PE X (.BoolOp op [a] pos) t:=fun pins s σ H Q I hw=>BoolOp_one (h pins s σ H Q I hw)
theorem mw (ha:PE X a ta) (hb:PE X (.BoolOp .And (b::rest) pos) tb):PE X (.BoolOp .And (a::b::rest) pos) (tAndV ta tb):=by
 intro pins s σ H Q I h;refine BoolOp_and (thn (ha pins s σ H _ I h) fun v s1 ⟨x,H1,I1,r1,q1⟩=>?_)
 obtain ⟨c,rfl,q1⟩:=q1
 cases r1;refine wpAny_truthy_bool ?_
 cases c with
 | true=>exact hb pins s1 σ H1 Q I1 q1
 | false=>exact ⟨.bl false,H1,I1,rfl,q1⟩
def tIf (t:TT) (ta tb:TE):TE:=fun σ H Q=>t σ H fun c H1=>if c=true then ta σ H1 Q else tb σ H1 Q
theorem jG {c:Expr} (hc:PT X c tA) (ha:PE X a ta) (hb:PE X b tb):PE X (.IfExp c a b pos) (tIf tA ta tb):=by
 intro pins s σ H Q I h;refine wpAny_IfExp (thn (hc pins s σ H _ I h) fun d s1 ⟨H1,I1,q1⟩=>?_)
 cases d with
 | true=>exact ha pins s1 σ H1 Q I1 q1
 | false=>exact hb pins s1 σ H1 Q I1 q1
end
def SqL (K:Fg_) (H:Hp) (a:Addr) (xs:List V):Prop :=
 Rd H a (.lst xs) ∨
  ∃ (o:Obj) (its:Array Value) (n:Nat),K.lookup a=some o∧o.cls = .type "list"∧o.dict=none∧o.data = .seq its n∧its.size≤sizeLine∧b8 xs its.toList
def SqT (K:Fg_) (H:Hp) (a:Addr) (xs:List V):Prop :=
 Rd H a (.tup xs) ∨
  ∃ (o:Obj) (its:Array Value) (n:Nat),K.lookup a=some o∧o.cls = .type "tuple"∧o.data = .seq its n∧its.size≤sizeLine∧b8 xs its.toList
def absV:Value→Option V
 | .none=>some .non
 | .bool b=>some (.bl b)
 | .int i _=>some (.int i)
 | .str x _=>some (.str x)
 | .bytes b _=>some (.byt b)
 | .float b _=>some (.flt b)
 | .ref a=>some (.ref a)
 | .type n=>some (.ty n)
 | _=>none
theorem cM.abs {x:V} {u:Value} (r:cM x u):absV u=some x:=by
 cases x with
 | non=>cases r;rfl
 | bl _=>cases r;rfl
 | int _=>obtain ⟨t,rfl⟩:=r;rfl
 | str _=>obtain ⟨t,rfl⟩:=r;rfl
 | byt _=>obtain ⟨t,rfl⟩:=r;rfl
 | flt _=>obtain ⟨t,rfl⟩:=r;rfl
 | ref _=>cases r;rfl
 | ty _=>cases r;rfl
theorem cM.inj {x y:V} {u:Value} (r:cM x u) (q:cM y u):x=y:=a8 (r.abs.symm.trans q.abs)
theorem b8.inj:∀ {xs ys:List V} {us:List Value},b8 xs us→b8 ys us→xs=ys
 | _,_,_,.nil,.nil=>rfl
 | _,_,_,.cons r t,.cons r' t'=>by rw [r.inj r',b8.inj t t']
section
variable {X:Cx} {pins:List (Addr×Obj)} {σ:St} {H:Hp} {s:Shared} {a:Addr} {xs ys:List V}
theorem SqL.of {K:Fg_} (h:H a=some (.lst xs)):SqL K H a xs:=.inl (.inl h)
theorem SqT.of {K:Fg_} (h:H a=some (.tup xs)):SqT K H a xs:=.inl (.inl h)
theorem Inv.list (I:Inv X pins σ H s) (h:SqL X.K H a xs):∃ its:List Value,b8 xs its∧PlainL s.heap a its.toArray∧xs.length≤sizeLine:=by
 rcases h with h | ⟨o,its,n,hk,hc,hd,hs,hz,r⟩
 ·obtain ⟨z,its,n,r,e⟩:=h.ok I.hok
  exact ⟨its,r,⟨_,n,e,rfl,rfl,rfl⟩,z⟩
 ·refine ⟨its.toList,r,⟨o,n,I.kIn a o hk,hc,hd,by simpa using hs⟩,?_⟩
  have e:=r.length
  simp only [dB] at e;omega
theorem Inv.tuple (I:Inv X pins σ H s) (h:SqT X.K H a xs):∃ its:List Value,b8 xs its∧IsTup s.heap a its.toArray∧xs.length≤sizeLine:=by
 rcases h with h | ⟨o,its,n,hk,hc,hs,hz,r⟩
 ·obtain ⟨z,its,r,p⟩:=h.ok I.hok
  exact ⟨its,r,p,z⟩
 ·refine ⟨its.toList,r,⟨o,I.kIn a o hk,hc,n,by simpa using hs⟩,?_⟩
  have e:=r.length
  simp only [dB] at e;omega
theorem Inv.list_inj (I:Inv X pins σ H s) (h:SqL X.K H a xs) (h':SqL X.K H a ys):xs=ys:=by
 obtain ⟨its,r,⟨o,n,e,_,_,d⟩,_⟩:=I.list h
 obtain ⟨its',r',⟨o',n',e',_,_,d'⟩,_⟩:=I.list h'
 rw [e] at e';cases e'
 rw [d] at d'
 injection d' with d1 _
 have:its=its':=by simpa using congrArg Array.toList d1
 subst this;exact r.inj r'
end
abbrev Cx.wish (X:Cx) (E:Value→Shared→Prop):Cx:={ X with xe:=E }
abbrev Cx.nox (X:Cx):Cx:=X.wish fun _ _=>False
theorem Cx.Ok.wish {X:Cx} (ok:X.Ok) (E:Value→Shared→Prop):(X.wish E).Ok :=
 ⟨ok.mod,ok.kind,ok.glob,ok.blt,ok.above,ok.inj,ok.has,ok.cab,ok.hd,ok.frames,ok.stk,ok.exf,ok.bs,ok.bsz,ok.noex,ok.exfs,ok.funs,ok.frf⟩
theorem Cx.Ok.unwish {X:Cx} {E:Value→Shared→Prop} (ok:(X.wish E).Ok):X.Ok :=
 ⟨ok.mod,ok.kind,ok.glob,ok.blt,ok.above,ok.inj,ok.has,ok.cab,ok.hd,ok.frames,ok.stk,ok.exf,ok.bs,ok.bsz,ok.noex,ok.exfs,ok.funs,ok.frf⟩
section
variable {X:Cx} {pins:List (Addr×Obj)} {σ:St} {H:Hp} {s:Shared} {E:Value→Shared→Prop}
theorem Inv.wish (I:Inv X pins σ H s) (E:Value→Shared→Prop):Inv (X.wish E) pins σ H s:=⟨I.ok.wish E,I.os,I.bare,I.base,I.loc,I.cell,I.free,I.freeC,I.pin,I.hok,I.len⟩
theorem Inv.unwish (I:Inv (X.wish E) pins σ H s):Inv X pins σ H s:=⟨I.ok.unwish,I.os,I.bare,I.base,I.loc,I.cell,I.free,I.freeC,I.pin,I.hok,I.len⟩
theorem SP.unwish {D:iW} {f:Flow} {s':Shared} (h:SP (X.wish E) pins D f s'):SP X pins D f s':=by
 cases f with
 | next=>obtain ⟨σ',H',I,q⟩:=h;exact ⟨σ',H',I.unwish,q⟩
 | brk=>obtain ⟨σ',H',I,q⟩:=h;exact ⟨σ',H',I.unwish,q⟩
 | cont=>obtain ⟨σ',H',I,q⟩:=h;exact ⟨σ',H',I.unwish,q⟩
 | ret u=>obtain ⟨v,σ',H',I,r,q⟩:=h;exact ⟨v,σ',H',I.unwish,r,q⟩
theorem PSs.nox {st:List Stmt} {t:TS} (h:PSs X.nox st t):PSs X st t:=fun pins s σ H D I hw =>
 wpAny_mono (h pins s σ H D (I.wish _) hw) (fun _ _ q=>q.unwish) fun _ _ z=>False.elim z
end
section
variable {X:Cx} {st:Stmt} {rest:List Stmt} {t u:TS} {e:Expr} {te:TE} {pos:Pos}
def tNext:TS:=fun D σ H=>D.nx σ H
def tSeq (t u:TS):TS:=fun D σ H=>t { D with nx:=u D } σ H
theorem bE:PSs X [] tNext:=fun _ _ σ H _ I h=>wpAny_execs_nil ⟨σ,H,I,h⟩
theorem aq (h1:PS X st t) (h2:PSs X rest u):PSs X (st::rest) (tSeq t u):=by
 intro pins s σ H D I h;refine wpAny_execs_cons (thn (h1 pins s σ H { D with nx:=u D } I h) fun f s1 q=>?_)
 cases f with
 | next =>
  obtain ⟨σ',H',I',q⟩:=q
  exact h2 pins s1 σ' H' D I' q
 | ret v=>exact q
 | brk=>exact q
 | cont=>exact q
theorem aE (h1:PS X st t):PSs X [st] t:=by
 intro pins s σ H D I h;refine wpAny_execs_cons (thn (h1 pins s σ H D I h) fun f s1 q=>?_)
 cases f with
 | next=>exact wpAny_execs_nil q
 | ret v=>exact q
 | brk=>exact q
 | cont=>exact q
theorem Inv.quiet {pins:List (Addr×Obj)} {σ:St} {H:Hp} {s:Shared} (I:Inv X pins σ H s):interactive X.env=false:=by simp [interactive,I.ok.kind]
def tDrop (te:TE):TS:=fun D σ H=>te σ H fun _ H1=>D.nx σ H1
theorem cE (he:PE X e te) (hs:swapsWith e none pos.line X.env=pure false:=by rfl):PS X (.Expr e pos) (tDrop te):=by
 intro pins s σ H D I h;exact wpAny_Expr_any (thn (he pins s σ H _ I h) fun v s1 ⟨x,H1,I1,r1,q1⟩=>⟨σ,H1,I1,q1⟩) I.quiet hs
def tRet (te:TE):TS:=fun D σ H=>te σ H D.rt
theorem br (he:PE X e te):PS X (.Return (some e) pos) (tRet te):=by
 intro pins s σ H D I h;exact wpAny_Return_some (thn (he pins s σ H _ I h) fun v s1 ⟨x,H1,I1,r1,q1⟩=>⟨x,σ,H1,I1,r1,q1⟩)
def xo (c:TT) (t u:TS):TS:=fun D σ H=>c σ H fun b H1=>if b=true then t D σ H1 else u D σ H1
theorem ck {c:Expr} {a b:List Stmt} {tc:TT} (hc:PT X c tc) (ha:PSs X a t) (hb:PSs X b u):PS X (.If c a b pos) (xo tc t u):=by
 intro pins s σ H D I h;refine wpAny_If (thn (hc pins s σ H _ I h) fun d s1 ⟨H1,I1,q1⟩=>?_)
 cases d with
 | true=>exact ha pins s1 σ H1 D I1 q1
 | false=>exact hb pins s1 σ H1 D I1 q1
end
abbrev TG:=V→St→Hp→(St→Hp→Prop)→Prop
def PG (X:Cx) (target:Expr) (t:TG):Prop :=
 ∀ (pins:List (Addr×Obj)) (s:Shared) (σ:St) (H:Hp) (v:V) (u:Value) (Q:St→Hp→Prop),Inv X pins σ H s→cM v u→t v σ H Q →
  wpAny (model X.prog X.w) X.A (assign target X.env u) (fun _ s'=>∃ σ' H',Inv X pins σ' H' s'∧Q σ' H') X.xe s
abbrev y0:=V→V→V→Hp→(Hp→Prop)→Prop
def PSet (X:Cx) (t:y0):Prop :=
 ∀ (pins:List (Addr×Obj)) (s:Shared) (σ:St) (H:Hp) (o i v:V) (ov iv u:Value) (Q:Hp→Prop),Inv X pins σ H s→cM o ov→cM i iv→cM v u→t o i v H Q →
  wpAny (model X.prog X.w) X.A (setItem ov iv u) (fun _ s'=>∃ H',Inv X pins σ H' s'∧Q H') X.xe s
abbrev TIp:=V→V→Hp→VK→Prop
def PIp (X:Cx) (op:Operator) (t:TIp):Prop :=
 ∀ (pins:List (Addr×Obj)) (s:Shared) (σ:St) (H:Hp) (x y:V) (v u:Value) (Q:VK),Inv X pins σ H s→cM x v→cM y u→t x y H Q →
  wpAny (model X.prog X.w) X.A (inplaceOp op v u) (EP X pins σ Q) X.xe s
section
variable {X:Cx} {pos:Pos}
def si (i:Nat):TG:=fun v σ H Q=>Q (σ.set i (some v)) H
theorem iu {i:Nat} {x:Str} (hN:X.N.Nodup) (hi:X.N[i]? = some x) (hx:Loc X.env.scope x) (hf:X.fn x=true∨X.env.scope.names.lookup x=some .local:=by first | exact .inl rfl | exact .inr rfl | assumption):PG X (.Name x pos) (si i):=by
 intro pins s σ H v u Q I r h;exact wpAny_assign_Name (jz I hN hi hx r (fun s' I'=>⟨_,H,I',h⟩) hf)
def gSub (to ti:TE) (t:y0):TG:=fun v σ H Q=>to σ H fun o H1=>ti σ H1 fun i H2=>t o i v H2 fun H3=>Q σ H3
theorem yF {o i:Expr} {to ti:TE} {t:y0} (ho:PE X o to) (hi:PE X i ti) (hs:PSet X t)
  (ha:∀ v,assign (.Subscript o i pos) X.env v=(do
   let ov ←holding [v] (eval o X.env)
   let iv ←holding [v,ov] (eval i X.env)
   standAt pos
   holding [v,ov,iv] (setItem ov iv v)
   release [v,ov,iv] []):=by intro _;rfl):PG X (.Subscript o i pos) (gSub to ti t):=by
 intro pins s σ H v u Q I r h;rw [ha];refine wpAny_bind (wpAny_holding (thn (ho pins s σ H _ I h) fun ov s1 ⟨x,H1,I1,r1,q1⟩=>?_))
 refine wpAny_bind (wpAny_holding (thn (hi pins s1 σ H1 _ I1 q1) fun iv s2 ⟨y,H2,I2,r2,q2⟩=>?_))
 refine wpAny_bind (wpAny_standAt (wpAny_bind (wpAny_holding (thn (hs pins s2 σ H2 x y v ov iv u _ I2 r1 r2 r q2) fun _ s3 ⟨H3,I3,q3⟩=>?_))))
 exact wpAny_release ⟨σ,H3,I3,q3⟩
def tAsg (te:TE) (g:TG):TS:=fun D σ H=>te σ H fun x H1=>g x σ H1 D.nx
theorem yC {tg e:Expr} {te:TE} {g:TG} (he:PE X e te) (hg:PG X tg g) (hs:swapsWithSole [tg] e pos.line X.env=pure false:=by rfl) (hw:swappedStores [tg] e X.env=pure none:=by rfl)
  (h1:(assignEach [tg] X.env).map (·.2)=[assign tg X.env]:=by rfl):PS X (.Assign [tg] e pos) (tAsg te g):=by
 intro pins s σ H D I h;refine wpAny_Assign_stores (thn (he pins s σ H _ I h) fun v s1 ⟨x,H1,I1,r1,q1⟩=>?_) hs hw
 rw [h1];exact thn (hg pins s1 σ H1 x v _ I1 r1 q1) fun _ s2 q=>q
theorem bb {i:Nat} {x:Str} {e:Expr} {te:TE} {pos':Pos} (hN:X.N.Nodup) (hi:X.N[i]? = some x) (hx:Loc X.env.scope x) (he:PE X e te) (hs:swapsWith e (some (.Name x pos')) pos.line X.env=pure false:=by rfl) (hf:X.fn x=true∨X.env.scope.names.lookup x=some .local:=by first | exact .inl rfl | exact .inr rfl | assumption) :
  PS X (.Assign [.Name x pos'] e pos) (tAsg te (si i)):=by
 intro pins s σ H D I h;refine wpAny_Assign_Name (thn (he pins s σ H _ I h) fun v s1 ⟨y,H1,I1,r1,q1⟩=>?_) hs
 exact jz I1 hN hi hx r1 (fun s2 I2=>⟨_,H1,I2,q1⟩) hf
def tAug (i:Nat) (te:TE) (ti:TIp):TS:=fun D σ H=>∃ x,σ[i]? = some (some x)∧te σ H fun y H1=>ti x y H1 fun z H2=>D.nx (σ.set i (some z)) H2
theorem qD {i:Nat} {x:Str} {e:Expr} {te:TE} {op:Operator} {ti:TIp} {pos':Pos} (hN:X.N.Nodup) (hi:X.N[i]? = some x) (hx:Loc X.env.scope x) (he:PE X e te) (ho:PIp X op ti) (hf:X.fn x=true∨X.env.scope.names.lookup x=some .local:=by first | exact .inl rfl | exact .inr rfl | assumption) :
  PS X (.AugAssign (.Name x pos') op e pos) (tAug i te ti):=by
 intro pins s σ H D I h;obtain ⟨v,e1,h⟩:=h
 obtain ⟨m,hn,hl⟩:=I.loc
 have vis:Vis X.env.scope x:=by rcases hx with k | k;exact .inl k;exact .inr (.inl k)
 obtain ⟨u,r,l⟩:=hl i x v hi e1 vis
 refine wpAny_AugAssign_Name ?_
 have go:wpAny (model X.prog X.w) X.A (eval e X.env) (fun w s₂=>wpAny (model X.prog X.w) X.A (inplaceOp op u w) (fun r s₃=>wpAny (model X.prog X.w) X.A (storeName X.env x r) (fun _=>SP X pins D .next) X.xe s₃) X.xe s₂) X.xe s:=by
  refine thn (he pins s σ H _ I h) fun w s1 ⟨y,H1,I1,r1,q1⟩=>?_
  refine thn (ho pins s1 σ H1 v y u w _ I1 r r1 q1) fun z s2 ⟨zv,H2,I2,r2,q2⟩=>?_
  exact jz I2 hN hi hx r2 (fun s3 I3=>⟨_,H2,I3,q2⟩) hf
 rcases l with ⟨hk,hm⟩ | ⟨hk,c,hc,hcell⟩
 ·exact wpAny_loadName_local I.ok.kind hk hn hm go
 ·rcases hk with hk | hk
  ·exact wpAny_loadName_cell I.ok.kind hk hc hcell go
  ·rcases hx with k | k
   ·have:X.env.scope.names.lookup x=some .free:=hk
    rw [k] at this;cases this
   ·have:X.env.scope.names.lookup x=some .free:=hk
    rw [k] at this;cases this
end
section
variable {X:Cx} {pos:Pos}
def xj (c:TT) (tb:TS):TS:=fun D σ H=>∃ W:Nat→St→Hp→Prop,(∃ m,W m σ H)∧∀ m σ H,W m σ H →
 c σ H fun b H1=>if b=true then ∃ N:St→Hp→Prop,(∀ σ' H',N σ' H'→∃ m',m'<m∧W m' σ' H')∧tb { D with nx:=N,ct:=N,bk:=D.nx } σ H1 else D.nx σ H1
theorem gW {c:Expr} {body:List Stmt} {tc:TT} {tb:TS} (hp:PassesOwn (model X.prog X.w) X.A X.env X.xe) (hc:PT X c tc) (hb:PSs X body tb):PS X (.While c body [] pos) (xj tc tb):=by
 intro pins s σ H D I h;obtain ⟨W,⟨m0,w0⟩,turn⟩:=h
 refine wpAny_While (codeAny_whileLoop (fun n s'=>∃ σ' H',Inv X pins σ' H' s'∧W n σ' H') ?_ m0 ⟨σ,H,I,w0⟩)
 rintro n s1 ⟨σ1,H1,I1,w1⟩
 refine wpAny_passesOwn hp (thn (hc pins s1 σ1 H1 _ I1 (turn n σ1 H1 w1)) fun b s2 ⟨H2,I2,q2⟩=>?_)
 cases b with
 | true =>
  obtain ⟨N,hN,q2⟩:=q2
  rw [if_pos rfl];refine wpAny_passesOwn hp (thn (hb pins s2 σ1 H2 _ I2 q2) fun f s3 q3=>?_)
  cases f with
  | next =>
   obtain ⟨σ3,H3,I3,n3⟩:=q3
   obtain ⟨m',hm,w3⟩:=hN σ3 H3 n3
   exact ⟨m',hm,σ3,H3,I3,w3⟩
  | cont =>
   obtain ⟨σ3,H3,I3,n3⟩:=q3
   obtain ⟨m',hm,w3⟩:=hN σ3 H3 n3
   exact ⟨m',hm,σ3,H3,I3,w3⟩
  | brk=>exact q3
  | ret v=>exact q3
 | false =>
  rw [if_neg aI];exact wpAny_execs_nil ⟨σ1,H2,I2,q2⟩
end
structure It where
 go:Nat→Hp→Prop
 yld:Nat→Hp→V→Hp→Prop
 stop:Nat→Hp→Prop
def ju (X:Cx) (pins:List (Addr×Obj)) (H:Hp) (b:Addr):Prop :=
 H b=none∧b≠X.env.locals∧b∉X.fs∧(b∈X.ex∨X.s_0.heap.objs.size≤b)∧(∀ x c,X.env.cells.lookup x=some c→c≠b)∧∀ p∈X.pn++pins,p.1≠b
theorem Inv.fpOk {X:Cx} {pins:List (Addr×Obj)} {σ:St} {H H':Hp} {s:Shared} {b:Addr} (I:Inv X pins σ H s) (hb:s.heap.objs.size≤b) (hn:H' b=none):ju X pins H' b:=by
 refine ⟨hn,fg (aT I.lt hb),I.nofs hb,.inr (bF I.sz hb),fun x c e z=>?_,fun p hp z=>?_⟩
 ·obtain ⟨v,q⟩:=I.cell x c e
  exact absurd (aT q.lt (by rw [z];exact hb)) (bK _)
 ·exact absurd (aT (Heap.lt_size (I.pin p hp).1) (by rw [z];exact hb)) (bK _)
structure Turn (P:Program) (w:World) (K:Fg_) (tg:Expr) (J:It) (fp:List Addr) (it:Addr) (tn:Nat→Heap→Prop):Prop where
 mem:it∈fp
 obj:∀ i h,tn i h→∀ b∈fp,∃ o,h.get? b=some o∧∀ v,o.data≠.cell v
 keep:∀ i h h',tn i h→(∀ b∈fp,∀ o,h.get? b=some o→h'.get? b=some o)→tn i h'
 item:∀ (X:Cx),X.prog=P→X.w=w→X.K=K→X.calm=true→∀ (i:Nat) (pins:List (Addr×Obj)) (s:Shared) (σ:St) (H:Hp) (E:Value→Shared→Prop),Inv X pins σ H s→(∀ b∈fp,ju X pins H b)→tn i s.heap→J.go i H →
  wpAny (model P w) X.A (pyNext (.ref it)) (fun r s1=>∃ u,r=some u ∧
   wpAny (model P w) X.A (letOwnedTupleGo tg (.ref it) u) (fun _ s2=>∃ x H',Inv X pins σ H' s2∧cM x u∧J.yld i H x H'∧tn (i+1) s2.heap∧∀ b∈fp,H' b=none) E s1) E s
 done:∀ (X:Cx),X.prog=P→X.w=w→X.K=K→X.calm=true→∀ (i:Nat) (pins:List (Addr×Obj)) (s:Shared) (σ:St) (H:Hp) (E:Value→Shared→Prop),Inv X pins σ H s→(∀ b∈fp,ju X pins H b)→tn i s.heap→J.stop i H →
  wpAny (model P w) X.A (pyNext (.ref it)) (fun r s1=>r=none∧Inv X pins σ H s1) E s
 self:∀ (A:Around) (i:Nat) (s:Shared) (Q:Value→Shared→Prop) (E:Value→Shared→Prop),tn i s.heap→Q (.ref it) s→wpAny (model P w) A (pyIter (.ref it)) Q E s
abbrev TI:=St→Hp→(It→Hp→Prop)→Prop
def PIE (X:Cx) (pins:List (Addr×Obj)) (σ:St) (tg:Expr) (R:It→Hp→Prop) (itv:Value) (s2:Shared):Prop :=
 ∃ (it:Addr) (fp:List Addr) (tn:Nat→Heap→Prop) (J:It) (H':Hp),itv = .ref it∧Inv X pins σ H' s2∧Turn X.prog X.w X.K tg J fp it tn∧tn 0 s2.heap∧(∀ b∈fp,ju X pins H' b)∧R J H'
def PI (X:Cx) (tg iter:Expr) (wi:TI):Prop :=
 ∀ (pins:List (Addr×Obj)) (s:Shared) (σ:St) (H:Hp) (R:It→Hp→Prop),Inv X pins σ H s→wi σ H R →
  wpAny (model X.prog X.w) X.A (eval iter X.env) (fun v s1=>wpAny (model X.prog X.w) X.A (pyIter v) (PIE X pins σ tg R) X.xe s1) X.xe s
theorem go_of {M : Model} {A : Around} {E : Value → Shared → Prop} {s : Shared} {tg : Expr} {it : Addr} {u : Value} {o : Obj} {n : String} {vs : Array Value} {Q : Unit → Shared → Prop} (ho : s.heap.get? it = some o) (hc : o.cls = .type n) (hd : o.data = .fields vs)
    (hn : ["enumerate", "zip", "dict_itemiterator", "dict_reverseitemiterator", "odict_iterator", "itertools.zip_longest", "itertools.pairwise"].contains n = false) (hQ : Q () s) : wpAny M A (letOwnedTupleGo tg (.ref it) u) Q E s := by
  unfold letOwnedTupleGo
  cases tg <;> first
    | exact wpAny_pure hQ
    | (cases u <;> first
        | exact wpAny_pure hQ
        | (refine wpAny_bind (wpAny_load ho ?_)
           rw [hc, hd]
           show wpAny M A (if (["enumerate", "zip", "dict_itemiterator", "dict_reverseitemiterator", "odict_iterator", "itertools.zip_longest", "itertools.pairwise"].contains n && vs[0]? == some (rawInt _)) = true then _ else _) Q E s
           rw [if_neg (by intro h; rw [hn, fu] at h; cases h)]
           exact wpAny_pure hQ))
def Itl (K:Fg_) (a:Addr):It :=
 ⟨fun i H=>∃ xs x,SqL K H a xs∧xs[i]? = some x,fun i H x H'=>H'=H∧∀ xs,SqL K H a xs→xs[i]? = some x,fun i H=>∃ xs,SqL K H a xs∧xs.length≤i⟩
def Itr (lo:Int) (n:Nat):It:=⟨fun i _=>i<n,fun i H x H'=>H'=H∧x = .int (lo+i),fun i _=>n≤i⟩
theorem sM {P:Program} {w:World} {K:Fg_} {tg:Expr} (a it:Addr):Turn P w K tg (Itl K a) [it] it (fun i h=>h.IsListIter it a i) where
 mem:=by simp
 obj:=fun i h st b hb=>by
  have e:b=it:=by simpa using hb
  subst e;obtain ⟨o,e,c,d⟩:=st
  exact ⟨o,e,fun v z=>by rw [d] at z;cases z⟩
 keep:=fun i h h' st k=>st.at fun o e=>k it (by simp) o e
 item:=by
  intro X hP hw hK hc i pins s σ H E I hf st hg;subst hP hw hK;obtain ⟨xs,x,hq,hx⟩:=hg
  obtain ⟨its,rv,p,hz⟩:=I.list hq
  obtain ⟨u,hu,ru⟩:=rv.get hx
  obtain ⟨f0,f1,f2,f3,f4,f5⟩:=hf it (by simp)
  refine wpAny_pyNext_list_item st p.isList (x:=u) (by simpa using hu) fun h' st' sb=>?_
  have I1:Inv X pins σ H { s with heap:=h' }:=I.turned (t':=s.toks) (fun b o hb e=>(sb.2 b hb).trans e) f0 f1 f3 f4 f5
  obtain ⟨o,e,c,d⟩:=id st'
  exact ⟨u,rfl,go_of (s:={ s with heap:=h' }) e c d (by decide) ⟨x,H,I1,ru,⟨rfl,fun ys hy=>by rw [I.list_inj hy hq];exact hx⟩,st',fun b hb=>(hf b hb).1⟩⟩
 done:=by
  intro X hP hw hK hc i pins s σ H E I hf st hg;subst hP hw hK;obtain ⟨xs,hq,hx⟩:=hg
  obtain ⟨its,rv,p,hz⟩:=I.list hq
  obtain ⟨f0,f1,f2,f3,f4,f5⟩:=hf it (by simp)
  have hl:=rv.length
  exact wpAny_pyNext_list_end (I.ok.hd hc) st p.isList (by simp;omega) fun h' eb=>⟨rfl,I.turned (t':=s.toks) (fun b o hb e=>eb b o hb e) f0 f1 f3 f4 f5⟩
 self:=fun _ _ _ _ _ st h=>wpAny_pyIter_listiter st h
theorem qv {P:Program} {w:World} {K:Fg_} {tg:Expr} (it:Addr) (lo:Int) (n:Nat):Turn P w K tg (Itr lo n) [it] it (fun i h=>IsRangeIter h it (lo+(i:Nat)*1) ((n:Int) - (i:Nat)) 1) where
 mem:=by simp
 obj:=fun i h st b hb=>by
  have e:b=it:=by simpa using hb
  subst e;exact ⟨_,st,fun v z=>by
   have z':Data.fields _=Data.cell v:=z
   cases z'⟩
 keep:=fun i h h' st k=>k it (by simp) _ st
 item:=by
  intro X hP hw hK hc i pins s σ H E I hf st hg;subst hP hw hK;obtain ⟨f0,f1,f2,f3,f4,f5⟩:=hf it (by simp)
  have W:=Walks.range (prog:=X.prog) (w:=X.w) (I.ok.hd hc) it lo 1 n
  refine W.item i s _ _ hg st fun v h' tk hv st' kk=>?_
  obtain ⟨t,rfl⟩:=hv
  have I1:Inv X pins σ H { s with heap:=h',toks:=tk }:=I.turned (fun b o hb e=>kk b o (by simpa using hb) e) f0 f1 f3 f4 f5
  refine ⟨_,rfl,go_of (s:={ s with heap:=h',toks:=tk }) (n:="range_iterator") st' rfl rfl (by decide) ⟨.int (lo+i),H,I1,⟨t,?_⟩,⟨rfl,rfl⟩,st',fun b hb=>(hf b hb).1⟩⟩
  rw [Int.mul_one]
 done:=by
  intro X hP hw hK hc i pins s σ H E I hf st hg;subst hP hw hK;obtain ⟨f0,f1,f2,f3,f4,f5⟩:=hf it (by simp)
  exact wpAny_pyNext_range_end (I.ok.hd hc) st (by have:n≤i:=hg;omega) fun h' eb=>⟨rfl,I.turned (t':=s.toks) (fun b o hb e=>eb b o hb e) f0 f1 f3 f4 f5⟩
 self:=fun _ _ _ _ _ st h=>wpAny_pyIter_rangeiter st h
section
variable {X:Cx} {tg:Expr}
def iList (K:Fg_) (tl:TE):TI:=fun σ H R=>tl σ H fun x H1=>∃ a,x = .ref a∧(∃ xs,SqL K H1 a xs)∧R (Itl K a) H1
theorem lF {l:Expr} {tl:TE} (hl:PE X l tl):PI X tg l (iList X.K tl):=by
 intro pins s σ H R I h;refine thn (hl pins s σ H _ I h) fun v s1 ⟨x,H1,I1,r1,q1⟩=>?_
 obtain ⟨a,e,⟨xs,hq⟩,q⟩:=q1
 subst e;cases r1;obtain ⟨its,rv,p,hz⟩:=I1.list hq
 refine wpAny_pyIter_list p.isList ?_
 refine ⟨s1.heap.objs.size,[s1.heap.objs.size],_,_,H1,rfl,I1.kept (t':=s1.toks) fun b o e=>Heap.get?_push_of_some _ e,sM a _,⟨_,Heap.get?_push_size _ rfl,rfl,rfl⟩,fun b hb=>?_,q⟩
 have e:b=s1.heap.objs.size:=by simpa using hb
 subst e;exact I1.fpOk (aK _) (I1.hok.fresh (aK _))
theorem pI {pins:List (Addr×Obj)} {σ:St} {H:Hp} {s:Shared} {R:It→Hp→Prop} {E:Value→Shared→Prop} {lo hi:Int} {t u v:Tok} {tk:Nat} (I:Inv X pins σ H s) (h1:-(2 ^ 62)≤lo) (h2:lo<2 ^ 62) (h3:-(2 ^ 62)≤hi) (h4:hi<2 ^ 62)
  (q:R (Itr lo (hi - lo).toNat) H):wpAny (model X.prog X.w) X.A (pyIter (.ref s.heap.objs.size)) (PIE X pins σ tg R) E { s with heap:=s.heap.push { cls:=.type "range",data:=.fields #[.int lo t,.int hi u,.int 1 v] },toks:=tk }:=by
 refine wpAny_pyIter_range (IsRange.new ..) (small_one h1 h2 h3 h4) ?_
 have I1:Inv X pins σ H { s with heap:=s.heap.push { cls:=.type "range",data:=.fields #[.int lo t,.int hi u,.int 1 v] },toks:=tk }:=I.kept fun b o e=>Heap.get?_push_of_some _ e
 refine ⟨(s.heap.push { cls:=.type "range",data:=.fields #[.int lo t,.int hi u,.int 1 v] }).objs.size,[(s.heap.push { cls:=.type "range",data:=.fields #[.int lo t,.int hi u,.int 1 v] }).objs.size],_,_,H,rfl,
  I1.kept (t':=tk) fun b o e=>Heap.get?_push_of_some _ e,qv _ lo (hi - lo).toNat,?_,fun b hb=>?_,q⟩
 ·have e1:lo+((0:Nat):Int)*1=lo:=by simp
  have e2:(((hi - lo).toNat:Nat):Int) - ((0:Nat):Int)=Builtin.Range.rangeSize lo hi 1:=by rw [rangeSize_one];split<;>omega
  show IsRangeIter _ _ (lo+((0:Nat):Int)*1) ((((hi - lo).toNat:Nat):Int) - ((0:Nat):Int)) 1
  rw [e1,e2];exact Heap.get?_push_size _ rfl
 ·have e:b=(s.heap.push { cls:=.type "range",data:=.fields #[.int lo t,.int hi u,.int 1 v] }).objs.size:=by simpa using hb
  subst e;exact I1.fpOk (aK _) (I1.hok.fresh (aK _))
def iRng1 (ta:TA):TI:=fun σ H R=>ta σ H fun vs H1=>∃ j:Int,vs=[.int j]∧-(2 ^ 62)≤j∧j<2 ^ 62∧R (Itr 0 j.toNat) H1
def iRng2 (ta:TA):TI:=fun σ H R=>ta σ H fun vs H1=>∃ i j:Int,vs=[.int i,.int j]∧(-(2 ^ 62)≤i∧i<2 ^ 62∧-(2 ^ 62)≤j∧j<2 ^ 62)∧R (Itr i (j - i).toNat) H1
theorem tq {a:Expr} {ta:TA} {p pos:Pos} (hg:Gl X "range") (hm:X.mg "range" = none) (ha:PA X [a] ta) (hs:starEach [a] X.env=[(false,eval a X.env)]:=by rfl):PI X tg (.Call (.Name "range" p) [a] [] pos) (iRng1 ta):=by
 intro pins s σ H R I h;refine Call_ (jl I hg hm boot_range (PyProof.Rows.callWith_type1 (thn (ha pos pins s σ H _ I h) fun us s1 ⟨vs,H1,I1,r1,q1⟩=>?_) hs rfl))
 obtain ⟨j,e,q1,q2,q⟩:=q1
 subst e;cases r1 with
 | cons r rr =>
  cases rr;obtain ⟨t,rfl⟩:=r
  exact call_range_1 (pI I1 (by omega) (by omega) q1 q2 (by simpa using q))
theorem tp {a b:Expr} {ta:TA} {p pos:Pos} (hg:Gl X "range") (hm:X.mg "range" = none) (ha:PA X [a,b] ta) (hs:starEach [a,b] X.env=[(false,eval a X.env),(false,eval b X.env)]:=by rfl) (hs2:starEach [b] X.env=[(false,eval b X.env)]:=by rfl) :
  PI X tg (.Call (.Name "range" p) [a,b] [] pos) (iRng2 ta):=by
 intro pins s σ H R I h;refine Call_ (jl I hg hm boot_range (PyProof.Rows.callWith_type1 (thn (ha pos pins s σ H _ I h) fun us s1 ⟨vs,H1,I1,r1,q1⟩=>?_) (by rw [hs,hs2]) (by rw [hs2];rfl)))
 obtain ⟨i,j,e,⟨q1,q2,q3,q4⟩,q⟩:=q1
 subst e;cases r1 with
 | cons r rr =>
  cases rr with
  | cons r' rr =>
   cases rr;obtain ⟨t,rfl⟩:=r
   obtain ⟨t',rfl⟩:=r'
   exact call_range_2 (pI I1 q1 q2 q3 q4 q)
def tFor (wi:TI) (g:TG) (tb:TS):TS:=fun D σ H=>wi σ H fun J H1=>∃ W:Nat→Nat→St→Hp→Prop,(∃ m,W 0 m σ H1)∧∀ i m σ H,W i m σ H →
 (J.stop i H∧D.nx σ H)∨(J.go i H∧∃ N:St→Hp→Prop,(∀ σ' H',N σ' H'→∃ m',m'<m∧W (i+1) m' σ' H')∧∀ x H',J.yld i H x H'→g x σ H' fun σ2 H2=>tb { D with nx:=N,ct:=N,bk:=D.nx } σ2 H2)
def jj (fp:List Addr) (h:Heap):List (Addr×Obj):=fp.filterMap fun b=>(h.get? b).map fun o=>(b,o)
theorem gm {fp:List Addr} {h:Heap} {b:Addr} {o:Obj} (hb:b∈fp) (e:h.get? b=some o):(b,o)∈jj fp h:=List.mem_filterMap.mpr ⟨b,hb,by rw [e];rfl⟩
theorem tD {fp:List Addr} {h:Heap} {p:Addr×Obj} (hp:p∈jj fp h):p.1∈fp∧h.get? p.1=some p.2:=by
 obtain ⟨b,hb,e⟩:=List.mem_filterMap.mp hp
 cases q:h.get? b with
 | none=>rw [q] at e;cases e
 | some o =>
  rw [q] at e;have e':(b,o)=p:=a8 e
  subst e'
  exact ⟨hb,q⟩
theorem Inv.pinned {pins:List (Addr×Obj)} {σ:St} {H:Hp} {s:Shared} {fp:List Addr} (I:Inv X pins σ H s) (hf:∀ b∈fp,ju X pins H b) (ho:∀ b∈fp,∃ o,s.heap.get? b=some o∧∀ v,o.data≠.cell v):Inv X (pins++jj fp s.heap) σ H s :=
 I.pins_of fun p hp=>(aF.mp hp).elim (fun z=>I.pin p (ak _ z)) fun z=>by
  obtain ⟨hb,e⟩:=tD z
  obtain ⟨f0,f1,f2,_⟩:=hf p.1 hb
  obtain ⟨o,e',d⟩:=ho p.1 hb
  rw [e] at e';cases e'
  exact ⟨e,f0,f1,f2,d⟩
theorem Inv.unpinned {pins pl:List (Addr×Obj)} {σ:St} {H:Hp} {s:Shared} (I:Inv X (pins++pl) σ H s):Inv X pins σ H s:=I.pins_of fun p hp=>I.pin p (ak _ (az _ hp))
theorem mq {iter:Expr} {body:List Stmt} {wi:TI} {g:TG} {tb:TS} {pos:Pos} (hp:PassesOwn (model X.prog X.w) X.A X.env X.xe) (hc:X.calm=true) (hi:PI X tg iter wi) (hg:PG X tg g) (hb:PSs X body tb)
  (hs:∀ x,foldedSetIterable iter X.env x=pure x:=by intro _;rfl):PS X (.For tg iter body [] pos) (tFor wi g tb):=by
 intro pins s σ H D I h;refine wpAny_For (thn (hi pins s σ H _ I h) fun v s1 h1=>thn h1 fun itv s2 h2=>?_) hs
 obtain ⟨it,fp,tn,J,H2,e,I2,T,st2,f2,W,⟨m0,w0⟩,turn⟩:=h2
 subst e;have stat:∀ {H':Hp},(∀ b∈fp,H' b=none)→∀ b∈fp,ju X pins H' b:=fun hn b hb=>⟨hn b hb,(f2 b hb).2⟩
 refine codeAny_forLoop_any (fun n s'=>∃ i σ' H',Inv X pins σ' H' s'∧tn i s'.heap∧(∀ b∈fp,H' b=none)∧W i n σ' H') ?_ m0 ⟨0,σ,H2,I2,st2,fun b hb=>(f2 b hb).1,w0⟩
 rintro n s3 ⟨i,σ3,H3,I3,st3,fr3,w3⟩
 rcases turn i n σ3 H3 w3 with ⟨stop,qn⟩ | ⟨go,N,hN,step⟩
 ·refine wpAny_passesOwn hp (thn (T.done X rfl rfl rfl hc i pins s3 σ3 H3 X.xe I3 (stat fr3) st3 stop) fun r s4 ⟨hr,I4⟩=>?_)
  subst hr;exact wpAny_execs_nil ⟨σ3,H3,I4,qn⟩
 ·refine wpAny_passesOwn hp (thn (T.item X rfl rfl rfl hc i pins s3 σ3 H3 X.xe I3 (stat fr3) st3 go) fun r s4 ⟨u,hr,h4⟩=>?_)
  subst hr;refine wpAny_passesOwn hp (thn h4 fun _ s5 ⟨x,H5,I5,r5,y5,st5,fr5⟩=>?_)
  have I5':=I5.pinned (stat fr5) (T.obj _ _ st5)
  refine wpAny_passesOwn hp (thn (hg _ s5 σ3 H5 x u _ I5' r5 (step x H5 y5)) fun _ s6 ⟨σ6,H6,I6,q6⟩=>?_)
  refine wpAny_passesOwn hp (thn (hb _ s6 σ6 H6 _ I6 q6) fun f s7 q7=>?_)
  have again:∀ {σ7:St} {H7:Hp},Inv X (pins++jj fp s5.heap) σ7 H7 s7→N σ7 H7→∃ m,m<n∧∃ i σ' H',Inv X pins σ' H' s7∧tn i s7.heap∧(∀ b∈fp,H' b=none)∧W i m σ' H':=fun {σ7 H7} I7 n7=>by
   obtain ⟨m',hm,w7⟩:=hN σ7 H7 n7
   refine ⟨m',hm,i+1,σ7,H7,I7.unpinned,T.keep _ _ _ st5 fun b hb o e=>(I7.pin (b,o) (ak _ (ak _ (gm hb e)))).1,fun b hb=>?_,w7⟩
   obtain ⟨o,e,d⟩:=T.obj _ _ st5 b hb
   exact (I7.pin (b,o) (ak _ (ak _ (gm hb e)))).2.1
  cases f with
  | next=>obtain ⟨σ7,H7,I7,n7⟩:=q7;exact again I7 n7
  | cont=>obtain ⟨σ7,H7,I7,n7⟩:=q7;exact again I7 n7
  | brk=>obtain ⟨σ7,H7,I7,q7⟩:=q7;exact ⟨σ7,H7,I7.unpinned,q7⟩
  | ret v=>obtain ⟨x7,σ7,H7,I7,r7,q7⟩:=q7;exact ⟨x7,σ7,H7,I7.unpinned,r7,q7⟩
end
theorem p5 {K:Fg_} {a:Addr} {xs:List V} {g:TG} {tb:TS} {D:iW} {σ:St} {H:Hp} (Pv:Nat→St→Hp→Prop) (h0:Pv 0 σ H) (hl:∀ i σ H,i≤xs.length→Pv i σ H→SqL K H a xs)
  (hs:∀ i x σ H,xs[i]? = some x→Pv i σ H→g x σ H fun σ2 H2=>tb { D with nx:=Pv (i+1),ct:=Pv (i+1),bk:=D.nx } σ2 H2) (hd:∀ σ H,Pv xs.length σ H→D.nx σ H) :
  ∃ W:Nat→Nat→St→Hp→Prop,(∃ m,W 0 m σ H)∧∀ i m σ H,W i m σ H →
   ((Itl K a).stop i H∧D.nx σ H)∨((Itl K a).go i H∧∃ N:St→Hp→Prop,(∀ σ' H',N σ' H'→∃ m',m'<m∧W (i+1) m' σ' H')∧∀ x H',(Itl K a).yld i H x H'→g x σ H' fun σ2 H2=>tb { D with nx:=N,ct:=N,bk:=D.nx } σ2 H2):=by
 refine ⟨fun i m σ H=>m=xs.length - i∧i≤xs.length∧Pv i σ H,⟨xs.length,by simp,aW _,h0⟩,?_⟩
 rintro i m σ H ⟨rfl,hi,p⟩
 have q:=hl i σ H hi p
 by_cases hlt:i<xs.length
 ·refine .inr ⟨⟨xs,xs[i],q,by simp [hlt]⟩,Pv (i+1),fun σ' H' p'=>⟨xs.length - (i+1),by omega,rfl,hlt,p'⟩,fun x H' y=>?_⟩
  obtain ⟨e,y⟩:=y
  subst e;exact hs i x σ _ (y xs q) p
 ·have e:i=xs.length:=by omega
  subst e;exact .inl ⟨⟨xs,q,aK _⟩,hd σ H p⟩
theorem nY {lo:Int} {n:Nat} {g:TG} {tb:TS} {D:iW} {σ:St} {H:Hp} (Pv:Nat→St→Hp→Prop) (h0:Pv 0 σ H)
  (hs:∀ i σ H,i<n→Pv i σ H→g (.int (lo+i)) σ H fun σ2 H2=>tb { D with nx:=Pv (i+1),ct:=Pv (i+1),bk:=D.nx } σ2 H2) (hd:∀ σ H,Pv n σ H→D.nx σ H) :
  ∃ W:Nat→Nat→St→Hp→Prop,(∃ m,W 0 m σ H)∧∀ i m σ H,W i m σ H →
   ((Itr lo n).stop i H∧D.nx σ H)∨((Itr lo n).go i H∧∃ N:St→Hp→Prop,(∀ σ' H',N σ' H'→∃ m',m'<m∧W (i+1) m' σ' H')∧∀ x H',(Itr lo n).yld i H x H'→g x σ H' fun σ2 H2=>tb { D with nx:=N,ct:=N,bk:=D.nx } σ2 H2):=by
 refine ⟨fun i m σ H=>m=n - i∧i≤n∧Pv i σ H,⟨n,by simp,aW _,h0⟩,?_⟩
 rintro i m σ H ⟨rfl,hi,p⟩
 by_cases hlt:i<n
 ·refine .inr ⟨hlt,Pv (i+1),fun σ' H' p'=>⟨n - (i+1),by omega,rfl,hlt,p'⟩,fun x H' y=>?_⟩
  obtain ⟨e,y⟩:=y
  subst e y;exact hs i σ _ hlt p
 ·have e:i=n:=by omega
  subst e;exact .inl ⟨aK _,hd σ H p⟩
abbrev R2:=V→V→Hp→VK→Prop
def OpR (X:Cx) (f:Value→Value→Sem Value) (r:R2):Prop :=
 ∀ (pins:List (Addr×Obj)) (s:Shared) (σ:St) (H:Hp) (x y:V) (v u:Value) (Q:VK),Inv X pins σ H s→cM x v→cM y u→r x y H Q →
  wpAny (model X.prog X.w) X.A (f v u) (EP X pins σ Q) X.xe s
def UnR (X:Cx) (f:Value→Sem Value) (r:V→Hp→VK→Prop):Prop :=
 ∀ (pins:List (Addr×Obj)) (s:Shared) (σ:St) (H:Hp) (x:V) (v:Value) (Q:VK),Inv X pins σ H s→cM x v→r x H Q →
  wpAny (model X.prog X.w) X.A (f v) (EP X pins σ Q) X.xe s
def oe (X:Cx) (f:Value) (r:List V→Hp→VK→Prop):Prop :=
 ∀ (pins:List (Addr×Obj)) (s:Shared) (σ:St) (H:Hp) (xs:List V) (us:List Value) (Q:VK),Inv X pins σ H s→b8 xs us→r xs H Q →
  wpAny (model X.prog X.w) X.A (call f us) (EP X pins σ Q) X.xe s
def TruR (X:Cx) (r:V→Hp→(Bool→Hp→Prop)→Prop):Prop :=
 ∀ (pins:List (Addr×Obj)) (s:Shared) (σ:St) (H:Hp) (x:V) (v:Value) (Q:Bool→Hp→Prop),Inv X pins σ H s→cM x v→r x H Q →
  wpAny (model X.prog X.w) X.A (truthy v) (TP X pins σ Q) X.xe s
def tOp (r:R2) (ta tb:TE):TE:=fun σ H Q=>ta σ H fun x H1=>tb σ H1 fun y H2=>r x y H2 Q
def tUn (r:V→Hp→VK→Prop) (ta:TE):TE:=fun σ H Q=>ta σ H fun x H1=>r x H1 Q
def rI (C:Int→Int→Prop) (g:Int→Int→V):R2:=fun x y H Q=>∃ i j,x = .int i∧y = .int j∧C i j∧Q (g i j) H
def rI0 (g:Int→Int→V):R2:=fun x y H Q=>∃ i j,x = .int i∧y = .int j∧Q (g i j) H
def rU (g:Int→V):V→Hp→VK→Prop:=fun x H Q=>∃ i,x = .int i∧Q (g i) H
section
variable {X:Cx} {a b c:Expr} {ta tb tc:TE} {pos:Pos}
theorem yZ (ha:PE X a ta) (hb:PE X b tb) {pins:List (Addr×Obj)} {s:Shared} {σ:St} {H:Hp} {R:V→V→Hp→Prop} (I:Inv X pins σ H s)
  (h:ta σ H fun x H1=>tb σ H1 fun y H2=>R x y H2) {Q:Value→Shared→Prop} {f:Value→Value→Sem Value}
  (hf:∀ v u s2 x y H2,Inv X pins σ H2 s2→cM x v→cM y u→R x y H2→wpAny (model X.prog X.w) X.A (f v u) Q X.xe s2) :
  wpAny (model X.prog X.w) X.A (eval a X.env) (fun v s₁=>wpAny (model X.prog X.w) X.A (eval b X.env) (fun u s₂=>wpAny (model X.prog X.w) X.A (f v u) Q X.xe s₂) X.xe s₁) X.xe s:=by
 refine thn (ha pins s σ H _ I h) fun v s1 ⟨x,H1,I1,r1,q1⟩=>?_
 refine thn (hb pins s1 σ H1 _ I1 q1) fun u s2 ⟨y,H2,I2,r2,q2⟩=>?_
 exact hf v u s2 x y H2 I2 r1 r2 q2
theorem cY {op:Operator} {r:R2} (ho:OpR X (binaryOp op) r) (ha:PE X a ta) (hb:PE X b tb):PE X (.BinOp a op b pos) (tOp r ta tb):=by
 intro pins s σ H Q I h;exact wpAny_BinOp (yZ ha hb I h fun v u s2 x y H2 I2 rx ry q=>ho pins s2 σ H2 x y v u Q I2 rx ry q)
theorem dY {op:UnaryOp} {r:V→Hp→VK→Prop} (ho:UnR X (unaryOp op) r) (ha:PE X a ta):PE X (.UnaryOp op a pos) (tUn r ta):=by
 intro pins s σ H Q I h;exact UnaryOp_ (thn (ha pins s σ H _ I h) fun v s1 ⟨x,H1,I1,r1,q1⟩=>ho pins s1 σ H1 x v Q I1 r1 q1)
theorem opI {f:Value→Value→Sem Value} {C:Int→Int→Prop} {g:Int→Int→Int}
  (rule:∀ (i j:Int) (t u:Tok) (s:Shared) (Q:Value→Shared→Prop) (E:Value→Shared→Prop),C i j→Q (.int (g i j) s.toks) { s with toks:=s.toks+1 }→wpAny (model X.prog X.w) X.A (f (.int i t) (.int j u)) Q E s) :
  OpR X f (rI C fun i j=>.int (g i j)):=by
 intro pins s σ H x y v u Q I rx ry h;obtain ⟨i,j,rfl,rfl,hc,q⟩:=h
 obtain ⟨t,rfl⟩:=rx
 obtain ⟨t',rfl⟩:=ry
 exact rule i j t t' s _ _ hc ⟨.int (g i j),H,I.tok _,⟨_,rfl⟩,q⟩
theorem yM {f:Value→Value→Sem Value} {g:Int→Int→Int}
  (rule:∀ (i j:Int) (t u:Tok) (s:Shared) (Q:Value→Shared→Prop) (E:Value→Shared→Prop),Q (.int (g i j) s.toks) { s with toks:=s.toks+1 }→wpAny (model X.prog X.w) X.A (f (.int i t) (.int j u)) Q E s) :
  OpR X f (rI0 fun i j=>.int (g i j)):=by
 intro pins s σ H x y v u Q I rx ry h;obtain ⟨i,j,rfl,rfl,q⟩:=h
 obtain ⟨t,rfl⟩:=rx
 obtain ⟨t',rfl⟩:=ry
 exact rule i j t t' s _ _ ⟨.int (g i j),H,I.tok _,⟨_,rfl⟩,q⟩
theorem vV {f:Value→Value→Sem Value} {g:Int→Int→Bool}
  (rule:∀ (i j:Int) (t u:Tok) (s:Shared) (Q:Value→Shared→Prop) (E:Value→Shared→Prop),Q (.bool (g i j)) s→wpAny (model X.prog X.w) X.A (f (.int i t) (.int j u)) Q E s) :
  OpR X f (rI0 fun i j=>.bl (g i j)):=by
 intro pins s σ H x y v u Q I rx ry h;obtain ⟨i,j,rfl,rfl,q⟩:=h
 obtain ⟨t,rfl⟩:=rx
 obtain ⟨t',rfl⟩:=ry
 exact rule i j t t' s _ _ ⟨.bl (g i j),H,I,rfl,q⟩
def CDiv (i j:Int):Prop:=0<j∧j<1073741824
def wH (i j:Int):Prop:=(-(2 ^ 64)<i∧i<2 ^ 64)∨(-(2 ^ 64)<j∧j<2 ^ 64)
theorem wH.ok {i j:Int} (h:wH i j):IntMulOk i j:=by
 rcases h with ⟨h1,h2⟩ | ⟨h1,h2⟩
 ·exact .of_left (intBits_le_64 h1 h2)
 ·exact .of_right (intBits_le_64 h1 h2)
theorem eZ:OpR X (binaryOp .Add) (rI0 fun i j=>.int (i+j)):=yM fun _ _ _ _ _ _ _ q=>add_int q
theorem gk:OpR X (binaryOp .Sub) (rI0 fun i j=>.int (i - j)):=yM fun _ _ _ _ _ _ _ q=>sub_int q
theorem uH:OpR X (binaryOp .Mult) (rI wH fun i j=>.int (i*j)):=opI fun _ _ _ _ _ _ _ hc q=>mul_int q hc.ok
theorem oC:OpR X (binaryOp .FloorDiv) (rI CDiv fun i j=>.int (i / j)):=opI fun i j _ _ _ _ _ hc q=>by
 have h1:(0:Int)<j:=hc.1
 have h2:j<1073741824:=hc.2
 exact floordiv_int (by omega) (by rw [Int.fdiv_eq_ediv_of_nonneg i (by omega)];exact q) (.inl (PyProof.noPylong_small (by omega)))
theorem oB:OpR X (binaryOp .Mod) (rI (fun _ j=>0<j) fun i j=>.int (i % j)):=opI fun i j _ _ _ _ _ hc q=>by
 have h1:(0:Int)<j:=hc
 exact mod_int' (by omega) (by rw [Int.fmod_eq_emod_of_nonneg i (by omega)];exact q)
theorem rY:OpR X (inplaceOp .Add) (rI0 fun i j=>.int (i+j)):=yM fun _ _ _ _ _ _ _ q=>iadd_int q
theorem wg:OpR X (inplaceOp .Mult) (rI wH fun i j=>.int (i*j)):=opI fun _ _ _ _ _ _ _ hc q=>imul_int q hc.ok
theorem unI {f:Value→Sem Value} {g:Int→Int}
  (rule:∀ (i:Int) (t:Tok) (s:Shared) (Q:Value→Shared→Prop) (E:Value→Shared→Prop),Q (.int (g i) s.toks) { s with toks:=s.toks+1 }→wpAny (model X.prog X.w) X.A (f (.int i t)) Q E s) :
  UnR X f (rU fun i=>.int (g i)):=by
 intro pins s σ H x v Q I rx h;obtain ⟨i,rfl,q⟩:=h
 obtain ⟨t,rfl⟩:=rx
 exact rule i t s _ _ ⟨.int (g i),H,I.tok _,⟨_,rfl⟩,q⟩
theorem dk:UnR X (unaryOp .USub) (rU fun i=>.int (-i)):=unI fun _ _ _ _ _ q=>neg_int q
end
def scal:V→V→Bool
 | .non,.non=>true | .non,.int _=>true | .int _,.non=>true | .non,.bl _=>true | .bl _,.non=>true | .non,.str _=>true | .str _,.non=>true
 | .int _,.int _=>true | .bl _,.bl _=>true | .str _,.str _=>true | .byt _,.byt _=>true
 | .int _,.str _=>true | .str _,.int _=>true | .bl _,.str _=>true | .str _,.bl _=>true
 | _,_=>false
def rEq:R2:=fun x y H Q=>scal x y=true∧Q (.bl (decide (x=y))) H
def rNe:R2:=fun x y H Q=>scal x y=true∧Q (.bl (!decide (x=y))) H
theorem sr {i j:Int}:decide (V.int i=V.int j)=(i==j):=by
 rw [fT];simp
theorem uZ {i j:Bool}:decide (V.bl i=V.bl j)=(i==j):=by
 rw [fT];simp
theorem so {i j:Str}:decide (V.str i=V.str j)=(i==j):=by
 rw [fT];simp
theorem su {i j:Array UInt8}:decide (V.byt i=V.byt j)=(i.toList==j.toList):=by
 rw [fT];cases i;cases j;simp
section
variable {X:Cx} {a b c:Expr} {ta tb tc:TE} {pos:Pos}
theorem cO {pins:List (Addr×Obj)} {σ:St} {H:Hp} {s:Shared} {Q:VK} {k k':Bool} (I:Inv X pins σ H s) (q:Q (.bl k) H) (e:k=k'):EP X pins σ Q (.bool k') s:=by
 subst e;exact ⟨.bl k,H,I,rfl,q⟩
theorem dR:OpR X (compareOp .Eq) rEq:=by
 intro pins s σ H x y v u Q I rx ry h;obtain ⟨hs,q⟩:=h
 cases x with
 | non =>
  cases rx;cases y with
  | non=>cases ry;exact PySem.EqNone.eq_none_none (cO I q (by simp))
  | bl j=>cases ry;exact PySem.EqNone.eq_none_bool (cO I q (by simp))
  | int j=>obtain ⟨t',rfl⟩:=ry;exact PySem.EqNone.eq_none_int (cO I q (by simp))
  | str j=>obtain ⟨t',rfl⟩:=ry;exact PySem.EqNone.eq_none_str (cO I q (by simp))
  | _=>exact absurd (show false=true from hs) aI
 | bl i =>
  cases rx;cases y with
  | non=>cases ry;exact PySem.EqNone.eq_bool_none (cO I q (by simp))
  | bl j=>cases ry;exact eq_bool (cO I q uZ)
  | str j=>obtain ⟨t',rfl⟩:=ry;exact PySem.EqMixed.eq_bool_str (cO I q (by simp))
  | _=>exact absurd (show false=true from hs) aI
 | int i =>
  obtain ⟨t,rfl⟩:=rx
  cases y with
  | non=>cases ry;exact PySem.EqNone.eq_int_none (cO I q (by simp))
  | int j=>obtain ⟨t',rfl⟩:=ry;exact eq_int (cO I q sr)
  | str j=>obtain ⟨t',rfl⟩:=ry;exact PySem.EqMixed.eq_int_str (cO I q (by simp))
  | _=>exact absurd (show false=true from hs) aI
 | str i =>
  obtain ⟨t,rfl⟩:=rx
  cases y with
  | non=>cases ry;exact PySem.EqNone.eq_str_none (cO I q (by simp))
  | bl j=>cases ry;exact PySem.EqMixed.eq_str_bool (cO I q (by simp))
  | int j=>obtain ⟨t',rfl⟩:=ry;exact PySem.EqMixed.eq_str_int (cO I q (by simp))
  | str j=>obtain ⟨t',rfl⟩:=ry;exact eq_str (cO I q so)
  | _=>exact absurd (show false=true from hs) aI
 | byt i =>
  obtain ⟨t,rfl⟩:=rx
  cases y with
  | byt j=>obtain ⟨t',rfl⟩:=ry;exact PySem.W.eq_bytes (cO I q su)
  | _=>exact absurd (show false=true from hs) aI
 | _=>cases y<;>exact absurd (show false=true from hs) aI
theorem op_ne:OpR X (compareOp .NotEq) rNe:=by
 intro pins s σ H x y v u Q I rx ry h;obtain ⟨hs,q⟩:=h
 cases x with
 | non =>
  cases rx;cases y with
  | non=>cases ry;exact PySem.EqNone.ne_none_none (cO I q (by simp))
  | bl j=>cases ry;exact PySem.EqNone.ne_none_bool (cO I q (by simp))
  | int j=>obtain ⟨t',rfl⟩:=ry;exact PySem.EqNone.ne_none_int (cO I q (by simp))
  | str j=>obtain ⟨t',rfl⟩:=ry;exact PySem.EqNone.ne_none_str (cO I q (by simp))
  | _=>exact absurd (show false=true from hs) aI
 | bl i =>
  cases rx;cases y with
  | non=>cases ry;exact PySem.EqNone.ne_bool_none (cO I q (by simp))
  | bl j=>cases ry;exact ne_bool (cO I q (congrArg not uZ))
  | str j=>obtain ⟨t',rfl⟩:=ry;exact PySem.EqMixed.ne_bool_str (cO I q (by simp))
  | _=>exact absurd (show false=true from hs) aI
 | int i =>
  obtain ⟨t,rfl⟩:=rx
  cases y with
  | non=>cases ry;exact PySem.EqNone.ne_int_none (cO I q (by simp))
  | int j=>obtain ⟨t',rfl⟩:=ry;exact ne_int (cO I q (congrArg not sr))
  | str j=>obtain ⟨t',rfl⟩:=ry;exact PySem.EqMixed.ne_int_str (cO I q (by simp))
  | _=>exact absurd (show false=true from hs) aI
 | str i =>
  obtain ⟨t,rfl⟩:=rx
  cases y with
  | non=>cases ry;exact PySem.EqNone.ne_str_none (cO I q (by simp))
  | bl j=>cases ry;exact PySem.EqMixed.ne_str_bool (cO I q (by simp))
  | int j=>obtain ⟨t',rfl⟩:=ry;exact PySem.EqMixed.ne_str_int (cO I q (by simp))
  | str j=>obtain ⟨t',rfl⟩:=ry;exact ne_str (cO I q (congrArg not so))
  | _=>exact absurd (show false=true from hs) aI
 | byt i =>
  obtain ⟨t,rfl⟩:=rx
  cases y with
  | byt j=>obtain ⟨t',rfl⟩:=ry;exact PySem.W.ne_bytes (cO I q (congrArg not su))
  | _=>exact absurd (show false=true from hs) aI
 | _=>cases y<;>exact absurd (show false=true from hs) aI
theorem iG:OpR X (compareOp .Lt) (rI0 fun i j=>.bl (decide (i<j))):=vV fun _ _ _ _ _ _ _ q=>lt_int q
theorem iN:OpR X (compareOp .LtE) (rI0 fun i j=>.bl (decide (i≤j))):=vV fun _ _ _ _ _ _ _ q=>le_int q
theorem iH:OpR X (compareOp .Gt) (rI0 fun i j=>.bl (decide (j<i))):=vV fun _ _ _ _ _ _ _ q=>gt_int q
theorem wN:OpR X (compareOp .GtE) (rI0 fun i j=>.bl (decide (j≤i))):=vV fun _ _ _ _ _ _ _ q=>ge_int q
theorem bw (b:Expr) {op:CmpOp} (h:op≠.In:=by decide) (h2:op≠.NotIn:=by decide):behindInMarks op b=false:=by
 have e1:(op==CmpOp.In)=false:=by cases op<;>first | rfl | exact absurd rfl h
 have e2:(op==CmpOp.NotIn)=false:=by cases op<;>first | rfl | exact absurd rfl h2
 cases b<;>simp [behindInMarks,e1,e2]
theorem iw {op:CmpOp} {r:R2} (ho:OpR X (compareOp op) r) (ha:PE X a ta) (hb:PE X b tb) (hm:behindInMarks op b=false):PE X (.Compare a [op] [b] pos) (tOp r ta tb):=by
 intro pins s σ H Q I h;exact wpAny_Compare1 (yZ ha hb I h fun v u s2 x y H2 I2 rx ry q=>ho pins s2 σ H2 x y v u Q I2 rx ry q) hm
def nF (t:TE):TT:=fun σ H Q=>t σ H fun x H'=>∃ k,x = .bl k∧Q k H'
theorem bh {op:CmpOp} {r:R2} (ho:OpR X (compareOp op) r) (ha:PE X a ta) (hb:PE X b tb) (hm:behindInMarks op b=false):PT X (.Compare a [op] [b] pos) (nF (tOp r ta tb)):=by
 intro pins s σ H Q I h;refine wpAny_isTrue_Compare1 (thn (ha pins s σ H _ I h) fun v s1 ⟨x,H1,I1,r1,q1⟩=>thn (hb pins s1 σ H1 _ I1 q1) fun u s2 ⟨y,H2,I2,r2,q2⟩ =>
  thn (ho pins s2 σ H2 x y v u _ I2 r1 r2 q2) fun c s3 ⟨z,H3,I3,r3,k,e,q3⟩=>?_) hm
 subst e;cases r3;exact wpAny_truthy_bool ⟨H3,I3,q3⟩
def qx (r r':R2) (ta tb tc:TE):TE:=fun σ H Q=>ta σ H fun x H1=>tb σ H1 fun y H2=>r x y H2 fun z H3=>∃ k,z = .bl k ∧
 (if k=true then tc σ H3 fun w' H4=>r' y w' H4 Q else Q (.bl false) H3)
theorem pQ {op op':CmpOp} {r r':R2} (ho:OpR X (compareOp op) r) (ho':OpR X (compareOp op') r') (ha:PE X a ta) (hb:PE X b tb) (hc:PE X c tc)
  (hm:lastMarks [op,op'] [b,c]=false:=by with_unfolding_all rfl):PE X (.Compare a [op,op'] [b,c] pos) (qx r r' ta tb tc):=by
 intro pins s σ H Q I h;refine Compare_chain (thn (ha pins s σ H _ I h) fun v s1 ⟨x,H1,I1,r1,q1⟩=>chain_link (thn (hb pins s1 σ H1 _ I1 q1) fun u s2 ⟨y,H2,I2,r2,q2⟩ =>
  thn (ho pins s2 σ H2 x y v u _ I2 r1 r2 q2) fun d s3 ⟨z,H3,I3,r3,k,e,q3⟩=>?_)) hm
 subst e;cases r3;refine wpAny_truthy_bool ?_
 cases k with
 | false=>exact ite_ff ⟨.bl false,H3,I3,rfl,q3⟩
 | true=>exact ite_tt (chain_last (thn (hc pins s3 σ H3 _ I3 q3) fun w' s4 ⟨z',H4,I4,r4,q4⟩=>ho' pins s4 σ H4 y z' u w' Q I4 r2 r4 q4))
theorem jD {op op':CmpOp} {r r':R2} (ho:OpR X (compareOp op) r) (ho':OpR X (compareOp op') r') (ha:PE X a ta) (hb:PE X b tb) (hc:PE X c tc)
  (hm:lastMarks [op,op'] [b,c]=false:=by with_unfolding_all rfl):PT X (.Compare a [op,op'] [b,c] pos) (nF (qx r r' ta tb tc)):=by
 intro pins s σ H Q I h;refine isTrue_chain (thn (ha pins s σ H _ I h) fun v s1 ⟨x,H1,I1,r1,q1⟩=>test_link (thn (hb pins s1 σ H1 _ I1 q1) fun u s2 ⟨y,H2,I2,r2,q2⟩ =>
  thn (ho pins s2 σ H2 x y v u _ I2 r1 r2 q2) fun d s3 ⟨z,H3,I3,r3,k,e,q3⟩=>?_)) hm
 subst e;cases r3;refine wpAny_truthy_bool ?_
 cases k with
 | false =>
  obtain ⟨k',e',q'⟩:=q3
  cases e'
  exact ite_ff ⟨H3,I3,q'⟩
 | true =>
  refine ite_tt (test_last (thn (hc pins s3 σ H3 _ I3 q3) fun w' s4 ⟨z',H4,I4,r4,q4⟩=>thn (ho' pins s4 σ H4 y z' u w' _ I4 r2 r4 q4) fun d' s5 ⟨z2,H5,I5,r5,k2,e2,q5⟩=>?_))
  subst e2;cases r5;exact wpAny_truthy_bool ⟨H5,I5,q5⟩
def TruV (K:Fg_) (x:V) (H:Hp) (k:Bool):Prop :=
 match x with
 | .non=>k=false
 | .bl b=>k=b
 | .int i=>k=(i != 0)
 | .str y=>y.length≤sizeLine∧k=((y.length:Int) != 0)
 | .byt y=>y.size≤sizeLine∧k=((y.size:Int) != 0)
 | .ref p=>(∃ xs,SqL K H p xs∧k = !xs.isEmpty)∨(∃ xs,SqT K H p xs∧k = !xs.isEmpty)∨∃ kvs,H p=some (.dK kvs)∧k = !kvs.isEmpty
 | _=>False
theorem qN {κ:Type} {kvs:List (κ×V)} {vs:List (κ×Value)} (r:KV kvs vs):(!vs.isEmpty) = !kvs.isEmpty:=by
 cases r<;>rfl
theorem mG {xs:List V} {its:List Value} (r:b8 xs its):(!its.toArray.isEmpty) = !xs.isEmpty:=by
 cases r<;>simp
theorem oK:(sizeLine:Nat)<2 ^ 63:=by rw [sizeLine_eq];decide
theorem w9:TruR X (fun x H Q=>∃ k,TruV X.K x H k∧Q k H):=by
 intro pins s σ H x v Q I rx h;obtain ⟨k,e,q⟩:=h
 have hl:=oK
 have hs:sizeLine=16777216:=sizeLine_eq
 cases x with
 | non =>
  cases rx;have e':k=false:=e
  subst e'
  exact truthy_none ⟨H,I,q⟩
 | bl b =>
  cases rx;have e':k=b:=e
  subst e'
  exact wpAny_truthy_bool ⟨H,I,q⟩
 | int i =>
  obtain ⟨t,rfl⟩:=rx
  have e':k=(i != 0):=e
  subst e'
  exact PySem.P.truthy_int ⟨H,I,q⟩
 | str y =>
  obtain ⟨t,rfl⟩:=rx
  obtain ⟨hy,e'⟩:y.length≤sizeLine∧k=((y.length:Int) != 0):=e
  subst e'
  exact PySem.P.truthy_str (by omega) ⟨H,I.tok _,q⟩
 | byt y =>
  obtain ⟨t,rfl⟩:=rx
  obtain ⟨hy,e'⟩:y.size≤sizeLine∧k=((y.size:Int) != 0):=e
  subst e'
  exact PySem.W.truthy_bytes (by omega) ⟨H,I.tok _,q⟩
 | ref p =>
  cases rx;have e':(∃ xs,SqL X.K H p xs∧k = !xs.isEmpty)∨(∃ xs,SqT X.K H p xs∧k = !xs.isEmpty)∨∃ kvs,H p=some (.dK kvs)∧k = !kvs.isEmpty:=e
  rcases e' with ⟨xs,hx,e'⟩ | ⟨xs,hx,e'⟩ | ⟨kvs,hx,e'⟩
  ·subst e'
   obtain ⟨its,r,pl,hz⟩:=I.list hx
   have hlen:=r.length
   exact wpAny_truthy_list pl.isList (by simp only [aM];omega) ⟨H,I.tok _,by rw [mG r];exact q⟩
  ·subst e'
   obtain ⟨its,r,pl,hz⟩:=I.tuple hx
   have hlen:=r.length
   exact truthy_tuple pl (by simp only [aM];omega) ⟨H,I.tok _,by rw [mG r];exact q⟩
  ·subst e'
   obtain ⟨hz,hS,vs,r,m⟩:kvs.length≤sizeLine∧(p==sysModules)=false∧∃ vs,KV kvs vs∧s.heap.DictOf (oH X.prog X.w) p vs:=I.hok p _ hx
   have hlen:kvs.length=vs.length:=Paired.length r
   exact wpAny_truthy_dict hS m (by omega) ⟨H,I.tok _,by rw [qN r];exact q⟩
 | _=>exact (show False from e).elim
theorem eB (ha:PE X a ta) (he:∀ whole,isTrue a X.env whole=(do let v ←whole;standAt a.pos;holding [v] (truthy v))) :
  PT X a (fun σ H Q=>ta σ H fun x H'=>∃ k,TruV X.K x H' k∧Q k H'):=by
 intro pins s σ H Q I h;exact isTrue_plain (thn (ha pins s σ H _ I h) fun v s1 ⟨x,H1,I1,r1,q1⟩=>w9 pins s1 σ H1 x v Q I1 r1 q1) (he _)
theorem vals1 {x:V} {us:List Value} (r:b8 [x] us):∃ u,us=[u]∧cM x u:=by
 cases r with
 | cons r1 r2=>cases r2;exact ⟨_,rfl,r1⟩
theorem wJ {x y:V} {us:List Value} (r:b8 [x,y] us):∃ u w',us=[u,w']∧cM x u∧cM y w':=by
 cases r with
 | cons r1 r2 =>
  cases r2 with
  | cons r3 r4=>cases r4;exact ⟨_,_,rfl,r1,r3⟩
theorem tW (hc:X.calm=true):oe X (.builtin "max") (fun xs H Q=>∃ i j,xs=[.int i,.int j]∧Q (.int (if j>i then j else i)) H):=by
 intro pins s σ H xs us Q I r h;obtain ⟨i,j,rfl,q⟩:=h
 obtain ⟨u,w',rfl,⟨t,rfl⟩,⟨t',rfl⟩⟩:=wJ r
 refine max_two_ints (I.ok.hd hc) fun h' tk k=>⟨_,H,I.kept k,?_,q⟩
 by_cases hj:j>i
 ·rw [if_pos hj,if_pos hj];exact ⟨_,rfl⟩
 ·rw [if_neg hj,if_neg hj];exact ⟨_,rfl⟩
theorem tV (hc:X.calm=true):oe X (.builtin "min") (fun xs H Q=>∃ i j,xs=[.int i,.int j]∧Q (.int (if j<i then j else i)) H):=by
 intro pins s σ H xs us Q I r h;obtain ⟨i,j,rfl,q⟩:=h
 obtain ⟨u,w',rfl,⟨t,rfl⟩,⟨t',rfl⟩⟩:=wJ r
 refine min_two_ints (I.ok.hd hc) fun h' tk k=>⟨_,H,I.kept k,?_,q⟩
 by_cases hj:j<i
 ·rw [if_pos hj,if_pos hj];exact ⟨_,rfl⟩
 ·rw [if_neg hj,if_neg hj];exact ⟨_,rfl⟩
end
structure rg (h:Heap) (x dx C:Addr) (mA:Str→Option Value):Prop where
 obj:h.get? x=some (PySem.W.instObj C dx)
 ns:h.Ns1 dx mA
 ne:dx≠x
theorem tJ {h:Heap} {dx:Addr} {mA:Str→Option Value} (n:h.Ns1 dx mA):∃ od,h.get? dx=some od∧∀ name,PySem.W.lookIn name od=some (mA name):=by
 obtain ⟨o,es,ep,ho,hd,hk,_,hm⟩:=n
 refine ⟨o,ho,fun name=>?_⟩
 have e:=hm name
 unfold nsFind findBy at e;rw [←Array.find?_toList] at e;unfold PySem.W.lookIn;rw [hd];dsimp only;split
 ·rename_i y q
  rw [q] at e;exact congrArg some e
 ·rename_i q
  rw [q] at e;have a:es.toList.any (·.refKey)=false:=by
   rw [List.any_eq_false];intro y hy;obtain ⟨z,t,hkey⟩:=hk y (Array.mem_toList_iff.mp hy)
   simp [DictEntry.refKey,hkey]
  have a':¬es.toList.any (·.refKey)=true:=by rw [a];exact aI
  rw [if_neg a'];exact congrArg some e
theorem rg.look {h:Heap} {x dx C:Addr} {mA:Str→Option Value} (I:rg h x dx C mA):∃ od,PySem.W.InstAt h x (PySem.W.instObj C dx) C (some od)∧∀ name,PySem.W.lookIn name od=some (mA name) :=
 let ⟨od,ho,hl⟩:=tJ I.ns
 ⟨od,⟨I.obj,rfl,rfl,ho⟩,hl⟩
section
variable {prog:Program} {w:World} {A:Around} {E:Value→Shared→Prop} {s:Shared} {K:Fg_} {x dx C f:Addr} {mA:Str→Option Value} {name:Str} {v:Value}
theorem wm {expr:Bool} {Q:Value→Shared→Prop} (X:K.In s.heap) (I:rg s.heap x dx C mA) (hg:PySem.W.plainGet K C name=true) (hh:PySem.W.hasDictIn K C=true)
  (ha:PySem.W.findIn K (.ref C) name=some none) (hv:mA name=some v) (hv':PySem.W.handedIn v=true) (h:Q v { s with toks:=s.toks+1 }) :
  wpAny (model prog w) A (getAttr (.ref x) name expr) Q E s:=by
 obtain ⟨od,J,hl⟩:=I.look
 exact PySem.W.get_value X J (PySem.W.plainGet_of hg).1 (PySem.W.findObj_own hh ha rfl (by rw [hl,hv])) hv' h
theorem uU {pl:Sem Bool} {Q:Value×List Value→Shared→Prop} (X:K.In s.heap) (I:rg s.heap x dx C mA) (hg:PySem.W.plainGet K C name=true)
  (hf:PySem.W.findIn K (.ref C) name=some (some (.ref f))) (ht:PySem.W.isFn K (.ref f)=true) (hv:mA name=none) (h:Q (.ref f,[.ref x]) s) :
  wpAny (model prog w) A (getMethod (.ref x) name pl) Q E s:=by
 obtain ⟨od,J,hl⟩:=I.look
 exact PySem.W.method_fn X J (PySem.W.plainGet_of hg).1 (PySem.W.plainGet_of hg).2 hf (beq_iff_eq.mp ht) (by show (PySem.W.lookIn name od).map (·.isSome)=some false;rw [hl,hv];rfl) h
theorem vD {ns:List Str} {Q:Unit→Shared→Prop} (X:K.In s.heap) (I:rg s.heap x dx C mA)
  (hs:PySem.W.findIn K (.ref C) "__setattr__" = some (some (.builtin "object.__setattr__"))) (hp:PySem.W.plainOver K C=true) (ht:PySem.W.takerIn K C name=some none) (hh:PySem.W.hasDictIn K C=true)
  (hw:PySem.Within mA ns) (hsz:ns.length≤sizeLine)
  (h:∀ h',rg h' x dx C (fun y=>if y=name then some v else mA y)→Heap.SameBut dx s.heap h'→Q () { s with heap:=h',toks:=s.toks+2 }) :
  wpAny (model prog w) A (setAttr (.ref x) name v) Q E s:=by
 obtain ⟨od,J,hl⟩:=I.look
 refine PySem.W.set_plain X J hs (PySem.W.osa_open (s:={ s with toks:=s.toks+1 }) (r:=none) X J hp ht fun b=>?_)
 obtain ⟨cd,hc,hd'⟩:=PySem.W.any_some hh
 have hx:s.heap.get? x=some ⟨.ref C,some dx,.plain,#[]⟩:=I.obj
 refine wpAny_bind (wpAny_pure (wpAny_bind (wpAny_bind (wpAny_loadPart hx (wpAny_bind (PySem.W.Looks.here (s:={ s with toks:=s.toks+1 }) (PySem.W.looks_clsIn X hc) ?_))))))
 rw [hd'];refine wpAny_pure (a:=some dx) (wpAny_bind (wpAny_pure (wpAny_bind ?_)))
 refine wpAny_nsSet1 (s:={ s with toks:=s.toks+1 }) I.ns fun h' hn2 hs2=>?_
 obtain ⟨oD,esD,epD,hoD,hdD,hcD⟩:=hn2.count (PySem.Within.cons name v hw)
 refine wpAny_bind (wpAny_lookBehind hoD (by rw [hdD];exact pastItsLine_dict (bF hcD (by rw [aj];omega))) ?_)
 exact wpAny_pure (h _ ⟨(hs2.2 _ (Ne.symm I.ne)).trans I.obj,hn2,I.ne⟩ hs2)
theorem uO {R:Result→Shared→Prop} {vs:List Value} {kw:List (Str×Value)} (X:K.In s.heap) (hm:PySem.W.makesIn K C=true)
  (hi:PySem.W.findIn K (.ref C) "__init__" = some (some (.ref f))) (hf:PySem.W.typeIn K (.ref f)=some (.type "function"))
  (h:codeAny (model prog w) (A.under (.builtin "type.__call__" ⟨.ref C::vs,kw⟩)) (.call (.ref f) ⟨.ref (s.heap.objs.size+1)::vs,kw⟩) (PySem.W.InitBack (s.heap.objs.size+1) R)
   { s with heap:=(s.heap.push PySem.W.emptyDict).push (PySem.W.instObj C s.heap.objs.size) }) :
  codeAny (model prog w) A (.call (.ref C) ⟨vs,kw⟩) R s:=by
 obtain ⟨hh,g,d,t,os⟩:=s
 exact PySem.W.make_core (PySem.W.makes_of X hm) (PySem.W.looks_findIn X hi) (fun self=>PySem.W.bind_fn X self hf) (.inl rfl) h
end
def eJ (f:Str) (v:V):List (Str×V)→List (Str×V)
 | []=>[(f,v)]
 | (g,x)::r=>if g=f then (g,v)::r else (g,x)::eJ f v r
theorem iP (f g:Str) (v:V):∀ fs:List (Str×V),(eJ f v fs).lookup g=if g=f then some v else fs.lookup g
 | []=>by
  show List.lookup g [(f,v)]=_
  by_cases h:g=f
  ·have hb:(g==f)=true:=beq_iff_eq.mpr h
   simp only [List.lookup,hb,if_pos h]
  ·have hb:(g==f)=false:=beq_eq_false_iff_ne.mpr h
   simp only [List.lookup,hb,if_neg h]
 | (k,x)::r=>by
  have ih:=iP f g v r
  rw [show eJ f v ((k,x)::r)=(if k=f then (k,v)::r else (k,x)::eJ f v r) from rfl];by_cases hk:k=f
  ·rw [if_pos hk];by_cases h:g=k
   ·have hb:(g==k)=true:=beq_iff_eq.mpr h
    simp only [List.lookup,hb,if_pos (h.trans hk)]
   ·have hb:(g==k)=false:=beq_eq_false_iff_ne.mpr h
    simp only [List.lookup,hb,if_neg (fun e:g=f=>h (e.trans hk.symm))]
  ·rw [if_neg hk];by_cases h:g=k
   ·have hb:(g==k)=true:=beq_iff_eq.mpr h
    simp only [List.lookup,hb,if_neg (fun e:g=f=>hk (h.symm.trans e))]
   ·have hb:(g==k)=false:=beq_eq_false_iff_ne.mpr h
    simp only [List.lookup,hb];exact ih
theorem g9 (f:Str) (v:V):∀ fs:List (Str×V),f∈(eJ f v fs).map (·.1)∧∀ g,g∈fs.map (·.1)→g∈(eJ f v fs).map (·.1)
 | []=>⟨by simp [eJ],fun g h=>by simp at h⟩
 | (k,x)::r=>by
  obtain ⟨i1,i2⟩:=g9 f v r
  rw [show eJ f v ((k,x)::r)=(if k=f then (k,v)::r else (k,x)::eJ f v r) from rfl];by_cases hk:k=f
  ·rw [if_pos hk];subst hk;exact ⟨by simp,fun g h=>by simpa using h⟩
  ·rw [if_neg hk];refine ⟨?_,fun g h=>?_⟩
   ·rw [aY];exact ax _ i1
   ·rw [aY] at h ⊢;rcases aB.mp h with e | e
    ·exact aB.mpr (.inl e)
    ·exact ax _ (i2 g e)
theorem lg (f:Str) (v:V):∀ fs:List (Str×V),(eJ f v fs).length≤fs.length+1
 | []=>by simp [eJ]
 | (k,x)::r=>by
  have ih:=lg f v r
  rw [show eJ f v ((k,x)::r)=(if k=f then (k,v)::r else (k,x)::eJ f v r) from rfl];by_cases hk:k=f
  ·rw [if_pos hk,aj,aj];omega
  ·rw [if_neg hk,aj,aj];omega
theorem iV.some_of {v:V} {o:Option Value} (r:iV (some v) o):∃ u,o=some u∧cM v u:=by
 cases o with
 | none=>exact (show False from r).elim
 | some u=>exact ⟨u,rfl,r⟩
theorem iV.none_of {o:Option Value} (r:iV none o):o=none:=by
 cases o with
 | none=>rfl
 | some u=>exact (show False from r).elim
theorem nX {v:V} {u:Value} (r:cM v u):PySem.W.handedIn u=true:=by
 cases v with
 | non=>cases (show u=Value.none from r);rfl
 | bl b=>cases (show u=Value.bool b from r);rfl
 | int i=>obtain ⟨t,e⟩:=(show ∃ t,u=Value.int i t from r);cases e;rfl
 | str x=>obtain ⟨t,e⟩:=(show ∃ t,u=Value.str x t from r);cases e;rfl
 | byt b=>obtain ⟨t,e⟩:=(show ∃ t,u=Value.bytes b t from r);cases e;rfl
 | flt b=>obtain ⟨t,e⟩:=(show ∃ t,u=Value.float b t from r);cases e;rfl
 | ref a=>cases (show u=Value.ref a from r);rfl
 | ty n=>cases (show u=Value.type n from r);rfl
section
variable {P:Program} {w:World} {H H':Hp} {h h':Heap} {a C dx:Addr} {fs fs':List (Str×V)}
theorem lI (hok:HOk P w H h) (e:H a=some (.ins C dx fs)):∃ mA,rg h a dx C mA∧(∀ f,iV (fs.lookup f) (mA f))∧PySem.Within mA (fs.map (·.1))∧fs.length≤1000∧H dx=some (.own a):=by
 obtain ⟨d,z,ne,ob,mA,n,r,q⟩:=(show dZ P w H h a (.ins C dx fs) from hok a _ e)
 exact ⟨mA,⟨ob,n,ne⟩,r,q,z,d⟩
end
structure Cls (K:Fg_) (C:Addr):Prop where
 pg:PySem.W.plainGet K C Str.empty=true
 hd:PySem.W.hasDictIn K C=true
 po:PySem.W.plainOver K C=true
 sa:PySem.W.findIn K (.ref C) "__setattr__" = some (some (.builtin "object.__setattr__"))
theorem Cls.get {K:Fg_} {C:Addr} (c:Cls K C) (f:Str):PySem.W.plainGet K C f=true:=c.pg
def cV (K:Fg_) (C:Addr) (f:Str):Prop:=PySem.W.findIn K (.ref C) f=some none
theorem cV.taker {K:Fg_} {C:Addr} {f:Str} (n:cV K C f):PySem.W.takerIn K C f=some none:=by
 unfold PySem.W.takerIn;rw [show PySem.W.findIn K (.ref C) f=some none from n];rfl
structure qh (K:Fg_) (C:Addr) (m:Str) (f:Addr):Prop where
 at_:PySem.W.findIn K (.ref C) m=some (some (.ref f))
 fn:PySem.W.isFn K (.ref f)=true
 kp:PySem.W.keepIn K (.ref f)=true
section
variable {X:Cx} {pins:List (Addr×Obj)} {σ:St} {H:Hp} {s:Shared} {a C dx:Addr} {fs:List (Str×V)} {f:Str} {v:V} {A:Around} {E:Value→Shared→Prop}
theorem mI {b:Bool} {Q:Value→Shared→Prop} (I:Inv X pins σ H s) (e:H a=some (.ins C dx fs)) (c:Cls X.K C) (n:cV X.K C f) (l:fs.lookup f=some v)
  (h:∀ u s',Inv X pins σ H s'→cM v u→Q u s'):wpAny (model X.prog X.w) A (getAttr (.ref a) f b) Q E s:=by
 obtain ⟨mA,O,r,_,_,_⟩:=lI I.hok e
 obtain ⟨u,hu,ru⟩:=iV.some_of (v:=v) (o:=mA f) (by rw [←l];exact r f)
 exact wm I.kIn O (c.get f) c.hd n hu (nX ru) (h u _ (I.tok _) ru)
theorem mH {m:Str} {g:Addr} {pl:Sem Bool} {Q:Value×List Value→Shared→Prop} (I:Inv X pins σ H s) (e:H a=some (.ins C dx fs)) (c:Cls X.K C) (k:qh X.K C m g) (l:fs.lookup m=none)
  (h:Q (.ref g,[.ref a]) s):wpAny (model X.prog X.w) A (getMethod (.ref a) m pl) Q E s:=by
 obtain ⟨mA,O,r,_,_,_⟩:=lI I.hok e
 have hn:mA m=none:=iV.none_of (by rw [←l];exact r m)
 exact uU I.kIn O (c.get m) k.at_ k.fn hn h
theorem lX {y:V} {u:Value} {Q:Unit→Shared→Prop} (I:Inv X pins σ H s) (e:H a=some (.ins C dx fs)) (c:Cls X.K C) (n:cV X.K C f) (hl:fs.length<1000) (ry:cM y u)
  (h:∀ s',Inv X pins σ (upd H a (.ins C dx (eJ f y fs))) s'→Q () s'):wpAny (model X.prog X.w) A (setAttr (.ref a) f u) Q E s:=by
 obtain ⟨mA,O,r,wi,_,ho⟩:=lI I.hok e
 have hz:(fs.map (·.1)).length≤sizeLine:=by rw [au,sizeLine_eq];omega
 refine vD I.kIn O c.sa c.po n.taker c.hd wi hz fun h' O' sb=>h _ ?_
 have hd:∃ o,h'.get? dx=some o:=let ⟨o,_,_,e',_⟩:=O'.ns;⟨o,e'⟩
 refine I.write (x:=a) (e:=dx) (by rw [e];exact True.intro) (.inr ho) (fun b q hb z=>(sb.2 b hb).trans z) hd ?_
 refine ⟨by rw [ai O.ne];exact ho,?_,O.ne,O'.obj,_,O'.ns,fun g=>?_,fun g hg=>?_⟩
 ·have:=lg f y fs;omega
 ·show iV ((eJ f y fs).lookup g) (if g=f then some u else mA g)
  rw [iP];by_cases q:g=f
  ·rw [if_pos q,if_pos q];exact ry
  ·rw [if_neg q,if_neg q];exact r g
 ·by_cases q:g=f
  ·rw [q];exact (g9 f y fs).1
  ·refine (g9 f y fs).2 g (wi g fun z=>hg ?_)
   show (if g=f then some u else mA g)=none
   rw [if_neg q];exact z
theorem Inv.made (I:Inv X pins σ H s):Inv X pins σ (upd (upd H s.heap.objs.size (.own (s.heap.objs.size+1))) (s.heap.objs.size+1) (.ins C s.heap.objs.size []))
  { s with heap:=(s.heap.push PySem.W.emptyDict).push (PySem.W.instObj C s.heap.objs.size) }:=by
 have e1:(s.heap.push PySem.W.emptyDict).get? s.heap.objs.size=some PySem.W.emptyDict:=Heap.get?_push_size s.heap rfl
 have e2:((s.heap.push PySem.W.emptyDict).push (PySem.W.instObj C s.heap.objs.size)).get? (s.heap.objs.size+1)=some (PySem.W.instObj C s.heap.objs.size):=by
  have:=Heap.get?_push_size (s.heap.push PySem.W.emptyDict) (o:=PySem.W.instObj C s.heap.objs.size) rfl
  rwa [Heap.size_push] at this
 have e3:(s.heap.push PySem.W.emptyDict).Ns s.heap.objs.size (fun _=>none):=⟨PySem.W.emptyDict,#[],_,e1,rfl,(fun e he=>absurd he (by simp)),fun _=>rfl⟩
 have I1:=I.laid (a:=s.heap.objs.size) (o:=.own (s.heap.objs.size+1)) (h':=s.heap.push PySem.W.emptyDict) (t':=s.toks) (fun b u q=>Heap.get?_push_of_some _ q) (aK _) ⟨_,e1⟩
 refine I1.laid (a:=s.heap.objs.size+1) (o:=.ins C s.heap.objs.size []) (t':=s.toks) (fun b u q=>Heap.get?_push_of_some _ q) (fj (Heap.size_push _ _)) ?_
 have ne:s.heap.objs.size≠s.heap.objs.size+1:=bu (ie _)
 refine ⟨by rw [ai ne,aA],aW _,ne,e2,fun _=>none,(Heap.Ns1.of_empty e3).at fun o q=>Heap.get?_push_of_some _ q,fun _=>True.intro,fun y hy=>absurd rfl hy⟩
theorem sx {prog:Program} {w:World} {env:Env} {e:Expr} {f:Str} {pos:Pos} {s:Shared} {Q:Value→Shared→Prop} (hb:attributeBase e f env (eval e env)=eval e env)
  (h:wpAny (model prog w) A (eval e env) (fun o s₁=>wpAny (model prog w) A (getAttr o f true) Q E s₁) E s):wpAny (model prog w) A (eval (.Attribute e f pos) env) Q E s :=
 Attribute_any_ h (by rw [arm_eval_Attribute,hb])
end
def tFld (K:Fg_) (ta:TE) (f:Str):TE:=fun σ H Q=>ta σ H fun x H1=>∃ a C dx fs v,x = .ref a∧H1 a=some (.ins C dx fs)∧Cls K C∧cV K C f∧fs.lookup f=some v∧Q v H1
def sFld (K:Fg_) (ta tv:TE) (f:Str):TS:=fun D σ H=>tv σ H fun y H1=>ta σ H1 fun x H2=>∃ a C dx fs,x = .ref a∧H2 a=some (.ins C dx fs)∧Cls K C∧cV K C f∧fs.length<1000 ∧
 D.nx σ (upd H2 a (.ins C dx (eJ f y fs)))
def InOp (X:Cx) (op:Operator) (rd:V→V→Hp→VK→Prop):Prop :=
 ∀ (pins:List (Addr×Obj)) (s:Shared) (σ:St) (H:Hp) (x y:V) (u v:Value) (Q:VK),Inv X pins σ H s→cM x u→cM y v→rd x y H Q→wpAny (model X.prog X.w) X.A (inplaceOp op u v) (EP X pins σ Q) X.xe s
def vN (K:Fg_) (ta tv:TE) (rd:V→V→Hp→VK→Prop) (f:Str):TS:=fun D σ H=>ta σ H fun x H1=>∃ a C dx fs v,x = .ref a∧H1 a=some (.ins C dx fs)∧Cls K C∧cV K C f∧fs.lookup f=some v ∧
 tv σ H1 fun y H2=>rd v y H2 fun z H3=>∃ dx' fs',H3 a=some (.ins C dx' fs')∧fs'.length<1000∧D.nx σ (upd H3 a (.ins C dx' (eJ f z fs')))
section
variable {X:Cx} {o e value:Expr} {f:Str} {pos pos' tpos:Pos} {ta tv:TE}
theorem aV (he:PE X e ta) (hb:attributeBase e f X.env (eval e X.env)=eval e X.env):PE X (.Attribute e f pos) (tFld X.K ta f):=by
 intro pins s σ H Q I h;refine sx hb (thn (he pins s σ H _ I h) fun u s1 ⟨x,H1,I1,rx,a,C,dx,fs,v,ex,ea,c,n,l,q⟩=>?_)
 subst ex;obtain rfl:u=Value.ref a:=rx
 exact mI I1 ea c n l fun u' s2 I2 ru=>⟨v,H1,I2,ru,q⟩
theorem cJ (ha:PE X o ta) (hv:PE X value tv) (hs:swapsWith value (some (.Attribute o f pos')) pos.line X.env=pure false):PS X (.Assign [.Attribute o f pos'] value pos) (sFld X.K ta tv f):=by
 intro pins s σ H D I h;refine plainObj_wpAny_Assign_Attribute (thn (hv pins s σ H _ I h) fun u s1 ⟨y,H1,I1,ry,q⟩=>thn (ha pins s1 σ H1 _ I1 q) fun ov s2 ⟨x,H2,I2,rx,a,C,dx,fs,ex,ea,c,n,l,q2⟩=>?_) hs
 subst ex;obtain rfl:ov=Value.ref a:=rx
 exact lX I2 ea c n l ry fun s3 I3=>⟨σ,_,I3,q2⟩
theorem kr {op:Operator} {rd:V→V→Hp→VK→Prop} (ha:PE X o ta) (hv:PE X value tv) (hop:InOp X op rd):PS X (.AugAssign (.Attribute o f tpos) op value pos) (vN X.K ta tv rd f):=by
 intro pins s σ H D I h;refine wpAny_AugAssign_AttributeAny (thn (ha pins s σ H _ I h) fun ov s1 ⟨x,H1,I1,rx,a,C,dx,fs,v,ex,ea,c,n,l,q⟩=>?_)
 subst ex;obtain rfl:ov=Value.ref a:=rx
 refine mI I1 ea c n l fun u s2 I2 ru=>thn (hv pins s2 σ H1 _ I2 q) fun w3 s3 ⟨y,H2,I3,ry,q3⟩=>thn (hop pins s3 σ H2 v y u w3 _ I3 ru ry q3) fun w4 s4 ⟨z,H3,I4,rz,dx',fs',ea',l',q4⟩=>?_
 exact lX I4 ea' c n l' rz fun s5 I5=>⟨σ,_,I5,q4⟩
def rAdd:V→V→Hp→VK→Prop:=fun x y H Q=>∃ i j,x = .int i∧y = .int j∧Q (.int (i+j)) H
theorem qS:InOp X .Add rAdd:=by
 rintro pins s σ H x y u v Q I rx ry ⟨i,j,rfl,rfl,q⟩
 obtain ⟨t,rfl⟩:=(show ∃ t,u=Value.int i t from rx)
 obtain ⟨t',rfl⟩:=(show ∃ t',v=Value.int j t' from ry)
 exact PyProof.Rows.iadd_int ⟨.int (i+j),H,I.tok _,⟨_,rfl⟩,q⟩
end
section
variable {X:Cx} {pins:List (Addr×Obj)} {σ:St} {H:Hp} {s:Shared} {A:Around} {E:Value→Shared→Prop} {Q:Value→Shared→Prop} {c:Value} {b:Bool}
inductive kO (K:Fg_) (H:Hp):V→Value→Prop where
 | non:kO K H .non (.type "NoneType")
 | bl (x:Bool):kO K H (.bl x) (.type "bool")
 | int (i:Int):kO K H (.int i) (.type "int")
 | str (x:Str):kO K H (.str x) (.type "str")
 | flt (x:UInt64):kO K H (.flt x) (.type "float")
 | lst {a:Addr} {xs:List V} (e:H a=some (.lst xs)):kO K H (.ref a) (.type "list")
 | frz {a:Addr} {o:Obj} {xs:List V} (e:H a=some (.frz o (.lst xs))):kO K H (.ref a) (.type "list")
 | tup {a:Addr} {xs:List V} (e:H a=some (.tup xs)):kO K H (.ref a) (.type "tuple")
 | dK {a:Addr} {kvs:List (Key×V)} (e:H a=some (.dK kvs)):kO K H (.ref a) (.type "dict")
 | dT {a:Addr} {kvs:List (List Key×V)} (e:H a=some (.dT kvs)):kO K H (.ref a) (.type "dict")
 | ins {a C dx:Addr} {fs:List (Str×V)} (e:H a=some (.ins C dx fs)) (cl:Cls K C) (ha:PySem.W.findIn K (.ref C) "__class__" = some (some (.builtin "object.__class__")))
   (hn:PySem.W.specialIn K (.builtin "object.__class__") "__get__" = some (some (.builtin "getset_descriptor.__get__"))) (htk:PySem.W.takesIn K (.builtin "object.__class__")=some true)
   (hm:PySem.W.mroIn K C (.type "object")=some true):kO K H (.ref a) (.ref C)
theorem tL {x:V} {u t:Value} (I:Inv X pins σ H s) (rx:cM x u) (ty:kO X.K H x t) (e:PySem.W.kitOne X.K t c=some b) (h:∀ tk,Q (.bool b) { s with toks:=tk }) :
  wpAny (model X.prog X.w) A (call (.builtin "isinstance") [u,c]) Q E s:=by
 cases ty with
 | non=>cases (show u=Value.none from rx);exact PySem.W.kia_one PySem.W.kitx_none I.kIn True.intro e (fun z=>nomatch z) h
 | bl y=>cases (show u=Value.bool y from rx);exact PySem.W.kia_one PySem.W.kitx_bool I.kIn True.intro e (fun z=>nomatch z) h
 | int i=>obtain ⟨t,q⟩:=(show ∃ t,u=Value.int i t from rx);cases q;exact PySem.W.kia_one PySem.W.kitx_int I.kIn True.intro e (fun z=>nomatch z) h
 | str y=>obtain ⟨t,q⟩:=(show ∃ t,u=Value.str y t from rx);cases q;exact PySem.W.kia_one PySem.W.kitx_str I.kIn True.intro e (fun z=>nomatch z) h
 | flt y=>obtain ⟨t,q⟩:=(show ∃ t,u=Value.float y t from rx);cases q;exact PySem.W.kia_one PySem.W.kitx_float I.kIn True.intro e (fun z=>nomatch z) h
 | @lst a xs ea =>
  cases (show u=Value.ref a from rx)
  obtain ⟨_,_,n,_,h1⟩:=(show dZ X.prog X.w H s.heap a (.lst xs) from I.hok a _ ea)
  exact PySem.W.kia_one PySem.W.kitx_list I.kIn ⟨_,h1,rfl⟩ e (fun z=>nomatch z) h
 | @frz a ob xs ea =>
  cases (show u=Value.ref a from rx)
  obtain ⟨_,_,_,n,_,h1⟩:=(show dZ X.prog X.w H s.heap a (.frz ob (.lst xs)) from I.hok a _ ea)
  exact PySem.W.kia_one PySem.W.kitx_list I.kIn ⟨_,h1,rfl⟩ e (fun z=>nomatch z) h
 | @tup a xs ea =>
  cases (show u=Value.ref a from rx)
  obtain ⟨_,_,_,p⟩:=(show dZ X.prog X.w H s.heap a (.tup xs) from I.hok a _ ea)
  obtain ⟨o,h1,h2,_⟩:=p
  exact PySem.W.kia_one PySem.W.kitx_tuple I.kIn ⟨o,h1,h2⟩ e (fun z=>nomatch z) h
 | @dK a kvs ea =>
  cases (show u=Value.ref a from rx)
  obtain ⟨_,_,vs,_,p⟩:=(show dZ X.prog X.w H s.heap a (.dK kvs) from I.hok a _ ea)
  obtain ⟨o,es,ep,h1,h2,_⟩:=p
  exact PySem.W.kia_one PySem.W.kitx_dict I.kIn ⟨o,h1,h2.1⟩ e (fun z=>nomatch z) h
 | @dT a kvs ea =>
  cases (show u=Value.ref a from rx)
  obtain ⟨_,_,xs,_,o,es,ep,h1,h2,_⟩:=(show dZ X.prog X.w H s.heap a (.dT kvs) from I.hok a _ ea)
  exact PySem.W.kia_one PySem.W.kitx_dict I.kIn ⟨o,h1,h2.1⟩ e (fun z=>nomatch z) h
 | @ins a C dx fs ea cl ha hn htk hm =>
  cases (show u=Value.ref a from rx)
  obtain ⟨mA,O,_⟩:=lI I.hok ea
  obtain ⟨od,J,_⟩:=O.look
  exact PySem.W.kia_one (PySem.W.kitx_own (cl.get _) cl.hd ha hn htk hm) I.kIn J e (fun z=>nomatch z) h
end
structure cq (k:Nat) (A:Around):Prop where
 hd:A.handled=none
 dp:A.depth+3*k+5<recursionLimit
 un:A.units+16*k+200<cLine
theorem cq.mono {j k:Nat} {A:Around} (r:cq k A) (h:j≤k):cq j A:=⟨r.hd,by have:=r.dp;omega,by have:=r.un;omega⟩
theorem cq.deeper {k:Nat} {A:Around} (r:cq (k+1) A) (env:Env):cq k (A.deeper env) :=
 ⟨r.hd,by have:=r.dp;show A.depth+1+3*k+5<_;omega,by have:=r.un;show A.units+3+16*k+200<_;omega⟩
theorem qL {A:Around} {C:Addr} {us:List Value} {kw:List (Str×Value)}:(A.under (.builtin "type.__call__" ⟨.ref C::us,kw⟩)).depth=A.depth+1:=by
 first | rfl | simp [Around.under,Code.weight,Code.isCreation,Code.isGuard,Code.isCaller,Code.frames,Code.isFrame,guardIds]
theorem qK {A:Around} {C:Addr} {us:List Value} {kw:List (Str×Value)}:(A.under (.builtin "type.__call__" ⟨.ref C::us,kw⟩)).units=A.units+1:=by
 first | rfl | simp [Around.under,Code.cUnits,Code.frames,Code.isFrame]
theorem cq.make {k:Nat} {A:Around} (r:cq (k+1) A) (C:Addr) (us:List Value) (kw:List (Str×Value)):cq k (A.under (.builtin "type.__call__" ⟨.ref C::us,kw⟩)) :=
 ⟨r.hd,by have:=r.dp;rw [qL];omega,by have:=r.un;rw [qK];omega⟩
theorem cq.depth {k:Nat} {A:Around} (r:cq k A):A.depth<recursionLimit:=by have:=r.dp;omega
theorem cq.units0 {k:Nat} {A:Around} (r:cq k A):A.units<cLine:=by have:=r.un;omega
def vo:TA:=fun _ H Q=>Q [] H
def uj (ta:TE) (tr:TA):TA:=fun σ H Q=>ta σ H fun x H1=>tr σ H1 fun xs H2=>Q (x::xs) H2
section
variable {X:Cx} {e:Expr} {es:List Expr} {te:TE} {t:TA} {pos:Pos}
theorem aD:PA X [] vo:=fun _ _ _ _ H Q I h=>Calls.spliced_nil ⟨[],H,I,.nil,h⟩
theorem ae (ha:PE X e te) (hr:PA X es t) (hs:starEach (e::es) X.env=(false,eval e X.env)::starEach es X.env:=by rfl):PA X (e::es) (uj te t):=by
 intro pos pins s σ H Q I h;rw [hs];show wpAny _ _ (spliced ((false,eval e X.env)::backTo pos (starEach es X.env))) _ _ s
 refine Calls.spliced_cons (thn (ha pins s σ H _ I h) fun u s1 ⟨x,H1,I1,r1,q1⟩=>?_)
 exact thn (hr pos pins s1 σ H1 _ I1 q1) fun us s2 ⟨xs,H2,I2,r2,q2⟩=>⟨x::xs,H2,I2,.cons r1 r2,q2⟩
def tTup (t:TA):TE:=fun σ H Q=>t σ H fun xs H1=>xs.length≤sizeLine∧∀ p,H1 p=none→Q (.ref p) (upd H1 p (.tup xs))
def tLst (t:TA):TE:=fun σ H Q=>t σ H fun xs H1=>xs.length≤sizeLine∧∀ p,H1 p=none→Q (.ref p) (upd H1 p (.lst xs))
theorem mr {x1} (h:PA X es t):PE X (.Tuple es x1 pos) (tTup t):=by
 intro pins s σ H Q I hq;refine wpAny_Tuple_spliced (thn (h pos pins s σ H _ I hq) fun us s1 ⟨xs,H1,I1,r,z,q⟩=>⟨by rw [←r.length];exact z,?_⟩)
 have hf:H1 s1.heap.objs.size=none:=I1.hok.fresh (aK _)
 refine ⟨.ref s1.heap.objs.size,upd H1 s1.heap.objs.size (.tup xs),I1.laid (t':=s1.toks) (fun b u e=>Heap.get?_push_of_some _ e) (aK _) ?_,rfl,q _ hf⟩
 exact ⟨z,us,r,⟨_,Heap.get?_push_size _ rfl,rfl,_,rfl⟩⟩
theorem dP (h:PA X es t):PE X (.List es pos) (tLst t):=by
 intro pins s σ H Q I hq;refine wpAny_List_spliced (thn (h pos pins s σ H _ I hq) fun us s1 ⟨xs,H1,I1,r,z,q⟩=>⟨by rw [←r.length];exact z,?_⟩)
 have hf:H1 s1.heap.objs.size=none:=I1.hok.fresh (aK _)
 refine ⟨.ref s1.heap.objs.size,upd H1 s1.heap.objs.size (.lst xs),I1.laid (t':=s1.toks) (fun b u e=>Heap.get?_push_of_some _ e) (aK _) ?_,rfl,q _ hf⟩
 exact ⟨z,us,0,r,Heap.get?_push_size _ rfl⟩
end
abbrev Sp:=List V→Hp→VK→XK→Prop
abbrev CXT:=List Env→Hp→Shared→XK→Value→Shared→Prop
structure rm (P:Program) (w:World) (K:Fg_) (mg:Str→Option Value) (base:Heap) (A:Around) (outer:List Env) (s:Shared) (H:Hp):Prop where
 frames:A.frames=some outer
 mod:Mod K mg base
 bs:∀ b o,base.get? b=some o→s.heap.get? b=some o∧H b=none
 bsz:base.objs.size≤s.heap.objs.size
 funs:s.heap.FunFrames base outer
 frf:∀ b∈frs outer,H b=none
 hok:HOk P w H s.heap
 bare:AllBare s.gens
def CE (outer:List Env) (P:Program) (w:World) (H:Hp) (s:Shared) (Q:VK) (u:Value) (s':Shared):Prop :=
 ∃ v H',s'.os=s.os∧AllBare s'.gens∧Un (frs outer) [] H H' s.heap s'.heap∧HOk P w H' s'.heap∧cM v u∧Q v H'
def CR (CX:CXT) (outer:List Env) (P:Program) (w:World) (H:Hp) (s:Shared) (Q:VK) (E:XK) (r:Result) (s':Shared):Prop :=
 match r with
 | .ok (.ret u)=>CE outer P w H s Q u s'
 | .ok _=>False
 | .error e=>CX outer H s E e s'
structure bt (P:Program) (w:World) (K:Fg_) (mg:Str→Option Value) (base:Heap) (CX:CXT) (k:Nat) (f:Addr) (fd:FuncData) (ps:List Str) (sp:Sp):Prop where
 len:∀ vs H Q E,sp vs H Q E→vs.length=ps.length
 run:∀ (A:Around) (outer:List Env) (s:Shared) (H:Hp) (args:Args) (us:List Value) (vs:List V) (Q:VK) (E:XK),cq k A→rm P w K mg base A outer s H→BindsTo s fd args (ps.zip us)→b8 vs us→sp vs H Q E →
  codeAny (model P w) A (.call (.ref f) args) (CR CX outer P w H s Q E) s
theorem rm.make {P:Program} {w:World} {K:Fg_} {mg:Str→Option Value} {base:Heap} {A:Around} {outer:List Env} {s:Shared} {H:Hp} (e:rm P w K mg base A outer s H) (C:Addr) (us:List Value) (kw:List (Str×Value)) :
  rm P w K mg base (A.under (.builtin "type.__call__" ⟨.ref C::us,kw⟩)) outer s H:=⟨by first | exact e.frames | (simpa [Around.under,Code.envs,Code.isFrame,pushEnvs] using e.frames),e.mod,e.bs,e.bsz,e.funs,e.frf,e.hok,e.bare⟩
section
variable {X:Cx} {pins:List (Addr×Obj)} {σ:St} {H:Hp} {s s':Shared}
theorem Inv.env0 (I:Inv X pins σ H s):rm X.prog X.w X.K X.mg X.base X.A X.stack s H :=
 ⟨I.ok.frames,I.ok.mod,I.bs,bF I.ok.bsz I.sz,I.stack,I.stkFree,I.hok,I.bare⟩
theorem Inv.after {Q:VK} {u:Value} (I:Inv X pins σ H s) (h:CE X.stack X.prog X.w H s Q u s'):EP X pins σ Q u s':=by
 obtain ⟨v,H',os,bare,un,hok,r,q⟩:=h
 obtain ⟨hh,g,d,t,os'⟩:=s'
 obtain rfl:os'=s.os:=os
 exact ⟨v,H',I.call (h':=hh) (g':=g) (d':=d) (t':=t) (ch:=[]) un hok bare (fun b z=>absurd z (by simp)),r,q⟩
end
def uk (sp:Sp) (dvs:List V) (E:XK) (t:TA):TE:=fun σ H Q=>t σ H fun vs H1=>sp (vs++dvs) H1 Q E
def wL (C:Addr) (m:Str) (sp:Sp) (dvs:List V) (E:XK) (ta:TE) (t:TA):TE:=fun σ H Q=>ta σ H fun x H1=>∃ a dx fs,x = .ref a∧H1 a=some (.ins C dx fs)∧fs.lookup m=none ∧
 t σ H1 fun vs H2=>sp (x::(vs++dvs)) H2 Q E
def tMake (C:Addr) (sp:Sp) (dvs:List V) (E:XK) (t:TA):TE:=fun σ H Q=>t σ H fun vs H1=>∀ x dx,H1 x=none→H1 dx=none→dx≠x →
 sp (.ref x::(vs++dvs)) (upd (upd H1 dx (.own x)) x (.ins C dx [])) (fun v H2=>v = .non∧Q (.ref x) H2) E
def cB (K:Fg_) (fd:FuncData) (ps:List Str) (ds:List Value):Prop :=
 ∀ (s:Shared) (us:List Value),K.In s.heap→(us++ds).length=ps.length→BindsTo s fd ⟨us,[]⟩ (ps.zip (us++ds))
theorem cB.all {K:Fg_} {fd:FuncData} {ps:List Str} (h:∀ us:List Value,us.length=ps.length→bindArgs fd ⟨us,[]⟩=pure (ps.zip us)):cB K fd ps []:=fun s us _ hl=>by
 rw [bC] at hl ⊢;exact .of_eq (h us hl)
def fS (CX:CXT) (X:Cx) (E:XK):Prop:=∀ (pins:List (Addr×Obj)) (σ:St) (H:Hp) (s:Shared) (e:Value) (s':Shared),Inv X pins σ H s→CX X.stack H s E e s'→X.xe e s'
section
variable {X:Cx} {CX:CXT} {k:Nat} {f C:Addr} {fd:FuncData} {ps:List Str} {sp:Sp} {dvs:List V} {ds:List Value} {E:XK} {x m:Str} {p pos apos:Pos} {e o:Expr} {es:List Expr} {ta:TE} {t:TA}
theorem ot {pins:List (Addr×Obj)} {σ:St} {H:Hp} {s:Shared} {Q:VK} {us:List Value} {vs:List V} (F:bt X.prog X.w X.K X.mg X.base CX k f fd ps sp) (hr:cq k X.A) (hb:cB X.K fd ps ds) (hd:b8 dvs ds) (hx:fS CX X E)
  (I:Inv X pins σ H s) (r:b8 vs us) (h:sp (vs++dvs) H Q E):wpAny (model X.prog X.w) X.A (call (.ref f) us) (EP X pins σ Q) X.xe s:=by
 have r2:b8 (vs++dvs) (us++ds):=r.append hd
 have hl:(us++ds).length=ps.length:=by rw [←r2.length];exact F.len _ _ _ _ h
 refine wpAny_call (codeAny_mono (F.run X.A X.stack s H ⟨us,[]⟩ (us++ds) (vs++dvs) Q E hr I.env0 (hb s us I.kIn hl) r2 h) fun r s' hq=>?_)
 cases r with
 | error e=>exact hx pins σ H s e s' I hq
 | ok fl =>
  cases fl with
  | ret u=>exact I.after hq
  | next=>exact False.elim hq
  | brk=>exact False.elim hq
  | cont=>exact False.elim hq
theorem lH (F:bt X.prog X.w X.K X.mg X.base CX k f fd ps sp) (hr:cq k X.A) (hg:Gl X x) (hm:X.mg x=some (.ref f)) (hk:PySem.W.keepIn X.K (.ref f)=true) (hb:cB X.K fd ps ds) (hd:b8 dvs ds) (hx:fS CX X E)
  (ha:PA X (e::es) t) (hdb:(x==("__debug__" : Str))=false:=by decide) (he:starEach (e::es) X.env=(false,eval e X.env)::starEach es X.env:=by rfl) (hpl:(backTo pos (starEach es X.env)).any (·.1)=false:=by rfl) :
  PE X (.Call (.Name x p) (e::es) [] pos) (uk sp dvs E t):=by
 intro pins s σ H Q I h;refine wpAny_Call_Name_kw (fW I hg hm ?_ hdb)
 refine PySem.W.callWith_K (h₀:=X.base) I.ok.mod.kin hk (thn (ha pos pins s σ H _ I h) fun us s1 ⟨vs,H1,I1,r,q⟩=>⟨I1.kIn,?_⟩) he hpl
 exact ot F hr hb hd hx I1 r q
theorem jE {pl:Sem Bool} (he:PE X o ta) (c:Cls X.K C) (hm:qh X.K C m f) (F:bt X.prog X.w X.K X.mg X.base CX k f fd ps sp) (hr:cq k X.A) (hb:cB X.K fd ps ds) (hd:b8 dvs ds) (hx:fS CX X E) (ha:PA X (e::es) t)
  (hst:starEach (e::es) X.env=(false,eval e X.env)::starEach es X.env:=by rfl) (hpl:(backTo pos (starEach es X.env)).any (·.1)=false:=by rfl)
  (ht:eval (.Call (.Attribute o m apos) (e::es) [] pos) X.env=(do
   let ov ←eval o X.env
   standAt apos.atName
   let (f,first) ←holding [ov] (getMethod ov m pl)
   callWith pos f first (backTo pos (starEach (e::es) X.env)) (backToKw pos (keywordEach [] X.env))):=by rfl) :
  PE X (.Call (.Attribute o m apos) (e::es) [] pos) (wL C m sp dvs E ta t):=by
 intro pins s σ H Q I h;refine PySem.W.methodCall_KW (pl:=pl) (thn (he pins s σ H _ I h) fun u s1 ⟨x,H1,I1,rx,a,dx,fs,ex,ea,l,q⟩=>?_) ht
 subst ex;obtain rfl:u=Value.ref a:=rx
 refine mH I1 ea c hm l ?_
 refine PySem.W.callWith_K (first:=[.ref a]) (h₀:=X.base) I.ok.mod.kin hm.kp (thn (ha pos pins s1 σ H1 _ I1 q) fun us s2 ⟨vs,H2,I2,r,q2⟩=>⟨I2.kIn,?_⟩) hst hpl
 exact ot (us:=.ref a::us) (vs:=.ref a::vs) F hr hb hd hx I2 (.cons rfl r) q2
theorem gj {pl:Sem Bool} (he:PE X o ta) (c:Cls X.K C) (hm:qh X.K C m f) (F:bt X.prog X.w X.K X.mg X.base CX k f fd ps sp) (hr:cq k X.A) (hb:cB X.K fd ps ds) (hd:b8 dvs ds) (hx:fS CX X E)
  (ht:eval (.Call (.Attribute o m apos) [] [] pos) X.env=(do
   let ov ←eval o X.env
   standAt apos.atName
   let (f,first) ←holding [ov] (getMethod ov m pl)
   callWith pos f first (backTo pos (starEach [] X.env)) (backToKw pos (keywordEach [] X.env))):=by rfl) :
  PE X (.Call (.Attribute o m apos) [] [] pos) (wL C m sp dvs E ta vo):=by
 intro pins s σ H Q I h;refine PySem.W.methodCall_KW (pl:=pl) (thn (he pins s σ H _ I h) fun u s1 ⟨x,H1,I1,rx,a,dx,fs,ex,ea,l,q⟩=>?_) ht
 subst ex;obtain rfl:u=Value.ref a:=rx
 refine mH I1 ea c hm l ?_
 exact PySem.W.callWith_K0 (first:=[.ref a]) I1.kIn hm.kp (ot (us:=[.ref a]) (vs:=[.ref a]) F hr hb hd hx I1 (.cons rfl .nil) q)
structure Mk (K:Fg_) (C f:Addr):Prop where
 makes:PySem.W.makesIn K C=true
 init:PySem.W.findIn K (.ref C) "__init__" = some (some (.ref f))
 fn:PySem.W.isFn K (.ref f)=true
 kp:PySem.W.keepIn K (.ref C)=true
theorem uA {pins:List (Addr×Obj)} {σ:St} {H:Hp} {s:Shared} {Q:VK} {us:List Value} {vs:List V} (M:Mk X.K C f) (F:bt X.prog X.w X.K X.mg X.base CX k f fd ps sp) (hr:cq (k+1) X.A) (hb:cB X.K fd ps ds) (hd:b8 dvs ds)
  (hx:fS CX X E) (I:Inv X pins σ H s) (r:b8 vs us)
  (h:∀ x dx,H x=none→H dx=none→dx≠x→sp (.ref x::(vs++dvs)) (upd (upd H dx (.own x)) x (.ins C dx [])) (fun v H2=>v = .non∧Q (.ref x) H2) E) :
  wpAny (model X.prog X.w) X.A (call (.ref C) us) (EP X pins σ Q) X.xe s:=by
 have hq:=h (s.heap.objs.size+1) s.heap.objs.size (I.hok.fresh (Nat.le_succ _)) (I.hok.fresh (aK _)) (bu (ie _))
 have I2:=Inv.made (C:=C) I
 have r2:b8 (V.ref (s.heap.objs.size+1)::(vs++dvs)) (Value.ref (s.heap.objs.size+1)::(us++ds)):=.cons rfl (r.append hd)
 have hl:(Value.ref (s.heap.objs.size+1)::us++ds).length=ps.length:=by
  have e:=r2.length
  rw [F.len _ _ _ _ hq] at e;exact e.symm
 refine wpAny_call (uO (f:=f) I.kIn M.makes M.init (beq_iff_eq.mp M.fn) (codeAny_mono (F.run _ X.stack _ _ ⟨Value.ref (s.heap.objs.size+1)::us,[]⟩ (Value.ref (s.heap.objs.size+1)::(us++ds)) _ _ E (hr.make C us [])
  (I2.env0.make C us []) (hb _ (Value.ref (s.heap.objs.size+1)::us) I2.kIn hl) r2 hq) fun r s' hq'=>?_))
 cases r with
 | error e=>exact hx pins σ _ _ e s' I2 hq'
 | ok fl =>
  cases fl with
  | ret u =>
   obtain ⟨v,H',I3,rv,ev,q3⟩:=I2.after hq'
   subst ev;exact ⟨rv,⟨V.ref (s.heap.objs.size+1),H',I3,rfl,q3⟩⟩
  | next=>exact False.elim hq'
  | brk=>exact False.elim hq'
  | cont=>exact False.elim hq'
theorem jF (M:Mk X.K C f) (F:bt X.prog X.w X.K X.mg X.base CX k f fd ps sp) (hr:cq (k+1) X.A) (hg:Gl X x) (hm:X.mg x=some (.ref C)) (hb:cB X.K fd ps ds) (hd:b8 dvs ds) (hx:fS CX X E)
  (ha:PA X (e::es) t) (hdb:(x==("__debug__" : Str))=false:=by decide) (he:starEach (e::es) X.env=(false,eval e X.env)::starEach es X.env:=by rfl) (hpl:(backTo pos (starEach es X.env)).any (·.1)=false:=by rfl) :
  PE X (.Call (.Name x p) (e::es) [] pos) (tMake C sp dvs E t):=by
 intro pins s σ H Q I h;refine wpAny_Call_Name_kw (fW I hg hm ?_ hdb)
 refine PySem.W.callWith_K (h₀:=X.base) I.ok.mod.kin M.kp (thn (ha pos pins s σ H _ I h) fun us s1 ⟨vs,H1,I1,r,q⟩=>⟨I1.kIn,?_⟩) he hpl
 exact uA M F hr hb hd hx I1 r q
end
section
variable {X:Cx} {CX:CXT} {k:Nat} {f C:Addr} {fd:FuncData} {ps ks:List Str} {sp:Sp} {E:XK} {x m:Str} {p pos apos kpos:Pos} {e o:Expr} {es:List Expr} {kws:List Keyword} {te ta:TE} {t tk:TA} {nm:Option Str}
variable {g:List Value→List Value→List Value} {gV:List V→List V→List V}
end
structure ba (N P:List Str) (sc:Scope):Prop where
 kind:sc.kind = .function
 co:sc.isCoroutine=false
 gen:sc.isGenerator=false
 nd:N.Nodup
 pre:N.take P.length=P
 par:∀ x∈P,sc.names.lookup x=some .local∨sc.names.lookup x=some .cell
 nofree:∀ y∈sc.names,y.2≠.free
theorem nZ {kindOf:Str→Option NameKind} {x:Str}:∀ {binds:List (Str×Value)} {m:Str→Option Value},(∀ v,(x,v)∉binds)→bindL kindOf binds m x=m x
 | [],_,_=>rfl
 | (n,v)::r,m,h=>by
  unfold bindL;rw [nZ fun w hw=>h w (ax _ hw)]
  split
  ·have:x≠n:=by rintro rfl;exact h v aR
   simp [this]
  ·rfl
theorem n8 {kindOf:Str→Option NameKind} {x:Str}:∀ {binds:List (Str×Value)} {m:Str→Option Value},(∀ v,(x,v)∉binds)→bindC kindOf binds m x=m x
 | [],_,_=>rfl
 | (n,v)::r,m,h=>by
  unfold bindC;rw [n8 fun w hw=>h w (ax _ hw)]
  split
  ·rfl
  ·have:x≠n:=by rintro rfl;exact h v aR
   simp [this]
theorem n6 {kindOf:Str→Option NameKind} {x:Str} {v:Value}:∀ {P:List Str} {vs:List Value} {i:Nat} {m:Str→Option Value},P.Nodup→P[i]? = some x→vs[i]? = some v→kindOf x=some .local →
  bindL kindOf (P.zip vs) m x=some v
 | [],_,_,_,_,h,_,_=>by simp at h
 | _::_,[],_,_,_,_,h,_=>by simp at h
 | p::P,w::vs,0,m,nd,h1,h2,hk=>by
  simp at h1 h2;subst h1;subst h2;show bindL kindOf ((p,w)::P.zip vs) m p=_
  unfold bindL;rw [nZ fun v hv=>(aS.mp nd).1 (List.of_mem_zip hv).1,if_pos hk]
  simp
 | p::P,w::vs,i+1,m,nd,h1,h2,hk=>by
  show bindL kindOf ((p,w)::P.zip vs) m x=_
  unfold bindL;exact n6 (i:=i) (aS.mp nd).2 (by simpa using h1) (by simpa using h2) hk
theorem n9 {kindOf:Str→Option NameKind} {x:Str} {v:Value}:∀ {P:List Str} {vs:List Value} {i:Nat} {m:Str→Option Value},P.Nodup→P[i]? = some x→vs[i]? = some v→kindOf x≠some .local →
  bindC kindOf (P.zip vs) m x=some v
 | [],_,_,_,_,h,_,_=>by simp at h
 | _::_,[],_,_,_,_,h,_=>by simp at h
 | p::P,w::vs,0,m,nd,h1,h2,hk=>by
  simp at h1 h2;subst h1;subst h2;show bindC kindOf ((p,w)::P.zip vs) m p=_
  unfold bindC;rw [n8 fun v hv=>(aS.mp nd).1 (List.of_mem_zip hv).1,if_neg hk]
  simp
 | p::P,w::vs,i+1,m,nd,h1,h2,hk=>by
  show bindC kindOf ((p,w)::P.zip vs) m x=_
  unfold bindC;exact n9 (i:=i) (aS.mp nd).2 (by simpa using h1) (by simpa using h2) hk
def jA (N:List Str) (vs:List V):St:=vs.map some++List.replicate (N.length - vs.length) none
def cD (CX:CXT) (P:Program) (w:World) (K:Fg_) (mg:Str→Option Value) (base:Heap) (N:List Str) (qual:Str) (scope:Scope) (f:Addr) (cd:Value) (A:Around) (outer:List Env) (s:Shared) (H:Hp) (E:XK):Cx where
 prog:=P
 w:=w
 K:=K
 mg:=mg
 base:=base
 A:=A.deeper (envOfC qual scope s.heap.objs.size f cd)
 N:=N
 s_0:=s
 H_0:=H
 env:=envOfC qual scope s.heap.objs.size f cd
 outer:=outer
 stack:=envOfC qual scope s.heap.objs.size f cd::outer
 ex:=[]
 calm:=true
 fn:=fun _=>true
 pn:=[]
 xe:=fun e s'=>wpAny (model P w) (A.deeper (envOfC qual scope s.heap.objs.size f cd)) (leaving (envOfC qual scope s.heap.objs.size f cd) e) (fun _ s''=>CX outer H s E e s'') (fun e' s''=>CX outer H s E e' s'') s'
theorem qc {sc:Scope} {n:Nat} {x:Str} (h:sc.names.lookup x=some .cell):∃ c,(cellsFrom n sc.names []).lookup x=some c:=by
 have q:=PySem.W.cellsFrom_some sc.names n [] (.inl h)
 exact Option.isSome_iff_exists.mp q
theorem tM {CX:CXT} {P:Program} {w:World} {K:Fg_} {mg:Str→Option Value} {base:Heap} {N ps:List Str} {qual:Str} {scope:Scope} {f:Addr} {cd:Value} {A:Around} {outer:List Env} {s s1:Shared} {H:Hp} {E:XK} {us:List Value} {vs:List V}
  (S:ba N ps scope) (hd:A.handled=none) (e0:rm P w K mg base A outer s H) (hl:vs.length=ps.length) (r:b8 vs us)
  (x:InCallC s s.heap.objs.size (bindL (envOfC qual scope s.heap.objs.size f cd).kindOf (ps.zip us) fun _=>none) (cellsFrom (s.heap.objs.size+1) scope.names []) (bindC (envOfC qual scope s.heap.objs.size f cd).kindOf (ps.zip us) fun _=>none) s1) :
  Inv (cD CX P w K mg base N qual scope f cd A outer s H E) [] (jA N vs) H s1:=by
 have hpl:ps.length≤N.length:=by have:=congrArg List.length S.pre;rw [aH] at this;omega
 obtain ⟨h1,tk,rfl,hk⟩:=x.done
 have noA:∀ b:Addr,b∉(cD CX P w K mg base N qual scope f cd A outer s H E).ex:=fun b z=>absurd (show b∈([]:List Addr) from z) (by simp)
 refine ⟨⟨e0.mod,S.kind,rfl,rfl,aK _,fun y z c h1 h2=>?_,fun y hy=>?_,fun y c _ h=>?_,fun _=>hd,Around.frames_deeper e0.frames,.inr ⟨rfl,rfl⟩,fun b z=>absurd z (noA b),e0.bs,e0.bsz,fun b _ _=>noA b,fun b z=>absurd z (noA b),e0.funs,e0.frf⟩,
  rfl,e0.bare,Un.kept hk,⟨_,x.toInCall.ns,fun i y v h1 h2 h3=>?_⟩,fun y c h=>⟨_,x.cell y c h⟩,e0.hok.fresh (aK _),fun y c h=>?_,fun p hp=>absurd (show p∈([]:List (Addr×Obj)) from hp) (by simp),e0.hok.kept hk,?_⟩
 ·exact name_of_addr x.apart (bp h1) (bp h2)
 ·have hy:scope.names.lookup y=some .cell∨scope.names.lookup y=some .free:=hy
  rcases hy with hy | hy
  ·exact qc hy
  ·exact absurd rfl (S.nofree _ (bp hy))
 ·exact Nat.le_of_lt (x.above y c (bp h))
 ·have hi:i<vs.length:=by
   unfold jA at h2;by_cases hi:i<vs.length
   ·exact hi
   ·rw [eE (by simpa using hi)] at h2
    rw [eX] at h2;split at h2<;>cases h2
  have ha:vs[i]? = some v:=by
   unfold jA at h2;rw [bz (by simpa using hi),bq] at h2
   cases e:vs[i]? with
   | none=>rw [e] at h2;cases h2
   | some a=>rw [e] at h2;cases h2;rfl
  obtain ⟨u,hu,rv⟩:=r.get ha
  have hp:ps[i]? = some y:=by
   rw [←S.pre,a6 (by omega)];exact h1
  have ndP:ps.Nodup:=by rw [←S.pre];exact S.nd.sublist (List.take_sublist _ _)
  refine ⟨u,rv,?_⟩
  rcases S.par y (cN hp) with k | k
  ·exact .inl ⟨k,n6 ndP hp hu k⟩
  ·obtain ⟨c,e⟩:=qc (n:=s.heap.objs.size+1) k
   refine .inr ⟨.inl k,c,e,?_⟩
   have q:=x.cell y c e
   rw [n9 ndP hp hu (by show scope.names.lookup y≠_;rw [k];decide)] at q
   exact q
 ·exact e0.hok.fresh (Nat.le_of_lt (x.above y c (bp h)))
 ·unfold jA;show _=N.length
  rw [aa,au,fw];omega
theorem wQ {CX:CXT} {P:Program} {w:World} {K:Fg_} {mg:Str→Option Value} {base:Heap} {k:Nat} {f:Addr} {name qual:Str} {params:Arguments} {body:List Stmt} {scope:Scope} {dV kV doc pm cdv ct oc:Value} {an od:Option Addr}
  {osl:Array (Option Value)} {N ps:List Str} {sp:Sp} (lk:K.lookup f=some ⟨oc,od,.func (PySem.W.fnOf name qual params body scope dV kV doc pm an cdv ct),osl⟩) (hcd:PySem.W.codeIn K cdv qual=true) (S:ba N ps scope)
  (len:∀ vs H Q E,sp vs H Q E→vs.length=ps.length)
  (hbody:∀ (A:Around) (outer:List Env) (s:Shared) (H:Hp) (vs:List V) (Q:VK) (E:XK),cq k (A.deeper (envOfC qual scope s.heap.objs.size f cdv))→sp vs H Q E →
   ∃ t,PSs (cD CX P w K mg base N qual scope f cdv A outer s H E) body t∧t { nx:=fun _ H'=>Q .non H',rt:=Q } (jA N vs) H) :
  bt P w K mg base CX (k+1) f (PySem.W.fnOf name qual params body scope dV kV doc pm an cdv ct) ps sp:=by
 refine ⟨len,fun A outer s H args us vs Q E hr e0 hb r hsp=>?_⟩
 have hl:=len _ _ _ _ hsp
 have KX:K.In s.heap:=e0.mod.kin.keeps fun b o e=>(e0.bs b o e).1
 have lim:s.heap.NoLimit:=e0.mod.nolimit.keeps fun b o e=>(e0.bs b o e).1
 have hkind:∀ y∈ps.zip us,scope.names.lookup y.1=some .local∨(scope.names.lookup y.1=some .cell∧((cellsFrom (s.heap.objs.size+1) scope.names []).lookup y.1).isSome=true):=fun ⟨n,v⟩ hy=>by
  rcases S.par n (List.of_mem_zip hy).1 with q | q
  ·exact .inl q
  ·exact .inr ⟨q,PySem.W.cellsFrom_some _ _ _ (.inl q)⟩
 refine codeAny_call_function hr.depth (KX _ _ lk) rfl S.co S.gen rfl (PySem.W.codeRec_of KX hcd) (hb _ _ _ _ ?_)
 refine wpAny_newFunctionEnv_cells S.kind hkind fun env he s1 x=>?_
 subst he;refine ⟨lim.keeps x.toInCall.keep,codeAny_func ?_⟩
 obtain ⟨t,ht,hq⟩:=hbody A outer s H vs Q E (hr.deeper _) hsp
 have I:Inv (cD CX P w K mg base N qual scope f cdv A outer s H E) [] (jA N vs) H s1:=tM S hr.hd e0 hl r x
 refine wpAny_mono (ht [] s1 (jA N vs) H _ I hq) (fun fl s' hs=>?_) fun e s' hs=>hs
 have fin:∀ {σ':St} {H':Hp} {v:V} {u:Value},Inv (cD CX P w K mg base N qual scope f cdv A outer s H E) [] σ' H' s'→cM v u→Q v H'→CE outer P w H s Q u s' :=
  fun {σ' H' v u} J rv q=>⟨v,H',J.os,J.bare,J.base,J.hok,rv,q⟩
 cases fl with
 | ret u =>
  obtain ⟨v,σ',H',J,rv,q⟩:=hs
  exact fin J rv q
 | next =>
  obtain ⟨σ',H',J,q⟩:=hs
  exact fin (v:=V.non) (u:=Value.none) J rfl q
 | brk =>
  obtain ⟨_,_,_,q⟩:=hs
  exact False.elim q
 | cont =>
  obtain ⟨_,_,_,q⟩:=hs
  exact False.elim q
section
variable {X:Cx} {x:Str} {p pos:Pos} {e:Expr} {es:List Expr} {t:TA} {id T:String} {r:List V→Hp→VK→Prop}
def tCB (r:List V→Hp→VK→Prop) (t:TA):TE:=fun σ H Q=>t σ H fun vs H1=>r vs H1 Q
theorem bM (hc:oe X (.builtin id) r) (hg:Gl X x) (hm:X.mg x=none) (hv:bootBuiltins x=some (.builtin id)) (ha:PA X (e::es) t) (hn:x≠"__name__":=by decide) (hdb:(x==("__debug__" : Str))=false:=by decide)
  (he:starEach (e::es) X.env=(false,eval e X.env)::starEach es X.env:=by rfl) (hpl:(backTo pos (starEach es X.env)).any (·.1)=false:=by rfl):PE X (.Call (.Name x p) (e::es) [] pos) (tCB r t):=by
 intro pins s σ H Q I h;refine wpAny_Call_Name_kw (jl I hg hm hv ?_ hn hdb)
 exact PyProof.Rows.callWith_builtin1 (thn (ha pos pins s σ H _ I h) fun us s1 ⟨vs,H1,I1,r1,q1⟩=>hc pins s1 σ H1 vs us Q I1 r1 q1) he hpl
end
end L2
namespace HT
open PySem PyProof.Rows
theorem p7 (A:Around) (s:Shared) (a:Int) (t:Tok) (c:Int) (u:Tok):∃ e,SeqAt.EqAt A s (.int a t) (.int c u) e∧(e=true↔a=c) :=
 ⟨(a==c),SeqAt.EqAt.int_int a t c u,by simp⟩
section
open PySem.SeqAt
open PySem.AutoSeq1 (wpAny_loadPart')
open PySem.MeetsSeq PySem.MeetsSeq2 PySem.MeetsSeq3
end
section
variable {prog:Program} {w:World} {A:Around} {E:Value→Shared→Prop} {s:Shared}
def sIx (n d:Nat):Option Int→Nat
 | none=>d
 | some v=>if v<0 then (v+(n:Int)).toNat else min v.toNat n
theorem sIx_none (n d:Nat):sIx n d none=d:=rfl
theorem sIx_nat (n d k:Nat):sIx n d (some (k:Int))=min k n:=by
 show (if (k:Int)<0 then ((k:Int)+(n:Int)).toNat else min (k:Int).toNat n)=min k n
 rw [if_neg (by omega),cW]
end
end HT
namespace L2
open PySem PySem.Spec PyProof.Rows
abbrev TO:=St→Hp→(Option Int→Hp→Prop)→Prop
def PO (X:Cx) (e:Option Expr) (t:TO):Prop :=
 ∀ (pins:List (Addr×Obj)) (s:Shared) (σ:St) (H:Hp) (Q:Option Int→Hp→Prop),Inv X pins σ H s→t σ H Q →
  wpAny (model X.prog X.w) X.A (evalPart e X.env) (fun u s'=>∃ o H',Inv X pins σ H' s'∧IsPart u o∧Q o H') X.xe s
def vn:TO:=fun _ H Q=>Q none H
def tPart (t:TE):TO:=fun σ H Q=>t σ H fun x H1=>∃ i,x = .int i∧Q (some i) H1
theorem iy {ns:List Int}:∀ {us:List Value},b8 (ns.map V.int) us→IntsAre us ns:=by
 induction ns with
 | nil=>intro us r;rw [List.map_nil] at r;cases r;exact .nil
 | cons n ns ih =>
  intro us r;rw [aY] at r;cases r with
  | cons r1 r2 =>
   obtain ⟨t,e⟩:=r1
   subst e;exact .cons n t (ih r2)
section
variable {X:Cx} {e:Expr} {te:TE} {lo hi:Option Expr} {tl th:TO} {pos p2:Pos}
theorem ow:PO X none vn:=by
 intro pins s σ H Q I h;rw [evalPart_none];exact wpAny_pure ⟨none,H,I,.none,h⟩
theorem eY (h:PE X e te):PO X (some e) (tPart te):=by
 intro pins s σ H Q I hw;rw [evalPart_some];refine thn (h pins s σ H _ I hw) fun u s1 ⟨x,H1,I1,r1,q1⟩=>?_
 obtain ⟨i,rfl,q⟩:=q1
 obtain ⟨t,rfl⟩:=r1
 exact ⟨some i,H1,I1,.int i t,q⟩
def SlR (X:Cx) (r:V→Option Int→Option Int→Hp→VK→Prop):Prop :=
 ∀ (pins:List (Addr×Obj)) (s:Shared) (σ:St) (H:Hp) (x:V) (v vl vu:Value) (lo hi:Option Int) (sl:Addr) (Q:VK),Inv X pins σ H s→cM x v→s.heap.IsSliceOf sl vl vu .none→IsPart vl lo→IsPart vu hi→r x lo hi H Q →
  ∃ T id,typeLookup (.type T) "__getitem__" = pure (some (.builtin id))∧s.TypeIs v T∧wpAny (model X.prog X.w) X.A (getItem v (.ref sl)) (EP X pins σ Q) X.xe s
def tSl (r:V→Option Int→Option Int→Hp→VK→Prop) (te:TE) (tl th:TO):TE:=fun σ H Q=>te σ H fun x H1=>tl σ H1 fun l H2=>th σ H2 fun u H3=>r x l u H3 Q
theorem gi {r:V→Option Int→Option Int→Hp→VK→Prop} (hr:SlR X r) (he:PE X e te) (hl:PO X lo tl) (hu:PO X hi th):PE X (.Subscript e (.Slice lo hi none p2) pos) (tSl r te tl th):=by
 intro pins s σ H Q I h;refine Subscript_ (thn (he pins s σ H _ I h) fun v s1 ⟨x,H1,I1,r1,q1⟩=>?_)
 refine wpAny_Slice (thn (hl pins s1 σ H1 _ I1 q1) fun vl s2 ⟨l,H2,I2,pl,q2⟩=>thn (hu pins s2 σ H2 _ I2 q2) fun vu s3 ⟨u,H3,I3,pu,q3⟩=>?_)
 rw [evalPart_none];refine wpAny_pure ?_
 have I4:Inv X pins σ H3 { s3 with heap:=s3.heap.push { cls:=.type "slice",data:=.fields #[vl,vu,.none] } }:=I3.kept (t':=s3.toks) fun b ob q=>Heap.get?_push_of_some _ q
 obtain ⟨T,id,hT,ht,hg⟩:=hr pins { s3 with heap:=s3.heap.push { cls:=.type "slice",data:=.fields #[vl,vu,.none] } } σ H3 x v vl vu l u s3.heap.objs.size Q I4 r1 (Heap.IsSliceOf.new ..) pl pu q3
 show wpAny (model X.prog X.w) X.A (subscriptTail e (.Slice lo hi none p2) v (.ref s3.heap.objs.size)) (EP X pins σ Q) X.xe { s3 with heap:=s3.heap.push { cls:=.type "slice",data:=.fields #[vl,vu,.none] } }
 exact tail_any (ops:=[.ref s3.heap.objs.size,v]) ht hT hg (by with_unfolding_all rfl)
def nq (xs:List V) (lo hi:Option Int):List V:=(xs.drop (HT.sIx xs.length 0 lo)).take (HT.sIx xs.length xs.length hi - HT.sIx xs.length 0 lo)
theorem qb (xs:List V) (lo hi:Option Int):(nq xs lo hi).length≤xs.length:=by
 unfold nq;rw [aH,ay];omega
end
def ixN (n:Nat) (i:Int):Option Nat:=if 0≤i then (if i<n then some i.toNat else none) else if -(n:Int)≤i then some (i+n).toNat else none
def atI {α:Type} (xs:List α) (i:Int):Option α:=(ixN xs.length i).bind fun j=>xs[j]?
theorem rX {n:Nat} {i:Int} {j:Nat} (h:ixN n i=some j):seqIndex? i n=some j∧j<n∧-(n:Int)≤i∧i<n:=by
 unfold ixN at h;by_cases h0:0≤i
 ·rw [if_pos h0] at h;by_cases h1:i<n
  ·rw [if_pos h1] at h;have e:i.toNat=j:=a8 h
   exact ⟨by rw [seqIndex_of h0 h1,e],by omega,by omega,h1⟩
  ·rw [if_neg h1] at h;cases h
 ·rw [if_neg h0] at h;by_cases h1:-(n:Int)≤i
  ·rw [if_pos h1] at h;have e:(i+n).toNat=j:=a8 h
   exact ⟨by rw [seqIndex_neg (by omega) h1,e],by omega,h1,by omega⟩
  ·rw [if_neg h1] at h;cases h
theorem wA {α:Type} {xs:List α} {i:Int} {v:α} (h:atI xs i=some v):∃ j,seqIndex? i xs.length=some j∧xs[j]? = some v∧j<xs.length∧-(xs.length:Int)≤i∧i<xs.length:=by
 unfold atI at h;cases e:ixN xs.length i with
 | none=>rw [e] at h;cases h
 | some j =>
  rw [e] at h;obtain ⟨h1,h2,h3,h4⟩:=rX e
  exact ⟨j,h1,h,h2,h3,h4⟩
theorem gI {α:Type} {xs:List α} {j:Nat} {v:α} (h:xs[j]? = some v):atI xs (j:Int)=some v:=by
 have hj:j<xs.length:=(aN.mp h).1
 have e:ixN xs.length (j:Int)=some j:=by
  unfold ixN;rw [if_pos (by omega),if_pos (by omega)];simp
 unfold atI;rw [e];exact h
theorem eC {α:Type} (xs:List α) (v:α):atI (xs++[v]) (-1)=some v:=by
 have hl:(xs++[v]).length=xs.length+1:=by simp
 have e:ixN (xs++[v]).length (-1)=some xs.length:=by
  unfold ixN;rw [hl,if_neg (by decide),if_pos (by omega)]
  congr 1
  omega
 unfold atI;rw [e];show (xs++[v])[xs.length]? = some v
 simp
def wG (b:Expr):Prop:=∀ o i,subscripted b false o i=operate [o,i] (getItem o i)
def IxR (X:Cx) (r:R2):Prop :=
 ∀ (value slice:Expr) (pins:List (Addr×Obj)) (s:Shared) (σ:St) (H:Hp) (x y:V) (v u:Value) (Q:VK),Inv X pins σ H s→cM x v→cM y u→r x y H Q →
  subscripted slice false v u=operate [v,u] (getItem v u)→wpAny (model X.prog X.w) X.A (subscriptTail value slice v u) (EP X pins σ Q) X.xe s
def MtR (X:Cx) (id:String) (r:V→List V→Hp→VK→Prop):Prop :=
 ∀ (pins:List (Addr×Obj)) (s:Shared) (σ:St) (H:Hp) (x:V) (xs:List V) (v:Value) (us:List Value) (Q:VK),Inv X pins σ H s→cM x v→b8 xs us→r x xs H Q →
  wpAny (model X.prog X.w) X.A (call (.builtin id) (v::us)) (EP X pins σ Q) X.xe s
section
variable {X:Cx} {a b:Expr} {ta tb:TE} {pos:Pos}
theorem dE {r:R2} (hr:IxR X r) (ha:PE X a ta) (hb:PE X b tb) (hs:wG b):PE X (.Subscript a b pos) (tOp r ta tb):=by
 intro pins s σ H Q I h;exact Subscript_ (yZ ha hb I h fun v u s2 x y H2 I2 rx ry q=>hr a b pins s2 σ H2 x y v u Q I2 rx ry q (hs _ _))
def rIxL (K:Fg_):R2:=fun x y H Q=>∃ p xs i v,x = .ref p∧y = .int i∧SqL K H p xs∧atI xs i=some v∧Q v H
theorem cg:IxR X (rIxL X.K):=by
 intro value slice pins s σ H x y v u Q I rx ry h hs;obtain ⟨p,xs,i,z,rfl,rfl,hq,he,q⟩:=h
 cases rx;obtain ⟨t,rfl⟩:=ry
 obtain ⟨its,r,pl,hz⟩:=I.list hq
 obtain ⟨j,h1,h2,h3,h4,h5⟩:=wA he
 obtain ⟨w,ew,rw'⟩:=r.get h2
 have hl:=r.length
 have hn:=oK
 have fin:EP X pins σ Q w s:=⟨z,H,I,rw',q⟩
 by_cases h0:0≤i
 ·have hj:i.toNat=j:=by
   rw [seqIndex_of h0 h5] at h1;exact a8 h1
  exact item_listR pl.isList h0 (by omega) (by rw [hj];simpa using ew) fin hs
 ·have hj:(i+(its.toArray.size:Int)).toNat=j:=by
   rw [seqIndex_neg (by omega) h4] at h1
   rw [aM,←hl];exact a8 h1
  exact subscriptTail_builtinR (x:=w) pl.isList.typeIs slot_list_getitem.lookup
   (wpAny_getItem_list_neg (Q:=fun r s'=>r=w∧EP X pins σ Q r s') pl.isList (by omega) (by rw [aM]<;>omega) (by omega) (by rw [hj];simpa using ew) ⟨rfl,fin⟩) hs
theorem qJ (its:List Value) (n j:Nat) (u:Value):Obj.mapSeq (·.setIfInBounds j u) { cls:=.type "list",data:=.seq its.toArray n }={ cls:=.type "list",data:=.seq (its.set j u).toArray n }:=by
 simp [Obj.mapSeq]
theorem Inv.lst {pins:List (Addr×Obj)} {σ:St} {H:Hp} {s:Shared} {p:Addr} {xs:List V} (I:Inv X pins σ H s) (h:H p=some (.lst xs)) :
  ∃ (its:List Value) (n:Nat),b8 xs its∧s.heap.get? p=some { cls:=.type "list",data:=.seq its.toArray n }∧xs.length≤sizeLine:=by
 obtain ⟨z,its,n,r,e⟩:=I.hok p _ h
 exact ⟨its,n,r,e,z⟩
theorem Inv.lstUpd {pins:List (Addr×Obj)} {σ:St} {H:Hp} {s:Shared} {p:Addr} {xs ys:List V} {its its':List Value} {n n':Nat} {f:Obj→Obj} (I:Inv X pins σ H s) (h:H p=some (.lst xs))
  (ho:s.heap.get? p=some { cls:=.type "list",data:=.seq its.toArray n }) (hf:f { cls:=.type "list",data:=.seq its.toArray n }={ cls:=.type "list",data:=.seq its'.toArray n' }) (r:b8 ys its') (hz:ys.length≤sizeLine) (t:Nat) :
  Inv X pins σ (upd H p (.lst ys)) { s with heap:=s.heap.update p f,toks:=t }:=by
 have e:(s.heap.update p f).get? p=some { cls:=.type "list",data:=.seq its'.toArray n' }:=by
  rw [Heap.get?_update_self f ho (by rw [hf]<;>rfl),hf]
 refine I.write (x:=p) (e:=p) (by rw [h];trivial) (.inl rfl) (fun b u hb q=>(Heap.get?_update_other _ _ (Ne.symm hb)).trans q) ⟨_,e⟩ ?_
 exact ⟨hz,its',n',r,e⟩
def wM:V→V→V→Hp→(Hp→Prop)→Prop:=fun o i v H Q=>∃ p xs k j,o = .ref p∧i = .int k∧H p=some (.lst xs)∧ixN xs.length k=some j∧Q (upd H p (.lst (xs.set j v)))
theorem uw:PSet X wM:=by
 intro pins s σ H o i v ov iv u Q I ro ri rv h;obtain ⟨p,xs,k,j,rfl,rfl,hp,hj,q⟩:=h
 cases ro;obtain ⟨t,rfl⟩:=ri
 obtain ⟨its,n,r,ho,hz⟩:=I.lst hp
 obtain ⟨h1,h2,h3,h4⟩:=rX hj
 have hl:=r.length
 have hn:=oK
 have I':Inv X pins σ (upd H p (.lst (xs.set j v))) { s with heap:=s.heap.update p (Obj.mapSeq (·.setIfInBounds j u)) } :=
  I.lstUpd hp ho (qJ its n j u) (r.set rv j) (by rw [List.length_set];exact hz) s.toks
 by_cases h0:0≤k
 ·have hk:k.toNat=j:=by
   rw [seqIndex_of h0 h4] at h1;exact a8 h1
  exact PySem.W.ki_setAt ho h0 (by omega) (by rw [aM,←hl];exact h4) (by rw [hk];exact ⟨_,I',q⟩)
 ·have hk:(k+(its.toArray.size:Int)).toNat=j:=by
   rw [seqIndex_neg (by omega) h3] at h1
   rw [aM,←hl];exact a8 h1
  exact PySem.W.ki_setBack ho (by omega) (by rw [aM,←hl];exact h3) (by omega) (by rw [hk];exact ⟨_,I',q⟩)
theorem om (lo hi:Option Int) (n:Nat):(sliceBounds lo hi none n).1=((HT.sIx n 0 lo:Nat):Int)∧(sliceBounds lo hi none n).2.1=((HT.sIx n n hi:Nat):Int)∧(sliceBounds lo hi none n).2.2=1:=by
 refine ⟨?_,?_,rfl⟩
 ·cases lo with
  | none=>simp [sliceBounds,HT.sIx]
  | some i =>
   simp only [sliceBounds,HT.sIx,Option.getD_none,show (1:Int)>0 by decide,if_true]
   by_cases h:i<0
   ·simp only [h,if_true]<;>omega
   ·simp only [h,if_false]<;>omega
 ·cases hi with
  | none=>simp [sliceBounds,HT.sIx]
  | some i =>
   simp only [sliceBounds,HT.sIx,Option.getD_none,show (1:Int)>0 by decide,if_true]
   by_cases h:i<0
   ·simp only [h,if_true]<;>omega
   ·simp only [h,if_false]<;>omega
theorem nj (its:List Value) (lo hi:Option Int):slicePick its.toArray lo hi none=((its.drop (HT.sIx its.length 0 lo)).take (HT.sIx its.length its.length hi - HT.sIx its.length 0 lo)).toArray:=by
 obtain ⟨h1,h2,h3⟩:=om lo hi its.toArray.size
 unfold slicePick;rw [h1,h2,h3];simp only [sliceRange_one,pick_run,aM]<;>rfl
def rSlL (K:Fg_):V→Option Int→Option Int→Hp→VK→Prop:=fun x lo hi H Q=>∃ a xs,x = .ref a∧SqL K H a xs∧∀ p,H p=none→Q (.ref p) (upd H p (.lst (nq xs lo hi)))
theorem ik:SlR X (rSlL X.K):=by
 intro pins s σ H x v vl vu lo hi sl Q I rx hs pl pu h;obtain ⟨a,xs,rfl,hx,q⟩:=h
 cases rx;obtain ⟨its,r,ht,hz⟩:=I.list hx
 have hlen:=r.length
 refine ⟨"list",_,slot_list_getitem.lookup,ht.isList.typeIs,?_⟩
 refine wpAny_getItem_list_slice ht.isList hs pl pu .none (by simp) ?_ (by rw [aM]<;>omega)
 rw [nj,←hlen];refine ⟨.ref s.heap.objs.size,_,I.laid (t':=s.toks) (o:=.lst (nq xs lo hi)) (fun b ob q=>Heap.get?_push_of_some _ q) (aK _) ?_,rfl,q _ (I.hok.fresh (aK _))⟩
 exact ⟨bF (qb xs lo hi) hz,_,0,(r.drop (HT.sIx xs.length 0 lo)).take (HT.sIx xs.length xs.length hi - HT.sIx xs.length 0 lo),Heap.get?_push_size _ rfl⟩
def lq:V→Bool
 | .non=>true
 | .bl _=>true
 | .int _=>true
 | .str _=>true
 | _=>false
def eqV:V→V→Bool
 | .non,.non=>true
 | .bl a,.bl b=>a==b
 | .bl a,.int b=>(if a then 1 else 0)==b
 | .int a,.bl b=>a==(if b then 1 else 0)
 | .int a,.int b=>a==b
 | .str a,.str b=>a==b
 | _,_=>false
theorem yW {A:Around} {s:Shared} {y x:V} {u v:Value} (ry:cM y u) (rx:cM x v) (fy:lq y=true) (fx:lq x=true):SeqAt.EqAt A s u v (eqV y x):=by
 cases y with
 | non =>
  cases ry;cases x with
  | non=>cases rx;exact SeqAt.EqAt.same _
  | bl b=>cases rx;exact SeqAt.EqAt.none_bool b
  | int b=>obtain ⟨t,rfl⟩:=rx;exact SeqAt.EqAt.none_int b t
  | str b=>obtain ⟨t,rfl⟩:=rx;exact SeqAt.EqAt.none_str b t
  | _=>exact absurd (show false=true from fx) aI
 | bl a =>
  cases ry;cases x with
  | non=>cases rx;exact SeqAt.EqAt.bool_none a
  | bl b=>cases rx;exact SeqAt.EqAt.bool_bool a b
  | int b=>obtain ⟨t,rfl⟩:=rx;exact SeqAt.EqAt.bool_int a b t
  | str b=>obtain ⟨t,rfl⟩:=rx;exact SeqAt.EqAt.bool_str a b t
  | _=>exact absurd (show false=true from fx) aI
 | int a =>
  obtain ⟨t',rfl⟩:=ry
  cases x with
  | non=>cases rx;exact SeqAt.EqAt.int_none a t'
  | bl b=>cases rx;exact SeqAt.EqAt.int_bool a t' b
  | int b=>obtain ⟨t,rfl⟩:=rx;exact SeqAt.EqAt.int_int a t' b t
  | str b=>obtain ⟨t,rfl⟩:=rx;exact SeqAt.EqAt.int_str a t' b t
  | _=>exact absurd (show false=true from fx) aI
 | str a =>
  obtain ⟨t',rfl⟩:=ry
  cases x with
  | non=>cases rx;exact SeqAt.EqAt.str_none a t'
  | bl b=>cases rx;exact SeqAt.EqAt.str_bool a t' b
  | int b=>obtain ⟨t,rfl⟩:=rx;exact SeqAt.EqAt.str_int a t' b t
  | str b=>obtain ⟨t,rfl⟩:=rx;exact SeqAt.EqAt.str_str a t' b t
  | _=>exact absurd (show false=true from fx) aI
 | _=>exact absurd (show false=true from fy) aI
def eqU (x:V) (u:Value):Bool:=match u with
 | .none=>eqV .non x
 | .bool b=>eqV (.bl b) x
 | .int i _=>eqV (.int i) x
 | .str z _=>eqV (.str z) x
 | _=>false
theorem uY {x y:V} {u:Value} (r:cM y u) (f:lq y=true):eqU x u=eqV y x:=by
 cases y with
 | non=>cases r;rfl
 | bl b=>cases r;rfl
 | int i=>obtain ⟨t,rfl⟩:=r;rfl
 | str z=>obtain ⟨t,rfl⟩:=r;rfl
 | _=>exact absurd (show false=true from f) aI
theorem oY {x:V}:∀ {xs:List V} {us:List Value},b8 xs us→xs.all lq=true→us.any (eqU x)=xs.any fun y=>eqV y x
 | _,_,.nil,_=>rfl
 | y::xs,u::us,.cons r t,f=>by
  rw [fM,aC] at f;rw [List.any_cons,List.any_cons,uY r f.1,oY t f.2]
theorem mC {A:Around} {s:Shared} {x:V} {v:Value} (rx:cM x v) (fx:lq x=true):∀ {xs:List V} {us:List Value},b8 xs us→xs.all lq=true→∀ u∈us,SeqAt.EqAt A s u v (eqU x u)
 | _,_,.nil,_=>fun u hu=>by cases hu
 | y::xs,u::us,.cons r t,f=>fun u' hu=>by
  rw [fM,aC] at f;rcases aB.mp hu with rfl | hu
  ·rw [uY r f.1];exact yW r rx f.1 fx
  ·exact mC rx fx t f.2 u' hu
def inV (x:V) (xs:List V):Bool:=xs.any fun y=>eqV y x
def rIn (K:Fg_) (neg:Bool):R2:=fun x y H Q=>∃ p xs,y = .ref p∧(SqL K H p xs∨SqT K H p xs)∧lq x=true∧xs.all lq=true∧Q (.bl (if neg then !inV x xs else inV x xs)) H
theorem gY:OpR X (compareOp .In) (rIn X.K false):=by
 intro pins s σ H x y v u Q I rx ry h;obtain ⟨p,xs,rfl,hq,fx,fs,q⟩:=h
 cases ry;rcases hq with hq | hq
 ·obtain ⟨its,r,pl,hz⟩:=I.list hq
  refine SeqAt.in_listAt (eqU x) pl.isList (fun w hw=>mC rx fx r fs w (by simpa using hw)) ⟨.bl _,H,I,rfl,?_⟩
  rw [show its.toArray.any (eqU x)=its.any (eqU x) by simp,oY r fs]
  exact q
 ·obtain ⟨its,r,pl,hz⟩:=I.tuple hq
  refine SeqAt.in_tupleAt (eqU x) pl (fun w hw=>mC rx fx r fs w (by simpa using hw)) ⟨.bl _,H,I,rfl,?_⟩
  rw [show its.toArray.any (eqU x)=its.any (eqU x) by simp,oY r fs]
  exact q
theorem oW:oe X (.builtin "len") (fun xs H Q=>∃ p ys,xs=[.ref p]∧(SqL X.K H p ys∨SqT X.K H p ys)∧Q (.int ys.length) H):=by
 intro pins s σ H xs us Q I r h;obtain ⟨p,ys,rfl,hq,q⟩:=h
 obtain ⟨u,rfl,rx⟩:=vals1 r
 cases rx;have hn:=oK
 rcases hq with hq | hq
 ·obtain ⟨its,r',pl,hz⟩:=I.list hq
  have hlen:=r'.length
  exact Calls.call_len_list pl.isList (by simp only [aM]<;>omega) ⟨.int ys.length,H,I.tok _,⟨s.toks+1,by rw [aM,hlen]⟩,q⟩
 ·obtain ⟨its,r',pl,hz⟩:=I.tuple hq
  have hlen:=r'.length
  exact len_tuple pl (by simp only [aM]<;>omega) ⟨.int ys.length,H,I.tok _,⟨s.toks+1,by rw [aM,hlen]⟩,q⟩
def tyV (K:Fg_) (T:String) (x:V) (H:Hp):Prop:=match x with
 | .str _=>T = "str"
 | .int _=>T = "int"
 | .ref p=>(T = "list"∧∃ xs,SqL K H p xs)∨(T = "tuple"∧∃ o,K.lookup p=some o∧o.cls = .type "tuple"∧o.dict=none) ∨
   (T = "dict"∧((∃ kvs,H p=some (.dK kvs))∨∃ kvs,H p=some (.dT kvs)))∨(T = "set"∧∃ S n,H p=some (.set S n))
 | _=>False
theorem ue {pins:List (Addr×Obj)} {σ:St} {H:Hp} {s:Shared} {T:String} {x:V} {v:Value} (I:Inv X pins σ H s) (r:cM x v) (ty:tyV X.K T x H) :
  s.TypeIs v T∧∀ a,v = .ref a→∃ ob,s.heap.get? a=some ob∧ob.dict=none:=by
 cases x with
 | str z =>
  obtain ⟨t,rfl⟩:=r
  cases (show T = "str" from ty)
  exact ⟨typeIs_str s z t,fun _ e=>nomatch e⟩
 | int i =>
  obtain ⟨t,rfl⟩:=r
  cases (show T = "int" from ty)
  exact ⟨typeIs_int s i t,fun _ e=>nomatch e⟩
 | ref p =>
  cases r;rcases ty with ⟨rfl,xs,hq⟩ | ⟨rfl,o,hk,hc,hd⟩ | ⟨rfl,hk⟩ | ⟨rfl,S,n,hk⟩
  ·obtain ⟨its,_,pl,_⟩:=I.list hq
   refine ⟨pl.isList.typeIs,fun a e=>?_⟩
   cases e;obtain ⟨o,n,e,c,hd,_⟩:=pl
   exact ⟨o,e,hd⟩
  ·refine ⟨⟨o,I.kIn p o hk,hc⟩,fun a e=>?_⟩
   cases e;exact ⟨o,I.kIn _ o hk,hd⟩
  ·have z:∃ o,s.heap.get? p=some o∧o.ExactDict:=by
    rcases hk with ⟨kvs,hk⟩ | ⟨kvs,hk⟩
    ·obtain ⟨_,_,_,_,o,_,_,e,ex,_⟩:=I.hok p _ hk
     exact ⟨o,e,ex⟩
    ·obtain ⟨_,_,_,_,o,_,_,e,ex,_⟩:=I.hok p _ hk
     exact ⟨o,e,ex⟩
   obtain ⟨o,e,ex⟩:=z
   refine ⟨⟨o,e,ex.1⟩,fun a e2=>?_⟩
   cases e2;exact ⟨o,e,ex.2.1⟩
  ·obtain ⟨o,_,_,_,e,ex,_⟩:=I.hok p _ hk
   refine ⟨⟨o,e,ex.1⟩,fun a e2=>?_⟩
   cases e2;exact ⟨o,e,ex.2.1⟩
 | _=>exact False.elim ty
def tBM0 (K:Fg_) (T:String) (r:V→List V→Hp→VK→Prop) (to:TE):TE:=fun σ H Q=>to σ H fun x H1=>tyV K T x H1∧r x [] H1 Q
def tBM (K:Fg_) (T:String) (r:V→List V→Hp→VK→Prop) (to:TE) (t:TA):TE:=fun σ H Q=>to σ H fun x H1=>tyV K T x H1∧t σ H1 fun xs H2=>r x xs H2 Q
variable {o e:Expr} {es:List Expr} {to:TE} {t:TA} {name:Str} {apos cpos:Pos} {T id:String} {r:V→List V→Hp→VK→Prop}
theorem oA (pa:PlainAttrs T) (slot:Slot T name id) (hty:typeOf (.builtin id)=pure (.type "method_descriptor")) (hm:MtR X id r) (ho:PE X o to)
  (hbase:attributeBase o name X.env (eval o X.env)=eval o X.env:=by rfl) (hline:(apos.endLine==cpos.line)=true:=by rfl):PE X (.Call (.Attribute o name apos) [] [] cpos) (tBM0 X.K T r to):=by
 intro pins s σ H Q I h;refine wpAny_Call_method0_late hbase hline (thn (ho pins s σ H _ I h) fun v s1 ⟨x,H1,I1,r1,ty,q1⟩=>?_)
 obtain ⟨h1,h2⟩:=ue I1 r1 ty
 exact ⟨T,id,pa,slot,hty,h1,h2,Calls.callWith_builtin rfl (PySem.evalArgs_none (hm pins s1 σ H1 x [] v [] Q I1 r1 .nil q1))⟩
theorem gX (pa:PlainAttrs T) (slot:Slot T name id) (hty:typeOf (.builtin id)=pure (.type "method_descriptor")) (hm:MtR X id r) (ho:PE X o to) (ha:PA X (e::es) t)
  (hbase:attributeBase o name X.env (eval o X.env)=eval o X.env:=by rfl)
  (hfew:((backTo cpos (starEach (e::es) X.env)).all (fun x=>!x.1)&&(backToKw cpos (keywordEach [] X.env)).all (fun x=>x.1.isSome)
   && decide ((e::es).length+([]:List Keyword).length+(if ([]:List Keyword).isEmpty then 0 else 1)<30))=true:=by rfl)
  (hline:(apos.endLine==cpos.line)=true:=by rfl) (hs:starEach (e::es) X.env=(false,eval e X.env)::starEach es X.env:=by rfl) (hplain:(backTo cpos (starEach es X.env)).any (·.1)=false:=by rfl) :
  PE X (.Call (.Attribute o name apos) (e::es) [] cpos) (tBM X.K T r to t):=by
 intro pins s σ H Q I h;refine wpAny_Call_method_late hbase hfew hline rfl (thn (ho pins s σ H _ I h) fun v s1 ⟨x,H1,I1,r1,ty,q1⟩=>?_)
 obtain ⟨h1,h2⟩:=ue I1 r1 ty
 refine ⟨T,id,pa,slot,hty,h1,h2,?_⟩
 have hA:=ha cpos pins s1 σ H1 _ I1 q1
 rw [hs] at hA ⊢;refine Calls.callWith_builtin (by show (false||(backTo cpos (starEach es X.env)).any (·.1))=false;rw [hplain]<;>rfl) (Calls.evalArgs_plain ?_)
 exact thn hA fun us s2 ⟨vs,H2,I2,r2,q2⟩=>hm pins s2 σ H2 x vs v us Q I2 r1 r2 q2
end
def MtM (X:Cx) (id:String) (r:V→List V→Hp→VK→Prop):Prop :=
 ∀ (pins:List (Addr×Obj)) (s:Shared) (σ:St) (H:Hp) (x:V) (xs:List V) (v:Value) (us:List Value) (Q:VK),Inv X pins σ H s→cM x v→b8 xs us→r x xs H Q →
  wpAny (model X.prog X.w) X.A (call (.builtin id) (v::us)) (EP X pins σ Q) X.xe s
theorem b8.one:∀ {x:V} {us:List Value},b8 [x] us→∃ u,us=[u]∧cM x u
 | _,_,.cons r .nil=>⟨_,rfl,r⟩
theorem b8.zero:∀ {us:List Value},b8 [] us→us=[]
 | _,.nil=>rfl
theorem b8.dropLast {xs:List V} {us:List Value} (h:b8 xs us):b8 xs.dropLast us.dropLast:=by
 induction h with
 | nil=>exact .nil
 | cons r t ih =>
  cases t with
  | nil=>exact .nil
  | cons q t'=>exact .cons r ih
theorem b8.eraseIdx:∀ {xs:List V} {us:List Value} (i:Nat),b8 xs us→b8 (xs.eraseIdx i) (us.eraseIdx i)
 | _,_,_,.nil=>.nil
 | _,_,0,.cons _ t=>t
 | _,_,i+1,.cons r t=>.cons r (b8.eraseIdx i t)
theorem b8.reverse {xs:List V} {us:List Value} (h:b8 xs us):b8 xs.reverse us.reverse:=by
 induction h with
 | nil=>exact .nil
 | cons r t ih=>rw [dM,dM];exact b8.append ih (.cons r .nil)
theorem qV {α:Type} (l:List α):l.eraseIdx (l.length - 1)=l.dropLast:=by
 induction l with
 | nil=>rfl
 | cons a r ih =>
  cases r with
  | nil=>rfl
  | cons b r =>
   have e:(a::b::r).length - 1=((b::r).length - 1)+1:=by
    have h1:(a::b::r).length=r.length+2:=rfl
    have h2:(b::r).length=r.length+1:=rfl
    omega
   rw [e,List.eraseIdx_cons_succ,ih];all_goals rfl
theorem nU {α:Type}:∀ (l:List α) (i:Nat),(l.eraseIdx i).length≤l.length
 | [],_=>aK _
 | _::_,0=>Nat.le_succ _
 | _::r,i+1=>Nat.succ_le_succ (nU r i)
section
variable {X:Cx} {pins:List (Addr×Obj)} {σ:St} {H:Hp} {s:Shared} {l b:Addr} {xs ys zs:List V}
theorem Inv.lset {its its':List Value} {n:Nat} {f:Array Value→Array Value} {t':Nat} (I:Inv X pins σ H s) (hH:H l=some (.lst xs))
  (e:s.heap.get? l=some { cls:=.type "list",data:=.seq its.toArray n }) (hf:f its.toArray=its'.toArray) (hv:b8 ys its') (hz:ys.length≤sizeLine) :
  Inv X pins σ (upd H l (.lst ys)) { s with heap:=s.heap.update l (Obj.mapSeq f),toks:=t' }:=by
 have q:=PySem.IsL.update e f
 rw [hf] at q;refine I.write (x:=l) (e:=l) (by rw [hH];exact trivial) (.inl rfl) (fun b' u hb hu=>(Heap.get?_update_other s.heap (Obj.mapSeq f) (Ne.symm hb)).trans hu) ⟨_,q⟩ ?_
 exact ⟨hz,its',_,hv,q⟩
theorem Inv.lnew {its:List Value} {t':Nat} (I:Inv X pins σ H s) (hv:b8 ys its) (hz:ys.length≤sizeLine) :
  Inv X pins σ (upd H s.heap.objs.size (.lst ys)) { s with heap:=s.heap.push { cls:=.type "list",data:=.seq its.toArray },toks:=t' } :=
 I.laid (fun _ _ q=>Heap.get?_push_of_some _ q) (aK _) ⟨hz,its,0,hv,Heap.get?_push_size _ rfl⟩
theorem Inv.fresh (I:Inv X pins σ H s):H s.heap.objs.size=none:=I.hok.fresh (aK _)
theorem Inv.lstM (I:Inv X pins σ H s) (hH:H l=some (.lst xs)):xs.length≤sizeLine∧∃ (its:List Value) (n:Nat),b8 xs its∧xs.length=its.length∧s.heap.get? l=some { cls:=.type "list",data:=.seq its.toArray n }:=by
 obtain ⟨z,its,n,r,e⟩:=I.hok l _ hH
 exact ⟨z,its,n,r,r.length,e⟩
theorem uK {n:Nat} (h:n≤sizeLine):Builtin.List.listTooLong n=false:=by
 unfold Builtin.List.listTooLong;exact af (by omega)
end
section
variable {X:Cx}
def vQ:V→List V→Hp→VK→Prop:=fun x vs H Q=>∃ l xs y,x = .ref l∧vs=[y]∧H l=some (.lst xs)∧xs.length<sizeLine∧Q .non (upd H l (.lst (xs++[y])))
theorem gZ:MtM X "list.append" vQ:=by
 intro pins s σ H x vs v us Q I rx rv h;obtain ⟨l,xs,y,rfl,rfl,hH,hz,q⟩:=h
 cases rx;obtain ⟨u,rfl,ru⟩:=rv.one
 obtain ⟨z,its,n,r,hl,e⟩:=I.lstM hH
 refine call_meets F.slot_list_append ⟨_,e,rfl⟩ F.entry_list_append (F.args_list_append_2 _ _) (PySem.list_append l its.toArray n u (by rw [aM];omega)) ⟨e,?_⟩
 refine ⟨.non,_,I.lset (its':=its++[u]) hH e (by simp) (r.append (.cons ru .nil)) ?_,rfl,q⟩
 rw [aa,aP];omega
def vP:V→List V→Hp→VK→Prop:=fun x vs H Q=>∃ l b xs zs,x = .ref l∧vs=[.ref b]∧H l=some (.lst xs)∧H b=some (.lst zs)∧xs.length+zs.length≤sizeLine∧Q .non (upd H l (.lst (xs++zs)))
theorem gc:MtM X "list.extend" vP:=by
 intro pins s σ H x vs v us Q I rx rv h;obtain ⟨l,b,xs,zs,rfl,rfl,hH,hB,hz,q⟩:=h
 cases rx;obtain ⟨u,rfl,ru⟩:=rv.one
 cases ru;obtain ⟨z,its,n,r,hl,e⟩:=I.lstM hH
 obtain ⟨z2,its2,n2,r2,hl2,e2⟩:=I.lstM hB
 have hsz:its.toArray.size+its2.toArray.size≤sizeLine:=by rw [aM,aM];omega
 have hlong:¬(!its.toArray.isEmpty&&Builtin.List.listTooLong (its.toArray.size+its2.toArray.size))=true:=by
  rw [uK hsz,gA];exact aI
 refine call_meets F.slot_list_extend ⟨_,e,rfl⟩ F.entry_list_extend (F.args_list_extend_2 _ _)
  (AutoSeq1.list_extend_list_list_0 l its.toArray n b its2.toArray n2 hlong (by rw [aM];omega) (by omega)) ⟨e,e2,?_⟩
 refine ⟨.non,_,I.lset (its':=its++its2) hH e (by simp) (r.append r2) ?_,rfl,q⟩
 rw [aa];omega
def rPop:V→List V→Hp→VK→Prop:=fun x vs H Q=>∃ l xs y,x = .ref l∧vs=[]∧H l=some (.lst xs)∧xs[xs.length - 1]? = some y∧Q y (upd H l (.lst xs.dropLast))
theorem oG:MtM X "list.pop" rPop:=by
 intro pins s σ H x vs v us Q I rx rv h;obtain ⟨l,xs,y,rfl,rfl,hH,hy,q⟩:=h
 cases rx;have hus:=rv.zero
 subst hus;obtain ⟨z,its,n,r,hl,e⟩:=I.lstM hH
 obtain ⟨u,hu,ru⟩:=r.get hy
 have hy':its.toArray[its.toArray.size - 1]? = some u:=by
  show its.toArray[its.length - 1]? = some u
  rw [←cv,←hl];exact hu
 refine call_meets F.slot_list_pop ⟨_,e,rfl⟩ F.entry_list_pop (F.args_list_pop_1 _) (MeetsSeq.list_pop_last l its.toArray n u hy' (by rw [aM];omega)) ⟨e,?_⟩
 refine ⟨y,_,I.lset (its':=its.dropLast) hH e ?_ r.dropLast ?_,ru,q⟩
 ·show its.toArray.eraseIdxIfInBounds (its.toArray.size - 1)=its.dropLast.toArray
  rw [aM,fv,qV]
 ·rw [List.length_dropLast];omega
def yA:V→List V→Hp→VK→Prop:=fun x vs H Q=>∃ l xs i k y,x = .ref l∧vs=[.int i]∧H l=some (.lst xs)∧-(2 ^ 63)≤i∧i<2 ^ 63∧seqIndex? i xs.length=some k∧xs[k]? = some y∧Q y (upd H l (.lst (xs.eraseIdx k)))
theorem uM:MtM X "list.pop" yA:=by
 intro pins s σ H x vs v us Q I rx rv h;obtain ⟨l,xs,i,k,y,rfl,rfl,hH,h1,h2,hk,hy,q⟩:=h
 cases rx;obtain ⟨u,rfl,ru⟩:=rv.one
 obtain ⟨t,rfl⟩:=ru
 obtain ⟨z,its,n,r,hl,e⟩:=I.lstM hH
 obtain ⟨w,hw,rw'⟩:=r.get hy
 refine call_meets F.slot_list_pop ⟨_,e,rfl⟩ F.entry_list_pop (F.args_list_pop_2 _ _)
  (MeetsSeq.list_pop_at l its.toArray n i t k w (fitsIndex_both h1 h2) (by rw [aM,←hl];exact hk) (by rw [←cv];exact hw) (by rw [aM];omega)) ⟨e,?_⟩
 refine ⟨y,_,I.lset (its':=its.eraseIdx k) hH e ?_ (r.eraseIdx k) ?_,rw',q⟩
 ·show its.toArray.eraseIdxIfInBounds k=(its.eraseIdx k).toArray
  rw [fv]
 ·have:=nU xs k
  omega
def rCat:R2:=fun x y H Q=>∃ l b xs zs,x = .ref l∧y = .ref b∧H l=some (.lst xs)∧H b=some (.lst zs)∧xs.length+zs.length≤sizeLine∧∀ p,H p=none→Q (.ref p) (upd H p (.lst (xs++zs)))
theorem yL:OpR X (binaryOp .Add) rCat:=by
 intro pins s σ H x y v u Q I rx ry h;obtain ⟨l,b,xs,zs,rfl,rfl,hH,hB,hz,q⟩:=h
 cases rx;cases ry;obtain ⟨z,its,n,r,hl,e⟩:=I.lstM hH
 obtain ⟨z2,its2,n2,r2,hl2,e2⟩:=I.lstM hB
 refine PySem.P.add_list e e2 ?_ (by rw [aM,aM];omega)
 have ea:its.toArray++its2.toArray=(its++its2).toArray:=by simp
 rw [ea];exact ⟨.ref _,_,I.lnew (t':=s.toks) (r.append r2) (by rw [aa];omega),rfl,q _ I.fresh⟩
end
section
variable {prog:Program} {w:World} {A:Around} {E:Value→Shared→Prop} {s:Shared}
end
section
variable {X:Cx}
end
end L2
namespace Att
open PySem PySem.W PySem.Calls PyProof.Rows
section
variable {prog:Program} {w:World} {A:Around} {E:Value→Shared→Prop} {s:Shared} {K:Frag}
end
end Att
namespace L2
open PySem PySem.Spec PyProof.Rows
def eH (s:Stmt) (j:Nat):Stmt:=match s with
 | .ClassDef _ _ _ body _ _ _ _ _ _ _=>body.getD j (.Pass ⟨0,0,0,0⟩)
 | _=>.Pass ⟨0,0,0,0⟩
def ja (s:Stmt):Arguments:=match s with
 | .FunctionDef _ a _ _ _ _ _ _ _ _=>a
 | _=>{ posonlyargs:=[],args:=[],vararg:=none,kwonlyargs:=[],kw_defaults:=[],kwarg:=none,defaults:=[] }
def gG (s:Stmt):List Stmt:=match s with
 | .FunctionDef _ _ b _ _ _ _ _ _ _=>b
 | _=>[]
def aQ (s:Stmt):Scope:=match s with
 | .FunctionDef _ _ _ _ _ _ sc _ _ _=>sc
 | _=>{ kind:=.function,names:=[],isGenerator:=false,isCoroutine:=false }
abbrev CX0:CXT:=fun _ _ _ _ _ _=>False
abbrev E0:XK:=fun _ _ _=>False
theorem cx {X:Cx}:fS CX0 X E0:=fun _ _ _ _ _ _ _ h=>h.elim
structure Fun (K:Fg_) (x qual:Str) (st:Stmt) (f:Addr) (fd:FuncData):Prop where
 ex:∃ (oc:Value) (od:Option Addr) (kV doc pm:Value) (an:Option Addr) (cdv ct:Value) (osl:Array (Option Value)),
  fd=PySem.W.fnOf x qual (ja st) (gG st) (aQ st) .none kV doc pm an cdv ct∧K.lookup f=some ⟨oc,od,.func fd,osl⟩∧PySem.W.codeIn K cdv qual=true
 kp:PySem.W.keepIn K (.ref f)=true
section
variable {P:Program} {w:World} {K:Fg_} {mg:Str→Option Value} {base:Heap}
theorem Fun.ok {x qual:Str} {st:Stmt} {f:Addr} {fd:FuncData} {N ps:List Str} {k:Nat} {sp:Sp} (F:Fun K x qual st f fd) (S:ba N ps (aQ st)) (len:∀ vs H Q E,sp vs H Q E→vs.length=ps.length)
  (hbody:∀ (cdv:Value) (A:Around) (outer:List Env) (s:Shared) (H:Hp) (vs:List V) (Q:VK) (E:XK),cq k (A.deeper (envOfC qual (aQ st) s.heap.objs.size f cdv))→sp vs H Q E →
   ∃ t,PSs (cD CX0 P w K mg base N qual (aQ st) f cdv A outer s H E).nox (gG st) t∧t { nx:=fun _ H'=>Q .non H',rt:=Q } (jA N vs) H):bt P w K mg base CX0 (k+1) f fd ps sp:=by
 obtain ⟨oc,od,kV,doc,pm,an,cdv,ct,osl,rfl,lk,hcd⟩:=F.ex
 refine wQ lk hcd S len fun A outer s H vs Q E hr hsp=>?_
 obtain ⟨t,h,q⟩:=hbody cdv A outer s H vs Q E hr hsp
 exact ⟨t,h.nox,q⟩
theorem Fun.binds {x qual:Str} {st:Stmt} {f:Addr} {fd:FuncData} {ps:List Str} (F:Fun K x qual st f fd)
  (h:∀ (kV doc pm:Value) (an:Option Addr) (cdv ct:Value) (us:List Value),us.length=ps.length→bindArgs (PySem.W.fnOf x qual (ja st) (gG st) (aQ st) .none kV doc pm an cdv ct) ⟨us,[]⟩=pure (ps.zip us)):cB K fd ps []:=by
 obtain ⟨oc,od,kV,doc,pm,an,cdv,ct,osl,rfl,lk,hcd⟩:=F.ex
 exact .all (h kV doc pm an cdv ct)
theorem bx {x qual:Str} {st:Stmt} {f:Addr} {oc:Value} {od an:Option Addr} {osl:Array (Option Value)} {kV doc pm cdv ct:Value} (l:K.lookup f=some ⟨oc,od,.func (PySem.W.fnOf x qual (ja st) (gG st) (aQ st) .none kV doc pm an cdv ct),osl⟩)
  (c:PySem.W.codeIn K cdv qual=true) (k:PySem.W.keepIn K (.ref f)=true):Fun K x qual st f (PySem.W.fnOf x qual (ja st) (gG st) (aQ st) .none kV doc pm an cdv ct):=⟨⟨oc,od,kV,doc,pm,an,cdv,ct,osl,rfl,l,c⟩,k⟩
end
section
variable {X:Cx}
theorem pv (i:Nat) {x:Str} {pos:Pos} (hN:X.N[i]? = some x:=by rfl) (hv:Vis X.env.scope x:=by first | exact Or.inl rfl | exact Or.inr (.inl rfl) | exact Or.inr (Or.inr rfl)) (hd:(x==("__debug__" : Str))=false:=by decide)
  (hcd:(x==("__classdict__" : Str))=false:=by decide):PE X (.Name x pos) (qw i):=yG hN hv hd hcd
end
theorem cA {A B:Prop} (h:B):if false=true then A else B:=by
 rw [if_neg aI];exact h
theorem cK {A B:Prop} (h:A):if true=true then A else B:=by
 rw [if_pos rfl];exact h
theorem jm {c A B:Prop} [Decidable c] (h1:c→A) (h2:¬c→B):if c then A else B:=by
 by_cases h:c
 ·rw [if_pos h];exact h1 h
 ·rw [if_neg h];exact h2 h
def bH (H H':Hp):Prop:=∀ b o,H b=some o→H' b=some o
theorem bH.trans {H H1 H2:Hp} (a:bH H H1) (b:bH H1 H2):bH H H2:=fun c o h=>b c o (a c o h)
theorem bH.free {H H':Hp} (e:bH H H') {l:Addr} (h:H' l=Option.none):H l=Option.none:=by
 cases q:H l with
 | none=>rfl
 | some o =>
  rw [e l o q] at h;cases h
theorem bH.seq {K:Fg_} {H H':Hp} {a:Addr} {xs:List V} (e:bH H H') (h:SqL K H a xs):SqL K H' a xs:=by
 rcases h with (h | ⟨o,h⟩) | h
 ·exact .inl (.inl (e _ _ h))
 ·exact .inl (.inr ⟨o,e _ _ h⟩)
 ·exact .inr h
theorem vc {xs:List V} {z:Int} {j:Nat} {v:V} (e:z=(j:Int)) (h:xs[j]? = some v):atI xs z=some v:=by
 rw [e];exact gI h
theorem bH.made {H H1:Hp} {x dx C:Addr} (nx:H x=Option.none) (nd:H dx=Option.none) (k:∀ b o,(upd (upd H dx (.own x)) x (.ins C dx [])) b=some o→b≠x→H1 b=some o):bH H H1:=fun b o e =>
 k b o (by rw [ai (ah e nx),ai (ah e nd)];exact e) (ah e nx)
open PySem.W (WData Codec OpenSpec Well WellAll ReadsW ReadsAllW)
mutual
inductive Dw (K:Fg_) (H:Hp):V→WData→Prop
 | non:Dw K H .non .none
 | bl (b:Bool):Dw K H (.bl b) (.bool b)
 | int (i:Int):Dw K H (.int i) (.int i)
 | str (x:Str):Dw K H (.str x) (.str x)
 | byt (b:Array UInt8):Dw K H (.byt b) (.bytes b.toList)
 | lst {a:Addr} {xs:List V} {ds:List WData}:SqL K H a xs→iI K H xs ds→Dw K H (.ref a) (.list ds)
 | tup {a:Addr} {xs:List V} {ds:List WData}:SqT K H a xs→iI K H xs ds→Dw K H (.ref a) (.tuple ds)
inductive iI (K:Fg_) (H:Hp):List V→List WData→Prop
 | nil:iI K H [] []
 | cons {v:V} {vs:List V} {d:WData} {ds:List WData}:Dw K H v d→iI K H vs ds→iI K H (v::vs) (d::ds)
end
theorem wu {K:Fg_} {H:Hp}:∀ ns:List Int,iI K H (ns.map V.int) (ns.map WData.int)
 | []=>.nil
 | n::r=>.cons (.int n) (wu r)
theorem wj {K:Fg_} {H:Hp}:∀ (ns:List Int) (xs:List V),iI K H xs (ns.map WData.int)→xs=ns.map V.int
 | [],xs,h=>by
  cases h;rfl
 | n::r,xs,h=>by
  cases h with
  | cons h1 h2 =>
   cases h1;rw [wj r _ h2]<;>rfl
section
variable {P:Program} {w:World} {K:Fg_} {H:Hp} {h:Heap} {R:PySem.W.WRecords} {cl:Str→Option Addr}
theorem xt {a:Addr} {xs:List V} (hok:HOk P w H h) (KX:K.In h) (q:SqL K H a xs):∃ (its:List Value) (o:Obj) (n:Nat),b8 xs its∧h.get? a=some o∧o.cls = .type "list"∧o.data = .seq its.toArray n:=by
 rcases q with q | ⟨o,its,n,e,hc,_,hd,_,hv⟩
 ·obtain ⟨_,its,n,hv,e⟩:=(show dZ P w H h a (.lst xs) from q.ok hok)
  exact ⟨its,_,n,hv,e,rfl,rfl⟩
 ·exact ⟨its.toList,o,n,hv,KX _ _ e,hc,by simp [hd]⟩
theorem xq {a:Addr} {xs:List V} (hok:HOk P w H h) (KX:K.In h) (q:SqT K H a xs):∃ (its:List Value) (o:Obj) (n:Nat),b8 xs its∧h.get? a=some o∧o.cls = .type "tuple"∧o.data = .seq its.toArray n:=by
 rcases q with q | ⟨o,its,n,e,hc,hd,_,hv⟩
 ·obtain ⟨_,its,hv,o,e,hc,n,hd⟩:=(show dZ P w H h a (.tup xs) from q.ok hok)
  exact ⟨its,o,n,hv,e,hc,hd⟩
 ·exact ⟨its.toList,o,n,hv,KX _ _ e,hc,by simp [hd]⟩
mutual
theorem Dw.reads (hok:HOk P w H h) (KX:K.In h):∀ (d:WData) (v:V) (u:Value),Dw K H v d→cM v u→∃ as,ReadsW R cl h u d as
 | .none,_,_,x,r=>by
  cases x;cases r;exact ⟨_,ReadsW.none⟩
 | .bool b,_,_,x,r=>by
  cases x;cases r;exact ⟨_,ReadsW.bool b⟩
 | .int i,_,_,x,r=>by
  cases x;obtain ⟨t,rfl⟩:=r
  exact ⟨_,ReadsW.int i t⟩
 | .str s,_,_,x,r=>by
  cases x;obtain ⟨t,rfl⟩:=r
  exact ⟨_,ReadsW.str s t⟩
 | .bytes b,_,_,x,r=>by
  cases x;obtain ⟨t,rfl⟩:=r
  exact ⟨_,ReadsW.bytes _ t⟩
 | .list ds,_,_,x,r=>by
  cases x with
  | lst hs ha =>
   cases r;obtain ⟨its,o,n,rv,ho,hc,hd⟩:=xt hok KX hs
   obtain ⟨as,hr⟩:=Dw.readsAll hok KX ds _ its ha rv
   exact ⟨_,ReadsW.list ho hc hd hr⟩
 | .tuple ds,_,_,x,r=>by
  cases x with
  | tup hs ha =>
   cases r;obtain ⟨its,o,n,rv,ho,hc,hd⟩:=xq hok KX hs
   obtain ⟨as,hr⟩:=Dw.readsAll hok KX ds _ its ha rv
   exact ⟨_,ReadsW.tuple ho hc hd hr⟩
 | .float _,_,_,x,_=>by cases x
 | .dict _,_,_,x,_=>by cases x
 | .bytearray _,_,_,x,_=>by cases x
 | .set _,_,_,x,_=>by cases x
 | .frozenset _,_,_,x,_=>by cases x
 | .obj _ _,_,_,x,_=>by cases x
theorem Dw.readsAll (hok:HOk P w H h) (KX:K.In h):∀ (ds:List WData) (vs:List V) (us:List Value),iI K H vs ds→b8 vs us→∃ as,ReadsAllW R cl h us ds as
 | [],_,_,x,r=>by
  cases x;cases r;exact ⟨_,ReadsAllW.nil⟩
 | d::ds,_,_,x,r=>by
  cases x with
  | cons h1 h2 =>
   cases r with
   | cons r1 r2 =>
    obtain ⟨as,q1⟩:=Dw.reads hok KX d _ _ h1 r1
    obtain ⟨bs,q2⟩:=Dw.readsAll hok KX ds _ _ h2 r2
    exact ⟨_,ReadsAllW.cons q1 q2⟩
end
end
mutual
def plW:WData→Bool
 | .none=>true
 | .bool _=>true
 | .int _=>true
 | .str _=>true
 | .bytes _=>true
 | .list xs=>lA xs
 | .tuple xs=>lA xs
 | _=>false
def lA:List WData→Bool
 | []=>true
 | x::r=>plW x&&lA r
end
theorem pO {α:Type} {f:α→WData} (h:∀ a,plW (f a)=true):∀ l:List α,lA (l.map f)=true
 | []=>rfl
 | x::r=>by
  show (plW (f x)&&lA (r.map f))=true
  rw [h x,pO h r]<;>rfl
theorem iM:∀ (c:Codec) (a:c.denote),plW (c.enc a)=true
 | .unit,_=>rfl
 | .bool,_=>rfl
 | .int _ _,_=>rfl
 | .nat _ _,_=>rfl
 | .u8,_=>rfl
 | .bytes _ _,_=>rfl
 | .text _ _ _ _,_=>rfl
 | .list _ _ c,a=>pO (fun x=>iM c x) a
 | .pair c d,a=>by
  show (plW (c.enc a.1)&&(plW (d.enc a.2)&&true))=true
  rw [iM c a.1,iM d a.2]<;>rfl
 | .triple c d e,a=>by
  show (plW (c.enc a.1)&&(plW (d.enc a.2.1)&&(plW (e.enc a.2.2)&&true)))=true
  rw [iM c a.1,iM d a.2.1,iM e a.2.2]<;>rfl
 | .option c,none=>rfl
 | .option c,some x=>iM c x
theorem nL:∀ (cs:List Codec) (a:Codec.denoteAll cs),lA (Codec.encAll cs a)=true
 | [],_=>rfl
 | c::cs,a=>by
  show (plW (c.enc a.1)&&lA (Codec.encAll cs a.2))=true
  rw [iM c a.1,nL cs a.2]<;>rfl
theorem jf:∀ {xs:List WData} {d:WData},d∈xs→d.weight≤WData.weightAll xs
 | [],d,h=>absurd h (by simp)
 | x::r,d,h=>by
  show d.weight≤x.weight+1+WData.weightAll r
  rcases aB.mp h with e | m
  ·rw [e];omega
  ·have z:=jf m
   omega
def toV:Value→V
 | .none=>.non
 | .bool b=>.bl b
 | .int i _=>.int i
 | .str x _=>.str x
 | .bytes b _=>.byt b
 | .ref a=>.ref a
 | _=>.non
def OkU (A:List Addr):Value→Prop
 | .none=>True
 | .bool _=>True
 | .int _ _=>True
 | .str _ _=>True
 | .bytes _ _=>True
 | .ref a=>a∈A
 | _=>False
theorem OkU.mono {A B:List Addr} (h:∀ a∈A,a∈B):∀ {u:Value},OkU A u→OkU B u:=fun {u} x=>by
 cases u with
 | ref a=>exact h a x
 | none=>trivial
 | bool b=>trivial
 | int i t=>trivial
 | str s t=>trivial
 | bytes b t=>trivial
 | _=>exact False.elim x
theorem uD {A:List Addr} {u:Value} (x:OkU A u):cM (toV u) u:=by
 cases u with
 | ref a=>rfl
 | none=>rfl
 | bool b=>rfl
 | int i t=>exact ⟨t,rfl⟩
 | str s t=>exact ⟨t,rfl⟩
 | bytes b t=>exact ⟨t,rfl⟩
 | _=>exact False.elim x
theorem gS {A:List Addr}:∀ {vs:List Value},(∀ u∈vs,OkU A u)→b8 (vs.map toV) vs
 | [],_=>.nil
 | u::r,h=>.cons (uD (h u (aR ..))) (gS fun x hx=>h x (ax _ hx))
def iJ (h:Heap) (A:List Addr) (a:Addr):Prop:=∃ vs:List Value,vs.length≤sizeLine∧(∀ u∈vs,OkU A u) ∧
 (h.get? a=some { cls:=.type "list",data:=.seq vs.toArray }∨h.get? a=some { cls:=.type "tuple",data:=.seq vs.toArray })
theorem iJ.mono {h:Heap} {A B:List Addr} {a:Addr} (k:∀ a∈A,a∈B) (x:iJ h A a):iJ h B a:=by
 obtain ⟨vs,h1,h2,h3⟩:=x
 exact ⟨vs,h1,fun u hu=>(h2 u hu).mono k,h3⟩
theorem gE {P:Params} {h:Heap}:∀ {vs:List Value} {ds:List WData},WellAll P h vs ds→vs.length=ds.length
 | _,_,.nil=>rfl
 | _,_,.cons _ b=>by
  show _+1=_+1
  rw [gE b]
theorem nv {P:Params} {h:Heap} {v:Value} {ds:List WData} (x:Well P h v (.list ds)):∃ (a:Addr) (vs:List Value),v = .ref a∧h.get? a=some { cls:=.type "list",data:=.seq vs.toArray }∧WellAll P h vs ds:=by
 cases x with
 | list ho hall=>exact ⟨_,_,rfl,ho,hall⟩
theorem lO {P:Params} {h:Heap} {v:Value} {ds:List WData} (x:Well P h v (.tuple ds)):∃ (a:Addr) (vs:List Value),v = .ref a∧h.get? a=some { cls:=.type "tuple",data:=.seq vs.toArray }∧WellAll P h vs ds:=by
 cases x with
 | tuple ho hall=>exact ⟨_,_,rfl,ho,hall⟩
theorem nD {P:Params} {h:Heap} {us:List Value} {d:WData} {ds:List WData} (x:WellAll P h us (d::ds)):∃ (v:Value) (vs:List Value),us=v::vs∧Well P h v d∧WellAll P h vs ds:=by
 cases x with
 | cons a b=>exact ⟨_,_,rfl,a,b⟩
theorem rT {n:Nat} (h:n≤1048576):n≤sizeLine:=bF h (by decide)
section
variable {P:Params} {h:Heap}
mutual
theorem vd:∀ (d:WData) (v:Value),Well P h v d→plW d=true→d.weight≤1048576→∃ A:List Addr,OkU A v∧∀ a∈A,iJ h A a
 | .none,_,x,_,_=>by
  cases x;exact ⟨[],trivial,fun a m=>absurd m (by simp)⟩
 | .bool b,_,x,_,_=>by
  cases x;exact ⟨[],trivial,fun a m=>absurd m (by simp)⟩
 | .int i,_,x,_,_=>by
  cases x;exact ⟨[],trivial,fun a m=>absurd m (by simp)⟩
 | .str s,_,x,_,_=>by
  cases x;exact ⟨[],trivial,fun a m=>absurd m (by simp)⟩
 | .bytes b,_,x,_,_=>by
  cases x;exact ⟨[],trivial,fun a m=>absurd m (by simp)⟩
 | .list ds,_,x,p,z=>by
  obtain ⟨a,vs,rfl,ho,hall⟩:=nv x
  have z2:WData.weightAll ds≤1048576:=z
  obtain ⟨A,h1,h2⟩:=jX ds _ hall p fun d hd=>bF (jf hd) z2
  have k:∀ b∈A,b∈a::A:=fun b hb=>ax _ hb
  refine ⟨a::A,aR ..,fun b hb=>?_⟩
  rcases aB.mp hb with e | m
  ·rw [e];exact ⟨vs,rT (by rw [gE hall];exact bF (PySem.W.length_le_weightAllW ds) z2),fun u hu=>(h1 u hu).mono k,.inl ho⟩
  ·exact (h2 b m).mono k
 | .tuple ds,_,x,p,z=>by
  obtain ⟨a,vs,rfl,ho,hall⟩:=lO x
  have z2:WData.weightAll ds≤1048576:=z
  obtain ⟨A,h1,h2⟩:=jX ds _ hall p fun d hd=>bF (jf hd) z2
  have k:∀ b∈A,b∈a::A:=fun b hb=>ax _ hb
  refine ⟨a::A,aR ..,fun b hb=>?_⟩
  rcases aB.mp hb with e | m
  ·rw [e];exact ⟨vs,rT (by rw [gE hall];exact bF (PySem.W.length_le_weightAllW ds) z2),fun u hu=>(h1 u hu).mono k,.inr ho⟩
  ·exact (h2 b m).mono k
 | .float _,_,_,p,_=>Bool.noConfusion (show false=true from p)
 | .dict _,_,_,p,_=>Bool.noConfusion (show false=true from p)
 | .bytearray _,_,_,p,_=>Bool.noConfusion (show false=true from p)
 | .set _,_,_,p,_=>Bool.noConfusion (show false=true from p)
 | .frozenset _,_,_,p,_=>Bool.noConfusion (show false=true from p)
 | .obj _ _,_,_,p,_=>Bool.noConfusion (show false=true from p)
theorem jX:∀ (ds:List WData) (vs:List Value),WellAll P h vs ds→lA ds=true→(∀ d∈ds,d.weight≤1048576)→∃ A:List Addr,(∀ u∈vs,OkU A u)∧∀ a∈A,iJ h A a
 | [],_,x,_,_=>by
  cases x;exact ⟨[],fun u m=>absurd m (by simp),fun a m=>absurd m (by simp)⟩
 | d::ds,_,x,p,z=>by
  obtain ⟨v,vs,rfl,x1,x2⟩:=nD x
  have q:plW d=true∧lA ds=true:=Bool.and_eq_true_iff.mp p
  obtain ⟨A,a1,a2⟩:=vd d v x1 q.1 (z d (aR ..))
  obtain ⟨B,b1,b2⟩:=jX ds vs x2 q.2 fun e he=>z e (ax _ he)
  have kA:∀ b∈A,b∈A++B:=fun b hb=>aF.mpr (.inl hb)
  have kB:∀ b∈B,b∈A++B:=fun b hb=>aF.mpr (.inr hb)
  refine ⟨A++B,fun u hu=>?_,fun b hb=>?_⟩
  ·rcases aB.mp hu with e | m
   ·rw [e];exact a1.mono kA
   ·exact (b1 u m).mono kB
  ·rcases aF.mp hb with m | m
   ·exact (a2 b m).mono kA
   ·exact (b2 b m).mono kB
end
end
def wk (o:Obj):Option HO:=match o.data with
 | .seq vs _=>if (o.cls==Value.type "list")=true then some (.frz o (.lst (vs.toList.map toV))) else some (.frz o (.tup (vs.toList.map toV)))
 | _=>none
def iB (K:Fg_) (h:Heap) (A:List Addr):Hp:=fun b=>if b∈A then (if (K.lookup b).isNone=true then (h.get? b).bind wk else none) else none
def qg (H:Hp):Prop:=∀ b,H b=none∨∃ o u,H b=some (.frz o u)
theorem p3 (vs:List Value):wk { cls:=.type "list",data:=.seq vs.toArray }=some (.frz { cls:=.type "list",data:=.seq vs.toArray } (.lst (vs.map toV))):=by
 show (if (Value.type "list"==Value.type "list")=true then some (HO.frz { cls:=.type "list",data:=.seq vs.toArray } (.lst (vs.toArray.toList.map toV))) else some (HO.frz { cls:=.type "list",data:=.seq vs.toArray } (.tup (vs.toArray.toList.map toV))))=_
 rw [if_pos (beq_self_eq_true _)]
theorem pZ (vs:List Value):wk { cls:=.type "tuple",data:=.seq vs.toArray }=some (.frz { cls:=.type "tuple",data:=.seq vs.toArray } (.tup (vs.map toV))):=by
 show (if (Value.type "tuple"==Value.type "list")=true then some (HO.frz { cls:=.type "tuple",data:=.seq vs.toArray } (.lst (vs.toArray.toList.map toV))) else some (HO.frz { cls:=.type "tuple",data:=.seq vs.toArray } (.tup (vs.toArray.toList.map toV))))=_
 rw [if_neg (by decide)]
section
variable {P:Program} {w:World} {K:Fg_} {h:Heap} {A:List Addr}
theorem lL {b:Addr} {o:Obj} (hb:b∈A) (hk:K.lookup b=none) (e:h.get? b=some o):iB K h A b=wk o:=by
 unfold iB;rw [if_pos hb,hk,if_pos (show (none:Option Obj).isNone=true from rfl),e]<;>rfl
theorem vY {b:Addr} {u:HO} (q:iB K h A b=some u):b∈A∧K.lookup b=none:=by
 unfold iB at q;by_cases hb:b∈A
 ·rw [if_pos hb] at q;cases hk:K.lookup b with
  | none=>exact ⟨hb,rfl⟩
  | some o =>
   rw [hk,if_neg (by simp)] at q
   cases q
 ·rw [if_neg hb] at q;cases q
theorem lK (ar:∀ a∈A,iJ h A a) {b:Addr} {u:HO} (q:iB K h A b=some u):K.lookup b=none∧∃ vs:List Value,vs.length≤sizeLine∧(∀ u∈vs,OkU A u) ∧
  ((h.get? b=some { cls:=.type "list",data:=.seq vs.toArray }∧u = .frz { cls:=.type "list",data:=.seq vs.toArray } (.lst (vs.map toV))) ∨
   (h.get? b=some { cls:=.type "tuple",data:=.seq vs.toArray }∧u = .frz { cls:=.type "tuple",data:=.seq vs.toArray } (.tup (vs.map toV)))):=by
 obtain ⟨hb,hk⟩:=vY q
 obtain ⟨vs,h1,h2,h3⟩:=ar b hb
 refine ⟨hk,vs,h1,h2,?_⟩
 rcases h3 with e | e
 ·rw [lL hb hk e,p3] at q;exact .inl ⟨e,(a8 q).symm⟩
 ·rw [lL hb hk e,pZ] at q;exact .inr ⟨e,(a8 q).symm⟩
theorem tX (ar:∀ a∈A,iJ h A a):qg (iB K h A):=fun b=>by
 cases q:iB K h A b with
 | none=>exact .inl rfl
 | some u =>
  obtain ⟨_,vs,_,_,⟨_,e⟩ | ⟨_,e⟩⟩:=lK ar q
  ·exact .inr ⟨_,_,by rw [e]⟩
  ·exact .inr ⟨_,_,by rw [e]⟩
theorem wB (ar:∀ a∈A,iJ h A a):HOk P w (iB K h A) h:=fun b u q=>by
 obtain ⟨_,vs,h1,h2,⟨e,rfl⟩ | ⟨e,rfl⟩⟩:=lK ar q
 ·exact ⟨e,by rw [au];exact h1,vs,_,gS h2,e⟩
 ·exact ⟨e,by rw [au];exact h1,vs,gS h2,_,e,rfl,_,rfl⟩
theorem lE {c c':Value} {vs us:List Value} (e:(some { cls:=c,data:=.seq vs.toArray }:Option Obj)=some { cls:=c',data:=.seq us.toArray }):c=c'∧vs=us:=by
 have e1:=a8 e
 have e2:c=c':=congrArg Obj.cls e1
 have e3:Data.seq vs.toArray=Data.seq us.toArray:=congrArg Obj.data e1
 injection e3 with e4;refine ⟨e2,?_⟩
 have e5:=congrArg Array.toList e4
 simpa using e5
theorem argL (KX:K.In h) (ar:∀ a∈A,iJ h A a) {a:Addr} {vs:List Value} (ha:a∈A) (e:h.get? a=some { cls:=.type "list",data:=.seq vs.toArray }):(∀ u∈vs,OkU A u)∧SqL K (iB K h A) a (vs.map toV):=by
 obtain ⟨us,h1,h2,h3⟩:=ar a ha
 have hu:us=vs:=by
  rcases h3 with q | q
  ·rw [e] at q;exact (lE q).2.symm
  ·rw [e] at q;exact absurd (Value.type.inj (lE q).1) (by decide)
 subst hu;refine ⟨h2,?_⟩
 cases hk:K.lookup a with
 | none=>exact .inl (.inr ⟨_,by rw [lL ha hk e,p3]⟩)
 | some o =>
  have e2:=KX a o hk
  rw [e] at e2;obtain rfl:=a8 e2
  exact .inr ⟨_,us.toArray,_,hk,rfl,rfl,rfl,by rw [aM];exact h1,by simpa using gS h2⟩
theorem argT (KX:K.In h) (ar:∀ a∈A,iJ h A a) {a:Addr} {vs:List Value} (ha:a∈A) (e:h.get? a=some { cls:=.type "tuple",data:=.seq vs.toArray }):(∀ u∈vs,OkU A u)∧SqT K (iB K h A) a (vs.map toV):=by
 obtain ⟨us,h1,h2,h3⟩:=ar a ha
 have hu:us=vs:=by
  rcases h3 with q | q
  ·rw [e] at q;exact absurd (Value.type.inj (lE q).1) (by decide)
  ·rw [e] at q;exact (lE q).2.symm
 subst hu;refine ⟨h2,?_⟩
 cases hk:K.lookup a with
 | none=>exact .inl (.inr ⟨_,by rw [lL ha hk e,pZ]⟩)
 | some o =>
  have e2:=KX a o hk
  rw [e] at e2;obtain rfl:=a8 e2
  exact .inr ⟨_,us.toArray,_,hk,rfl,rfl,by rw [aM];exact h1,by simpa using gS h2⟩
mutual
theorem yX {Pm:Params} (KX:K.In h) (ar:∀ a∈A,iJ h A a):∀ (d:WData) (v:Value),Well Pm h v d→plW d=true→OkU A v→Dw K (iB K h A) (toV v) d
 | .none,_,x,_,_=>by
  cases x;exact .non
 | .bool b,_,x,_,_=>by
  cases x;exact .bl b
 | .int i,_,x,_,_=>by
  cases x;exact .int i
 | .str s,_,x,_,_=>by
  cases x;exact .str s
 | .bytes b,_,x,_,_=>by
  cases x;have z:=Dw.byt (K:=K) (H:=iB K h A) b.toArray
  exact z
 | .list ds,_,x,p,hu=>by
  obtain ⟨a,vs,rfl,ho,hall⟩:=nv x
  obtain ⟨h2,hs⟩:=argL KX ar hu ho
  exact .lst hs (oU KX ar ds _ hall p h2)
 | .tuple ds,_,x,p,hu=>by
  obtain ⟨a,vs,rfl,ho,hall⟩:=lO x
  obtain ⟨h2,hs⟩:=argT KX ar hu ho
  exact .tup hs (oU KX ar ds _ hall p h2)
 | .float _,_,_,p,_=>Bool.noConfusion (show false=true from p)
 | .dict _,_,_,p,_=>Bool.noConfusion (show false=true from p)
 | .bytearray _,_,_,p,_=>Bool.noConfusion (show false=true from p)
 | .set _,_,_,p,_=>Bool.noConfusion (show false=true from p)
 | .frozenset _,_,_,p,_=>Bool.noConfusion (show false=true from p)
 | .obj _ _,_,_,p,_=>Bool.noConfusion (show false=true from p)
theorem oU {Pm:Params} (KX:K.In h) (ar:∀ a∈A,iJ h A a):∀ (ds:List WData) (vs:List Value),WellAll Pm h vs ds→lA ds=true→(∀ u∈vs,OkU A u)→iI K (iB K h A) (vs.map toV) ds
 | [],_,x,_,_=>by
  cases x;exact .nil
 | d::ds,_,x,p,hu=>by
  obtain ⟨v,vs,rfl,x1,x2⟩:=nD x
  have q:plW d=true∧lA ds=true:=Bool.and_eq_true_iff.mp p
  exact .cons (yX KX ar d v x1 q.1 (hu _ (aR ..))) (oU KX ar ds vs x2 q.2 fun u m=>hu u (ax _ m))
end
end
theorem sT {P:Program} {w:World} {K:Fg_} {mg mb:Str→Option Value} {CX:CXT} {k:Nat} {fa:Addr} {fd:FuncData} {ps:List Str} {sp:Sp} {s₁:Shared} {vals:List Value} {ds:List WData} {R:PySem.W.WRecords} {cl:Str→Option Addr} {d0:WData}
  (KX:K.In s₁.heap) (hns:s₁.heap.Ns mainGlobals mg) (hb:s₁.heap.Ns builtinsNs mb) (hbb:∀ x:Str,x≠"__name__"→mb x=bootBuiltins x) (hlim:s₁.heap.NoLimit) (hg:s₁.gens=#[])
  (hwl:WellAll w.params s₁.heap vals ds) (hpl:lA ds=true) (hwt:∀ d∈ds,d.weight≤1048576) (hr:cq k callerA)
  (F:∀ base:Heap,K.In base→base.Ns mainGlobals mg→bt P w K mg base CX k fa fd ps sp) (hbind:∀ (s:Shared) (us:List Value),us.length=ps.length→BindsTo s fd ⟨us,[]⟩ (ps.zip us)) (hlen:ds.length=ps.length)
  (hsp:∀ (H:Hp) (xs:List V),qg H→iI K H xs ds→sp xs H (fun v H'=>Dw K H' v d0) fun _ _ _=>False)
  (hCX:∀ H e s',CX [] H s₁ (fun _ _ _=>False) e s'→False) :
  codeAny (model P w) callerA (.call (.ref fa) ⟨vals,[]⟩) (fun r s'=>∃ u as,r = .ok (.ret u)∧ReadsW R cl s'.heap u d0 as∧OldK s₁.heap s'.heap∧s'.os=s₁.os∧AllBare s'.gens) s₁:=by
 obtain ⟨A,ho,ar⟩:=jX ds vals hwl hpl hwt
 have hO:qg (iB K s₁.heap A):=tX ar
 have hok:HOk P w (iB K s₁.heap A) s₁.heap:=wB ar
 have hS:=oU KX ar ds vals hwl hpl ho
 have hV:=gS ho
 have hK:∀ b u,iB K s₁.heap A b=some u→K.lookup b=none:=fun b u q=>(lK ar q).1
 have noA:∀ {b:Addr} {o:Obj} {es:Array DictEntry} {ep:Nat},s₁.heap.get? b=some o→o.data = .dict es ep→iB K s₁.heap A b=none:=fun {b o es ep} e d=>by
  cases q:iB K s₁.heap A b with
  | none=>rfl
  | some u =>
   obtain ⟨_,vs,_,_,⟨e2,_⟩ | ⟨e2,_⟩⟩:=lK ar q
   ·rw [e2] at e;cases e;have d':Data.seq vs.toArray _=Data.dict es ep:=d
    cases d'
   ·rw [e2] at e;cases e;have d':Data.seq vs.toArray _=Data.dict es ep:=d
    cases d'
 generalize iB K s₁.heap A=H at hO hok hS hK noA;have base_of:∀ {b:Addr} {o:Obj},s₁.heap.get? b=some o→H b=none→(oR s₁.heap H).get? b=some o:=fun e n=>uT e n
 have nsK:∀ {b:Addr} {m:Str→Option Value},s₁.heap.Ns b m→(oR s₁.heap H).Ns b m:=fun {b m} ⟨o,es,ep,e,d,r⟩=>⟨o,es,ep,base_of e (noA e d),d,r⟩
 have nK:∀ b o,K.lookup b=some o→H b=none:=fun b o e=>by
  cases q:H b with
  | none=>rfl
  | some u =>
   rw [hK b u q] at e;cases e
 have hKb:K.In (oR s₁.heap H):=fun b o e=>base_of (KX b o e) (nK b o e)
 have hM:Mod K mg (oR s₁.heap H):=⟨hKb,nsK hns,⟨mb,nsK hb,hbb⟩,let ⟨mc,h1,h2⟩:=hlim;⟨mc,nsK h1,h2⟩⟩
 have e0:rm P w K mg (oR s₁.heap H) callerA [] s₁ H:=⟨rfl,hM,fun b o e=>vX e,fj (tN _ _),trivial,fun b hb=>absurd (show b∈([]:List Addr) from hb) (by simp),hok,.of_eq hg⟩
 have hl:vals.length=ps.length:=by rw [gE hwl];exact hlen
 refine codeAny_mono ((F _ hKb (nsK hns)).run callerA [] s₁ H ⟨vals,[]⟩ vals (vals.map toV) _ _ hr e0 (hbind s₁ vals hl) hV (hsp H _ hO hS)) fun r s' x=>?_
 cases r with
 | error e=>exact (hCX H e s' x).elim
 | ok fl =>
  cases fl with
  | next=>exact False.elim x
  | brk=>exact False.elim x
  | cont=>exact False.elim x
  | ret u =>
   obtain ⟨v,H',os,bare,un,hok',r',q⟩:=x
   have kept:∀ b o,s₁.heap.get? b=some o→s'.heap.get? b=some o:=fun b o e=>by
    cases q2:H b with
    | none=>exact un.keep b o e q2 (by intro z;exact absurd (show b∈([]:List Addr) from z) (by simp)) (by simp)
    | some u2 =>
     rcases hO b with z | ⟨ob,u3,z⟩
     ·rw [q2] at z;cases z
     ·have z2:=un.frzs b ob _ z
      obtain ⟨e1,_⟩:=hok b _ z
      obtain ⟨e2,_⟩:=hok' b _ z2
      rw [e] at e1;cases e1;exact e2
   have KX':K.In s'.heap:=fun b o e=>kept b o (KX b o e)
   obtain ⟨as,hrd⟩:=Dw.reads (R:=R) (cl:=cl) hok' KX' d0 v u q r'
   exact ⟨u,as,rfl,hrd,OldK.of_keep kept,os,bare⟩
theorem mE {ds:List WData} (h:WData.layableAll ds=true):∀ d∈ds,d.weight≤1048576:=fun d hd =>
 (PySem.W.layableW_iff.mp (df.mp h d hd)).2.2
theorem mQ:∀ (cs:List Codec) (a:Codec.denoteAll cs),(Codec.encAll cs a).length=cs.length
 | [],_=>rfl
 | c::cs,a=>by
  show (Codec.encAll cs a.2).length+1=cs.length+1
  rw [mQ cs a.2]
theorem sH {r:OpenSpec} {k:Nat} {q:Program} {loose:List Str} {XP:(Str→Option Value)→Heap→Prop} {YP:World→Heap→Prop} {d:DefRec} {K:Params→Fg_} {CX:World→CXT} {ps:List Str} {sp:World→Sp}
  (hwell:r.wellSaid=true) (hdf:d.params.defaults=[]) (hlen:r.args.length=ps.length) (hr:cq k callerA)
  (hY:∀ (w:World) (h:Heap),YP w h→(K w.params).In h)
  (F:∀ (w:World) (mg:Str→Option Value) (fa:Addr) (h:Heap),YP w h→(K w.params).In h→h.Ns mainGlobals mg→mg d.name=some (.ref fa) →
   ∃ fd:FuncData,(∀ (s:Shared) (us:List Value),us.length=ps.length→BindsTo s fd ⟨us,[]⟩ (ps.zip us)) ∧
    ∀ base:Heap,(K w.params).In base→base.Ns mainGlobals mg→bt r.prog w (K w.params) mg base (CX w) k fa fd ps (sp w))
  (hsp:∀ (w:World) (H:Hp) (xs:List V) (a:Codec.denoteAll r.args),qg H→Codec.withinAll r.args a=true→Codec.app r.args r.asked a=true→iI (K w.params) H xs (Codec.encAll r.args a) →
   sp w xs H (fun v H'=>Dw (K w.params) H' v (r.ret.enc (Codec.app r.args r.f a))) fun _ _ _=>False)
  (hCX:∀ (w:World) (H:Hp) (s:Shared) (e:Value) (s':Shared),CX w [] H s (fun _ _ _=>False) e s'→False) :
  PySem.W.WalkOS q loose XP YP r d [] (fun f vs=>PySem.call f vs):=by
 intro w s_0 s₁ mg mb G Y fa o pm cd doc dV kV ho hd hcd hD hmg hg args vals as hpre hlay hrd hwl hlo;obtain ⟨a,e1,e2⟩:=PySem.W.os_pre_some hpre
 obtain ⟨e3,hwi⟩:=Codec.encAll_of_decAll r.args args a e1
 subst e3;have KX:=hY w _ Y
 obtain ⟨fd,hb,hF⟩:=F w mg fa _ Y KX G.T.g hmg
 refine PySem.W.enter_call (codeAny_mono (sT (R:=[]) (cl:=classAt s_0.heap) (d0:=r.ret.enc (Codec.app r.args r.f a)) KX G.T.g G.T.b G.T.builtins G.T.nolimit hg hwl (nL _ _) (mE hlay) hr hF hb (by rw [mQ];exact hlen)
  (fun H xs hO hS=>hsp w H xs a hO hwi e2 hS) fun H e s'=>hCX w H s₁ e s') fun r' s' hq=>?_)
 obtain ⟨u,as',rfl,h1,h2,h3,h4⟩:=hq
 exact ⟨.inl ⟨u,_,as',rfl,fun _=>rfl,h1,(OpenSpec.post_iff hwell hwi _ _).mpr rfl,fun z=>Bool.noConfusion (show false=true from z)⟩,h2,h3,h4⟩
theorem wX {r:OpenSpec} {k:Nat} {q:Program} {loose:List Str} {XP:(Str→Option Value)→Heap→Prop} {YP:World→Heap→Prop} {d:DefRec} {K:Params→Fg_} {CX:CXT} {ps:List Str} {sp:Fg_→Sp}
  (hwell:r.wellSaid=true) (hdf:d.params.defaults=[]) (hlen:r.args.length=ps.length) (hr:cq k callerA)
  (hY:∀ (w:World) (h:Heap),YP w h→(K w.params).In h)
  (F:∀ (w:World) (mg:Str→Option Value) (fa:Addr) (h:Heap),YP w h→(K w.params).In h→h.Ns mainGlobals mg→mg d.name=some (.ref fa) →
   ∃ fd:FuncData,(∀ (s:Shared) (us:List Value),us.length=ps.length→BindsTo s fd ⟨us,[]⟩ (ps.zip us)) ∧
    ∀ base:Heap,(K w.params).In base→base.Ns mainGlobals mg→bt r.prog w (K w.params) mg base CX k fa fd ps (sp (K w.params)))
  (hsp:∀ (K:Fg_) (H:Hp) (xs:List V) (a:Codec.denoteAll r.args),qg H→Codec.withinAll r.args a=true→Codec.app r.args r.asked a=true→iI K H xs (Codec.encAll r.args a) →
   sp K xs H (fun v H'=>Dw K H' v (r.ret.enc (Codec.app r.args r.f a))) fun _ _ _=>False)
  (hCX:∀ (H:Hp) (s:Shared) (e:Value) (s':Shared),CX [] H s (fun _ _ _=>False) e s'→False) :
  PySem.W.WalkOS q loose XP YP r d [] (fun f vs=>PySem.call f vs) :=
 sH (K:=K) (CX:=fun _=>CX) (sp:=fun w=>sp (K w.params)) hwell hdf hlen hr hY F (fun w H xs a h1 h2 h3 h4=>hsp (K w.params) H xs a h1 h2 h3 h4) fun _ H s e s'=>hCX H s e s'
end L2
namespace L2.XC
open PySem PySem.Spec PyProof.Rows
open Builtin Builtin.ObjectAttr
abbrev bmE:List Value:=[.type "Exception",.type "BaseException",.type "object"]
section
variable {prog:Program} {w:World} {A:Around} {E:Value→Shared→Prop} {h:Heap} {g:Array GenState} {d:Drawn} {t:Nat} {os:OsState}
variable {nm q:Str} {C N x:Addr} {bs:List Value} {sn:List Str} {sub:List Value} {ab:Bool} {col:Option Bool} {dd:Option Addr}
variable {k0 k1 k2 k3 k5:Option Value} {mN:Str→Option Value} {name:Str} {v:Value} {o:Obj} {ni:String}
theorem tf {tk:Tok} {Q:Fin→Shared→Prop} (hC:h.get? C=some (excClassObj nm q C N bs bmE true sn sub ab col dd k0 k1 k2 k3 k5 ni))
  (hn:h.Ns N mN) (hna:mN name=none) (hB:typeLookup (.type "Exception") name=pure none)
  (hx:h.get? x=some o) (hc:o.cls = .ref C) (hdn:o.dict=none) (hnc:∀ c,o.data≠.cls c)
  (hq:∀ h' tk',h'.get? x=some { o with dict:=some h.objs.size }→h'.Ns1 h.objs.size (fun y=>if y=name then some v else none) →
   (∀ b u,b≠x→h.get? b=some u→h'.get? b=some u)→Q (.done (.ret .none)) ⟨h',g,d,tk',os⟩) :
  wpAny (model prog w) A (Builtin.«object.__setattr__» ⟨[.ref x,.str name tk,v],[]⟩) Q E ⟨h,g,d,t,os⟩:=by
 have SF:=PySem.F.store_Exception
 have hp:=SF.passes (.ref x)
 have hxs:x≠h.objs.size:=bu (Heap.lt_size hx)
 unfold Builtin.«object.__setattr__»
 repeat (first
  | rw [refuse_eq]
  | rw [refuseLoop_ref,hp]
  | (with_reducible refine wpAny_loadPart_at hx ?_;rw [hc])
  | with_reducible refine wpAny_mroOf_exc hC ?_
  | (with_reducible refine wpAny_typeLookup_exc hC hn SF.mro hB ?_;rw [hna])
  | wp_step)
 rw [hdn,if_neg (by simp [typeHasDict])]
 split
 ·rename_i z
  cases z
 split
 ·rename_i c z
  exact absurd z (hnc c)
 ·have hx1:(h.push { cls:=.type "dict",data:=.dict #[] }).get? x=some o:=Heap.get?_push_of_some _ hx
  refine wpAny_bind (wpAny_alloc' (wpAny_bind (wpAny_update' hx1 (wpAny_pure ?_))))
  generalize hU:((h.push { cls:=.type "dict",data:=.dict #[] }).update x fun o=>{ cls:=o.cls,dict:=some h.objs.size,data:=o.data,slots:=o.slots })=hh
  have e1:hh.get? h.objs.size=some { cls:=.type "dict",data:=.dict #[] }:=by
   rw [←hU];exact (Heap.get?_update_ne _ _ _ _ hxs.symm).trans (Heap.get?_push_at rfl rfl)
  have e2:hh.get? x=some { o with dict:=some h.objs.size }:=by
   rw [←hU];refine Heap.get?_update_self _ hx1 ?_
   have hfr:=(Heap.get?_some_iff.mp hx).2
   obtain ⟨oc,od,odt,osl⟩:=o
   cases odt<;>first | rfl | exact hfr
  have e3:∀ b u,b≠x→h.get? b=some u→hh.get? b=some u:=fun b u hb hbu=>by
   rw [←hU];exact (Heap.get?_update_ne _ _ _ _ hb).trans (Heap.get?_push_of_some _ hbu)
  have e4:hh.Ns h.objs.size (fun _=>none):=⟨_,#[],_,e1,rfl,fun e he=>absurd he (by simp),fun _=>rfl⟩
  show wpAny _ _ (storeInDict h.objs.size (.str name tk) name v) _ _ _
  unfold storeInDict newKeyGuard;refine wpAny_bind (wpAny_pure (wpAny_bind (wpAny_nsSet1 (Heap.Ns1.of_empty e4) fun h' n1 sb=>?_)))
  obtain ⟨oD,esD,epD,hoD,hdD,hcD⟩:=n1.count (Within.cons name v Within.nil)
  refine wpAny_bind (wpAny_lookBehind hoD (by rw [hdD];exact pastItsLine_dict (bF hcD (by rw [aj,c9,sizeLine_eq];omega))) ?_)
  wp_walk
  exact hq h' _ ((sb.2 x hxs).trans e2) n1 fun b u hb hbu=>(sb.2 b (bu (Heap.lt_size hbu))).trans (e3 b u hb hbu)
theorem qC {tk:Tok} {Q:Fin→Shared→Prop} {dx:Addr} {mA:Str→Option Value} {ns:List Str} (hC:h.get? C=some (excClassObj nm q C N bs bmE true sn sub ab col dd k0 k1 k2 k3 k5 ni))
  (hn:h.Ns N mN) (hna:mN name=none) (hB:typeLookup (.type "Exception") name=pure none)
  (hx:h.get? x=some o) (hc:o.cls = .ref C) (hdn:o.dict=some dx) (hne:dx≠x) (hns:h.Ns1 dx mA) (hw:Within mA ns) (hsz:ns.length≤1000)
  (hq:∀ h' tk',h'.Ns1 dx (fun y=>if y=name then some v else mA y) →
   (∀ b u,b≠dx→h.get? b=some u→h'.get? b=some u)→Q (.done (.ret .none)) ⟨h',g,d,tk',os⟩) :
  wpAny (model prog w) A (Builtin.«object.__setattr__» ⟨[.ref x,.str name tk,v],[]⟩) Q E ⟨h,g,d,t,os⟩:=by
 have SF:=PySem.F.store_Exception
 have hp:=SF.passes (.ref x)
 unfold Builtin.«object.__setattr__»
 repeat (first
  | rw [refuse_eq]
  | rw [refuseLoop_ref,hp]
  | (with_reducible refine wpAny_loadPart_at hx ?_;rw [hc])
  | with_reducible refine wpAny_mroOf_exc hC ?_
  | (with_reducible refine wpAny_typeLookup_exc hC hn SF.mro hB ?_;rw [hna])
  | wp_step)
 rw [hdn];refine wpAny_pure ?_
 show wpAny _ _ (storeInDict dx (.str name tk) name v) _ _ _
 unfold storeInDict newKeyGuard;refine wpAny_bind (wpAny_pure (wpAny_bind (wpAny_nsSet1 hns fun h' n1 sb=>?_)))
 obtain ⟨oD,esD,epD,hoD,hdD,hcD⟩:=n1.count (Within.cons name v hw)
 refine wpAny_bind (wpAny_lookBehind hoD (by rw [hdD];exact pastItsLine_dict (bF hcD (by rw [aj,sizeLine_eq];omega))) ?_)
 wp_walk
 exact hq h' _ n1 fun b u hb hbu=>(sb.2 b hb).trans hbu
theorem pL {R:Result→Shared→Prop} {tk:Tok} {B sa owner:String} {bm:List Value} (SF:StoreFacts B bm sa owner) (hC:h.get? C=some (excClassObj nm q C N bs bm true sn sub ab col dd k0 k1 k2 k3 k5 ni))
  (hx:h.get? x=some o) (hc:o.cls = .ref C)
  (hq:∀ (A:Around) (T:Fin→Shared→Prop) (E:Value→Shared→Prop),(∀ s',R (.ok (.ret .none)) s'→T (.done (.ret .none)) s') →
   wpAny (model prog w) A (Builtin.«object.__setattr__» ⟨[.ref x,.str name tk,v],[]⟩) T E ⟨h,g,d,t,os⟩) :
  codeAny (model prog w) A (.call (.builtin sa) ⟨[.ref x,.str name tk,v],[]⟩) R ⟨h,g,d,t,os⟩:=by
 refine codeAny_call_builtin SF.slot.plain SF.entry (wpAny_check_sa SF hC hx hc ?_)
 refine hq _ _ _ ?_
 intro s' z
 exact z
theorem pM {Q:Unit→Shared→Prop} {B sa owner:String} {bm:List Value} (SF:StoreFacts B bm sa owner) (hC:h.get? C=some (excClassObj nm q C N bs bm true sn sub ab col dd k0 k1 k2 k3 k5 ni))
  (hn:h.Ns N mN) (hns:mN "__setattr__" = none) (hx:h.get? x=some o) (hc:o.cls = .ref C)
  (hq:∀ (A:Around) (R:Result→Shared→Prop) (tk t':Nat),(∀ s',Q () s'→R (.ok (.ret .none)) s') →
   codeAny (model prog w) A (.call (.builtin sa) ⟨[.ref x,.str name tk,v],[]⟩) R ⟨h,g,d,t',os⟩) :
  wpAny (model prog w) A (setAttr (.ref x) name v) Q E ⟨h,g,d,t,os⟩:=by
 have f3:=SF.slot.bind (.ref x)
 unfold setAttr callSpecial? specialOf
 repeat (any_goals (first
  | assumption
  | (with_reducible refine wpAny_loadPart_at hx ?_;rw [hc])
  | (with_reducible refine wpAny_typeLookup_exc hC hn SF.mro SF.slot.lookup ?_;rw [hns])
  | wp_step))
 refine hq _ _ _ _ fun s' z=>?_
 obtain ⟨hh,gg,dd',tt,oo⟩:=s'
 repeat (any_goals (first | (with_reducible assumption) | wp_step))
end
open Builtin Builtin.ObjectAttr
section
variable {prog:Program} {w:World} {A:Around} {E:Value→Shared→Prop} {h:Heap} {g:Array GenState} {d:Drawn} {t:Nat} {os:OsState}
variable {nm q:Str} {C N x dx:Addr} {bs:List Value} {sn:List Str} {sub:List Value} {ab:Bool} {col:Option Bool} {dd:Option Addr}
variable {k0 k1 k2 k3 k5:Option Value} {mN mA:Str→Option Value} {name:Str} {v:Value} {o:Obj} {ni:String}
end
def iC (h:Heap) (e C dx:Addr):Prop :=
 ∃ o vs T oT ts,h.get? e=some o∧o.cls = .ref C∧o.dict=some dx∧o.data = .fields vs∧vs[1]? = some (.ref T)∧T≠e∧h.get? T=some oT∧oT.data = .fields ts∧ts[3]? = some .none
def Fresh (h:Heap) (e C dx:Addr):Prop:=∃ o vs,h.get? e=some o∧o.cls = .ref C∧o.dict=some dx∧o.data = .fields vs∧vs[1]? = some .none
def Fly (h:Heap) (e C dx:Addr):Prop:=Fresh h e C dx∨iC h e C dx
structure t7 (fs:List Addr) (e:Addr) (h h':Heap):Prop where
 keep:∀ b o,b∉fs→b≠e→h.get? b=some o→h'.get? b=some o
 slot:∀ b o,b∈fs→h.get? b=some o→∃ sl,h'.get? b=some { o with slots:=sl }
section
variable {M:Model} {A:Around} {E E':Value→Shared→Prop} {s:Shared}
theorem jq {base:Heap} {env:Env} {outer:List Env} {L e C dx:Addr} {o:Obj} {vs:Array Value} {head:Value} {had:Bool} {Q:Unit→Shared→Prop}
  (hfr:A.frames=some (env::outer)) (hl:s.heap.FunFrames base (env::outer)) (hf:env.frame=some L)
  (he:s.heap.get? e=some o) (hc:o.cls = .ref C) (hdx:o.dict=some dx) (hd:o.data = .fields vs) (hsz:1<vs.size)
  (h:∀ h',iC h' e C dx→t7 (frs (env::outer)) e s.heap h'→Q () { s with heap:=h' }) :
  wpAny M A (do
   let fo ←frameOf env
   let pl ←entryPlaceOf L had
   let b ←EntryCells.newEntry head fo .none (rawInt L) .none pl
   setField (.ref e) 1 b) (fun _ s'=>wpAny M A (setFlight (.ref e) none) Q E s') E' s:=by
 have nfr:e∉frs (env::outer):=fun hm=>by
  obtain ⟨_,ob,ho,hnf⟩:=hl.mem hm
  rw [he] at ho;cases ho;exact hnf vs hd
 refine wpAny_bind (wpAny_frameOf_fun hfr hl hf fun h1 hs=>?_)
 refine wpAny_bind (wpAny_entryPlaceOf fun pl hpl=>?_)
 unfold EntryCells.newEntry newFields;refine wpAny_bind (wpAny_newObj_type ?_ (hpl.sizeOk5 _ _ _ _ _))
 generalize hX:({ cls:=.type "traceback",dict:=none,data:=.fields ([head,.ref L,.none,rawInt L,.none]++(if pl.isEmpty then List.replicate 6 Value.none else pl)).toArray }:Obj)=X
 have e1:h1.get? e=some o:=(hs.2.1 e nfr).trans he
 have e2:(h1.push X).get? e=some o:=Heap.get?_push_of_some _ e1
 refine wpAny_setField e2 hd hsz ?_
 have nT:h1.objs.size≠e:=fg (Heap.lt_size e1)
 have d3:=Obj.data_mapFields hd (·.setIfInBounds 1 (Value.ref h1.objs.size))
 have e3:=Heap.get?_update_self (Obj.mapFields (·.setIfInBounds 1 (Value.ref h1.objs.size))) e2 (Obj.isFreed_of_fields d3)
 have xf:∃ ts:Array Value,X.data = .fields ts∧3<ts.size:=by
  rw [←hX];exact ⟨_,rfl,by simp only [aM,aa,aj,c9];omega⟩
 obtain ⟨ts,xd,x3⟩:=xf
 have xn:X.isFreed=false:=Obj.isFreed_of_fields xd
 have t3:((h1.push X).update e (Obj.mapFields (·.setIfInBounds 1 (Value.ref h1.objs.size)))).get? h1.objs.size=some X :=
  (Heap.get?_update_other _ _ (Ne.symm nT)).trans (Heap.get?_push_size h1 xn)
 unfold setFlight;refine wpAny_bind (wpAny_field e3 d3 (x:=.ref h1.objs.size) (by simp [hsz]) ?_)
 rw [if_pos (show (Value.ref h1.objs.size != Value.none)=true from by simp)]
 refine wpAny_setField t3 xd x3 (h _ ?_ ⟨fun b ob nb ne hb=>?_,fun b ob nb hb=>?_⟩)
 ·refine ⟨_,_,h1.objs.size,_,_,(Heap.get?_update_other _ _ nT).trans e3,?_,?_,d3,by simp [hsz],nT,Heap.get?_update_self _ t3 (Obj.isFreed_of_fields (Obj.data_mapFields xd _)),Obj.data_mapFields xd _,?_⟩
  ·rw [Obj.cls_mapFields];exact hc
  ·obtain ⟨c1,c2,c3,c4⟩:=o
   cases hd;exact hdx
  ·simp [x3]
 ·have q:h1.get? b=some ob:=(hs.2.1 b nb).trans hb
  rw [Heap.get?_update_other _ _ (fg (Heap.lt_size q)),Heap.get?_update_other _ _ (Ne.symm ne)];exact Heap.get?_push_of_some _ q
 ·obtain ⟨sl,q⟩:=hs.2.2 b ob hb
  have ne:b≠e:=fun z=>nfr (z▸nb)
  refine ⟨sl,?_⟩
  rw [Heap.get?_update_other _ _ (fg (Heap.lt_size q)),Heap.get?_update_other _ _ (Ne.symm ne)];exact Heap.get?_push_of_some _ q
theorem p6 {base:Heap} {env:Env} {outer:List Env} {L e C dx:Addr} {Q:Unit→Shared→Prop}
  (hfr:A.frames=some (env::outer)) (hl:s.heap.FunFrames base (env::outer)) (hf:env.frame=some L) (x:Fly s.heap e C dx)
  (h:∀ h',iC h' e C dx→t7 (frs (env::outer)) e s.heap h'→Q () { s with heap:=h' }) :
  wpAny M A (noteFrame (.ref e) env) (fun _ s'=>wpAny M A (setFlight (.ref e) none) Q E s') E' s:=by
 unfold noteFrame;simp only [hf];rcases x with ⟨o,vs,he,hc,hdx,hd,h1⟩ | ⟨o,vs,T,oT,ts,he,hc,hdx,hd,h1,hTe,hT,hdT,h3⟩
 ·refine wpAny_bind (wpAny_field he hd h1 ?_)
  rw [if_neg (by decide)]
  exact jq hfr hl hf he hc hdx hd (bQ.mp h1).1 h
 ·refine wpAny_bind (wpAny_field he hd h1 ?_)
  rw [if_pos (show (Value.ref T != Value.none)=true from by simp)]
  refine wpAny_bind (wpAny_field hT hdT h3 ?_)
  rw [if_neg (show ¬((Value.none==rawInt L)=true) from by simp [rawInt])]
  refine wpAny_bind (wpAny_setField hT hdT (bQ.mp h3).1 ?_)
  rw [Heap.update_setField_same s.heap T oT ts 3 .none hT hdT h3];exact jq hfr hl hf he hc hdx hd (bQ.mp h1).1 h
theorem tO {base:Heap} {env:Env} {outer:List Env} {L e C dx:Addr} {Q:Unit→Shared→Prop}
  (hfr:A.frames=some (env::outer)) (hl:s.heap.FunFrames base (env::outer)) (hf:env.frame=some L) (x:Fly s.heap e C dx)
  (h:∀ h',iC h' e C dx→t7 (frs (env::outer)) e s.heap h'→Q () { s with heap:=h' }):wpAny M A (leaving env (.ref e)) Q E s:=by
 unfold leaving;exact wpAny_bind (p6 hfr hl hf x h)
theorem jJ {e C dx:Addr} {Q:Unit→Shared→Prop} (x:iC s.heap e C dx) (h:Q () s):wpAny M A (setFlight (.ref e) none) Q E s:=by
 obtain ⟨o,vs,T,oT,ts,he,hc,hdx,hd,h1,hTe,hT,hdT,h3⟩:=x
 unfold setFlight;refine wpAny_bind (wpAny_field he hd h1 ?_)
 rw [if_pos (show (Value.ref T != Value.none)=true from by simp)]
 refine wpAny_setField hT hdT (bQ.mp h3).1 ?_
 show Q () { s with heap:=s.heap.update T (Obj.mapFields (·.setIfInBounds 3 Value.none)) }
 rw [Heap.update_setField_same s.heap T oT ts 3 .none hT hdT h3];exact h
end
def XE (e C:Addr) (d:Option Addr):HO:=.ext fun h=>∃ o vs,h.get? e=some o∧o.cls = .ref C∧o.dict=d∧o.data = .fields vs∧vs[1]? = some .none
def XL (e C dx:Addr):HO:=.ext fun h=>∃ o vs,h.get? e=some o∧o.cls = .ref C∧o.dict=some dx∧o.data = .fields vs
def XD (dx:Addr) (fs:List (Str×V)):HO:=.ext fun h=>∃ mA,h.Ns1 dx mA∧(∀ f,iV (fs.lookup f) (mA f))∧PySem.Within mA (fs.map (·.1))
theorem rn {P:Program} {w:World} {H:Hp} {h:Heap} {e C:Addr} {d:Option Addr} {o:Obj} {vs:Array Value} (h1:h.get? e=some o) (h2:o.cls = .ref C) (h3:o.dict=d) (h4:o.data = .fields vs) (h5:vs[1]? = some .none):dZ P w H h e (XE e C d) :=
 ⟨⟨o,vs,h1,h2,h3,h4,h5⟩,⟨o,h1⟩,fun _ _ ⟨o,vs,a,b⟩ k=>⟨o,vs,k o a,b⟩⟩
theorem xl_ok {P:Program} {w:World} {H:Hp} {h:Heap} {e C dx:Addr} {o:Obj} {vs:Array Value} (h1:h.get? e=some o) (h2:o.cls = .ref C) (h3:o.dict=some dx) (h4:o.data = .fields vs):dZ P w H h e (XL e C dx) :=
 ⟨⟨o,vs,h1,h2,h3,h4⟩,⟨o,h1⟩,fun _ _ ⟨o,vs,a,b⟩ k=>⟨o,vs,k o a,b⟩⟩
theorem t8 {P:Program} {w:World} {H:Hp} {h:Heap} {dx:Addr} {fs:List (Str×V)} {mA:Str→Option Value} (h1:h.Ns1 dx mA) (h2:∀ f,iV (fs.lookup f) (mA f)) (h3:PySem.Within mA (fs.map (·.1))):dZ P w H h dx (XD dx fs) :=
 ⟨⟨mA,h1,h2,h3⟩,(let ⟨o,_,_,q,_⟩:=h1;⟨o,q⟩),fun _ _ ⟨mA,n,r⟩ k=>⟨mA,n.at fun o q=>k o q,r⟩⟩
theorem pj {P:Program} {w:World} {H:Hp} {h:Heap} {e C:Addr} {d:Option Addr} (x:HOk P w H h) (q:H e=some (XE e C d)):∃ o vs,h.get? e=some o∧o.cls = .ref C∧o.dict=d∧o.data = .fields vs∧vs[1]? = some .none:=(x e _ q).1
theorem xl_of {P:Program} {w:World} {H:Hp} {h:Heap} {e C dx:Addr} (x:HOk P w H h) (q:H e=some (XL e C dx)):∃ o vs,h.get? e=some o∧o.cls = .ref C∧o.dict=some dx∧o.data = .fields vs:=(x e _ q).1
theorem wI {P:Program} {w:World} {H:Hp} {h:Heap} {dx:Addr} {fs:List (Str×V)} (x:HOk P w H h) (q:H dx=some (XD dx fs)):∃ mA,h.Ns1 dx mA∧(∀ f,iV (fs.lookup f) (mA f))∧PySem.Within mA (fs.map (·.1)):=(x dx _ q).1
def m9 (H:Hp) (e:Addr):Hp:=fun b=>if b=e then none else H b
theorem i7 {H:Hp} {e:Addr}:m9 H e e=none:=by unfold m9;rw [if_pos rfl]
theorem fK {H:Hp} {e b:Addr} (h:b≠e):m9 H e b=H b:=by unfold m9;rw [if_neg h]
theorem i8 {H:Hp} {e b:Addr} (h:H b=none):m9 H e b=none:=by
 by_cases q:b=e
 ·rw [q];exact i7
 ·rw [fK q];exact h
theorem vj {P:Program} {w:World} {H:Hp} {h:Heap} {e:Addr} {φ:Heap→Prop} (x:HOk P w H h) (he:H e=some (.ext φ)):HOk P w (m9 H e) h:=fun a o q=>by
 by_cases z:a=e
 ·rw [z,i7] at q;cases q
 ·rw [fK z] at q;refine (x a o q).stay (fun _ _ _ r=>r) (fun b r=>?_) fun b xs r=>?_
  ·rw [fK (cQ r he (by intro y;cases y))];exact r
  ·rw [fK (cQ r he (by intro y;cases y))];exact r
theorem wC {fs ex:List Addr} {H H':Hp} {h h':Heap} {e:Addr} {φ:Heap→Prop} (u:Un fs ex H H' h h') (he:H' e=some (.ext φ)):Un fs ex H (m9 H' e) h h' :=
 ⟨u.keep,u.slot,fun b o q n hx=>i8 (u.free b o q n hx),u.there,
  fun b xs q=>by rw [fK (cQ (u.tups b xs q) he (by intro y;cases y))];exact u.tups b xs q,
  fun b o xs q=>by rw [fK (cQ (u.frzs b o xs q) he (by intro y;cases y))];exact u.frzs b o xs q,
  fun b ps q=>by
   obtain ⟨m,r⟩:=u.tbls b ps q
   exact ⟨m,by rw [fK (cQ r he (by intro y;cases y))];exact r⟩⟩
section
variable {X:Cx} {pins:List (Addr×Obj)} {σ:St} {H H':Hp} {s:Shared}
theorem qi {e:Addr} {φ:Heap→Prop} (I:Inv X pins σ H s) (he:H e=some (.ext φ)):Inv X pins σ (m9 H e) s :=
 ⟨I.ok,I.os,I.bare,wC I.base he,I.loc,I.cell,i8 I.free,fun x c q=>i8 (I.freeC x c q),
  fun p hp=>let ⟨a,b,c⟩:=I.pin p hp;⟨a,i8 b,c⟩,vj I.hok he,I.len⟩
structure fU (X:Cx) (pins:List (Addr×Obj)) (e:Addr):Prop where
 new:X.s_0.heap.get? e=none
 loc:e≠X.env.locals
 cel:∀ x c,X.env.cells.lookup x=some c→c≠e
 pin:∀ p∈X.pn++pins,p.1≠e
 out:e∉X.fs
theorem hZ {e:Addr} (I:Inv X pins σ H s) (hx:X.ex=[]) (he:s.heap.get? e=none):fU X pins e:=by
 refine ⟨?_,?_,fun x c q z=>?_,fun p hp z=>?_,fun z=>?_⟩
 ·cases q:X.s_0.heap.get? e with
  | none=>rfl
  | some o =>
   obtain ⟨o',r⟩:=I.base.there e o q (by rw [hx];simp)
   rw [he] at r;cases r
 ·intro z;obtain ⟨m,⟨o,_,_,ho,_⟩,_⟩:=I.loc
  rw [←z,he] at ho;cases ho
 ·obtain ⟨v,o,ho,_⟩:=I.cell x c q
  rw [z,he] at ho;cases ho
 ·obtain ⟨a,_⟩:=I.pin p hp
  rw [z,he] at a;cases a
 ·obtain ⟨_,o,ho,_⟩:=I.funs.mem z
  rw [he] at ho;cases ho
theorem kQ {e:Addr} {o:HO} (I:Inv X pins σ H s) (y:fU X pins e) (hn:H e=none) (ok:dZ X.prog X.w (upd H e o) s.heap e o):Inv X pins σ (upd H e o) s:=by
 refine ⟨I.ok,I.os,I.bare,⟨I.base.keep,I.base.slot,fun b u q n hx=>?_,I.base.there,fun b xs q=>?_,fun b u xs q=>?_,fun b ps q=>?_⟩,I.loc,I.cell,?_,fun x c q=>?_,fun p hp=>?_,fun b u q=>?_,I.len⟩
 ·rw [ai (fun z=>by rw [z,y.new] at q;cases q)]
  exact I.base.free b u q n hx
 ·rw [ai (ah (I.base.tups b xs q) hn)];exact I.base.tups b xs q
 ·rw [ai (ah (I.base.frzs b u xs q) hn)];exact I.base.frzs b u xs q
 ·obtain ⟨m,r⟩:=I.base.tbls b ps q
  exact ⟨m,by rw [ai (ah r hn)];exact r⟩
 ·rw [ai (Ne.symm y.loc)];exact I.free
 ·rw [ai (y.cel x c q)];exact I.freeC x c q
 ·obtain ⟨a,b,c⟩:=I.pin p hp
  exact ⟨a,by rw [ai (y.pin p hp)];exact b,c⟩
 ·by_cases z:b=e
  ·subst z;rw [aA] at q;cases q;exact ok
  ·rw [ai z] at q;exact (I.hok b u q).stay (fun _ _ _ r=>r) (fun c r=>by rw [ai (ah r hn)];exact r) fun c xs r=>by rw [ai (ah r hn)];exact r
theorem ia {e:Addr} {h':Heap} (I:Inv X pins σ H s) (hn:H e=none) (y:fU X pins e) (k:t7 (frs X.stack) e s.heap h'):Inv X pins σ H { s with heap:=h' }:=by
 have nst:e∉frs X.stack:=fun z=>by
  rcases aB.mp (I.stkSub e z) with q | q
  ·exact y.loc q
  ·exact y.out q
 obtain ⟨m,⟨o,es,ep,ho,r⟩,_⟩:=id I.loc
 have up:∀ b u,b≠e→s.heap.get? b=some u→∃ sl,h'.get? b=some { u with slots:=sl }:=fun b u hb q=>by
  by_cases z:b∈frs X.stack
  ·exact k.slot b u z q
  ·exact ⟨u.slots,k.keep b u z hb q⟩
 have nH:∀ b u,H b=some u→b∉frs X.stack:=fun b u q z=>by rw [I.stkFree b z] at q;cases q
 have n0:∀ b u,X.s_0.heap.get? b=some u→b≠e:=fun b u q z=>by rw [z,y.new] at q;cases q
 have nl:∀ b u,X.s_0.heap.get? b=some u→b≠X.env.locals:=fun b u q=>bu (aT (Heap.lt_size q) I.ok.above)
 have cl:∀ x c v,X.env.cells.lookup x=some c→s.heap.IsCell c v→h'.IsCell c v:=fun x c v q ⟨u,hu,hd⟩=>by
  obtain ⟨sl,z⟩:=up c u (y.cel x c q) hu
  exact ⟨_,z,hd⟩
 refine ⟨I.ok,I.os,I.bare,⟨fun b u q n hb hx=>?_,fun b u q n hb hx=>?_,I.base.free,fun b u q hx=>?_,I.base.tups,I.base.frzs,I.base.tbls⟩,?_,fun x c q=>?_,I.free,I.freeC,fun p hp=>?_,fun b u q=>?_,I.len⟩
 ·exact k.keep b u (fun z=>(aB.mp (I.stkSub b z)).elim (nl b u q) hb) (n0 b u q) (I.base.keep b u q n hb hx)
 ·obtain ⟨sl,z⟩:=I.base.slot b u q n hb hx
  obtain ⟨sl',z'⟩:=up b _ (n0 b u q) z
  exact ⟨sl',z'⟩
 ·obtain ⟨u',z⟩:=I.base.there b u q hx
  obtain ⟨sl,z'⟩:=up b _ (n0 b u q) z
  exact ⟨_,z'⟩
 ·obtain ⟨m',hm,hl⟩:=I.loc
  refine ⟨m',?_,fun i x v e1 e2 e3=>?_⟩
  ·obtain ⟨o',es',ep',ho',r'⟩:=hm
   obtain ⟨sl,z⟩:=up _ o' (Ne.symm y.loc) ho'
   exact ⟨_,es',ep',z,r'⟩
  ·obtain ⟨u,ru,l⟩:=hl i x v e1 e2 e3
   refine ⟨u,ru,?_⟩
   rcases l with l | ⟨kk,c,ec,z⟩
   ·exact .inl l
   ·exact .inr ⟨kk,c,ec,cl x c _ ec z⟩
 ·obtain ⟨v,z⟩:=I.cell x c q
  exact ⟨v,cl x c v q z⟩
 ·obtain ⟨a1,a2,a3,a4,a5⟩:=I.pin p hp
  exact ⟨k.keep p.1 p.2 (fun z=>(aB.mp (I.stkSub p.1 z)).elim a3 a4) (y.pin p hp) a1,a2,a3,a4,a5⟩
 ·refine (I.hok b u q).stay (fun c v hc r'=>k.keep c v ?_ ?_ r') (fun _ z=>z) fun _ _ z=>z
  ·rcases hc with z | z
   ·rw [z];exact nH b u q
   ·exact nH c _ z
  ·rcases hc with z | z
   ·rw [z];exact ah q hn
   ·exact ah z hn
end
def CXF (P:Program) (w:World):CXT:=fun outer H s E x s'=>∃ e C dx H',x = .ref e∧s'.os=s.os∧AllBare s'.gens∧Un (frs outer) [] H H' s.heap s'.heap∧HOk P w H' s'.heap ∧
 iC s'.heap e C dx∧s.heap.get? e=none∧H' e=none∧E (.ref C) (some dx) H'
def ib (X:Cx) (E:XK):Prop:=∀ (pins:List (Addr×Obj)) (σ:St) (H:Hp) (s:Shared) (e C dx:Addr),Inv X pins σ H s→Fly s.heap e C dx→H e=none→fU X pins e→E (.ref C) (some dx) H→X.xe (.ref e) s
theorem cC {P:Program} {w:World} {K:Fg_} {mg:Str→Option Value} {base:Heap} {N:List Str} {qual:Str} {scope:Scope} {f:Addr} {cd:Value} {A:Around} {outer:List Env} {s:Shared} {H:Hp} {E:XK} :
  ib (cD (CXF P w) P w K mg base N qual scope f cd A outer s H E) E:=by
 intro pins σ H1 s1 e C dx I fl hn y q;refine tO (outer:=outer) (L:=s.heap.objs.size) I.ok.frames I.stack rfl fl fun h' ld k=>?_
 have I':=ia I hn y k
 exact ⟨e,C,dx,H1,rfl,I'.os,I'.bare,I'.base,I'.hok,ld,y.new,hn,q⟩
theorem gb {X:Cx} {E:XK} (hf:ib X E) (hx:X.ex=[]):fS (CXF X.prog X.w) X E:=by
 rintro pins σ H s e s' I ⟨e',C,dx,H',rfl,os,bare,un,hok,ld,new,hn,q⟩
 exact hf pins σ H' s' e' C dx (I.call' os un hok bare (ch:=[]) fun b z=>absurd z (by simp)) (.inr ld) hn (hZ I hx new) q
section
variable {P:Program} {w:World} {K:Fg_} {mg:Str→Option Value} {base:Heap}
theorem okX {x qual:Str} {st:Stmt} {f:Addr} {fd:FuncData} {N ps:List Str} {k:Nat} {sp:Sp} (F:Fun K x qual st f fd) (S:ba N ps (aQ st)) (len:∀ vs H Q E,sp vs H Q E→vs.length=ps.length)
  (hbody:∀ (cdv:Value) (A:Around) (outer:List Env) (s:Shared) (H:Hp) (vs:List V) (Q:VK) (E:XK),cq k (A.deeper (envOfC qual (aQ st) s.heap.objs.size f cdv))→sp vs H Q E →
   ∃ t,PSs (cD (CXF P w) P w K mg base N qual (aQ st) f cdv A outer s H E) (gG st) t∧t { nx:=fun _ H'=>Q .non H',rt:=Q } (jA N vs) H):bt P w K mg base (CXF P w) (k+1) f fd ps sp:=by
 obtain ⟨oc,od,kV,doc,pm,an,cdv,ct,osl,rfl,lk,hcd⟩:=F.ex
 exact wQ lk hcd S len fun A outer s H vs Q E hr hsp=>hbody cdv A outer s H vs Q E hr hsp
theorem di {N:List Str} {qual:Str} {scope:Scope} {f:Addr} {cd:Value} {A:Around} {outer:List Env} {s:Shared} {H:Hp} {E:XK} :
  fS (CXF P w) (cD (CXF P w) P w K mg base N qual scope f cd A outer s H E) E:=gb cC rfl
end
def qM (o:Obj):Bool:=match o.data with
 | .dict es _=>es.all fun e=>match e.key with | .str _ _=>true | _=>false
 | _=>false
structure kN (K:Fg_) (C fI:Addr):Prop where
 ex:∃ (nm q:Str) (N:Addr) (bs:List Value) (sn:List Str) (sub:List Value) (ab:Bool) (col:Option Bool) (dd:Option Addr) (k0 k1 k2 k3 k5:Option Value) (oN:Obj),
  K.lookup C=some (excClassObj nm q C N bs bmE true sn sub ab col dd k0 k1 k2 k3 k5 "Exception.__new__")∧K.lookup N=some oN∧qM oN=true ∧
  PySem.W.nsIn K N "__init__" = some (some (.ref fI))∧PySem.W.nsIn K N "__setattr__" = some none∧PySem.W.nsIn K N "__getattribute__" = some none∧PySem.W.nsIn K N "__getattr__" = some none ∧
  PySem.W.nsIn K N "kind" = some none∧PySem.W.nsIn K N "place" = some none
 fn:PySem.W.isFn K (.ref fI)=true
 kp:PySem.W.keepIn K (.ref C)=true
theorem qH {K:Fg_} {h:Heap} {N:Addr} {m:Str→Option Value} {n:Str} {v:Value} (X:K.In h) (G:h.Ns N m) (e:PySem.W.nsIn K N n=some (some v)):m n=some v:=by
 obtain ⟨o,es,ep,ho,hd,_,hf⟩:=G
 unfold PySem.W.nsIn at e;split at e
 ·rename_i c d es' n' sl q
  have z:=X _ _ q
  rw [ho] at z;cases z;cases hd;split at e
  ·rename_i en he
   cases e;rw [←hf];unfold nsFind findBy;rw [←Array.find?_toList,he];rfl
  ·split at e<;>cases e
 ·cases e
structure XAt (h:Heap) (C fI:Addr) (N:Addr) (mN:Str→Option Value):Prop where
 obj:∃ (nm q:Str) (bs:List Value) (sn:List Str) (sub:List Value) (ab:Bool) (col:Option Bool) (dd:Option Addr) (k0 k1 k2 k3 k5:Option Value),
  h.get? C=some (excClassObj nm q C N bs bmE true sn sub ab col dd k0 k1 k2 k3 k5 "Exception.__new__")
 ns:h.Ns N mN
 ini:mN "__init__" = some (.ref fI)
 sa:mN "__setattr__" = none
 ga:mN "__getattribute__" = none
 gr:mN "__getattr__" = none
 kd:mN "kind" = none
 pl:mN "place" = none
theorem kN.at_ {K:Fg_} {C fI:Addr} {h:Heap} (x:kN K C fI) (KX:K.In h):∃ N mN,XAt h C fI N mN:=by
 obtain ⟨nm,q,N,bs,sn,sub,ab,col,dd,k0,k1,k2,k3,k5,oN,l1,l2,ko,i1,i2,i3,i4,i5,i6⟩:=x.ex
 have hn:h.isNs N=true:=by
  unfold Heap.isNs;rw [KX _ _ l2];unfold qM at ko;exact ko
 have G:h.Ns N (h.nsMap N):=.of_isNs hn
 exact ⟨N,h.nsMap N,⟨nm,q,bs,sn,sub,ab,col,dd,k0,k1,k2,k3,k5,KX _ _ l1⟩,G,qH KX G i1,bA KX G i2,bA KX G i3,bA KX G i4,bA KX G i5,bA KX G i6⟩
theorem wb:typeLookup (.type "Exception") "kind" = pure none:=by rw [typeLookup_type,builtinLookup_eq_fast];kernel_rfl
theorem uQ:typeLookup (.type "Exception") "place" = pure none:=by rw [typeLookup_type,builtinLookup_eq_fast];kernel_rfl
def Fld (f:Str):Prop:=f = "kind"∨f = "place"
theorem Fld.lk {f:Str} (h:Fld f):typeLookup (.type "Exception") f=pure none:=by
 rcases h with rfl | rfl
 ·exact wb
 ·exact uQ
theorem Fld.no {f:Str} (h:Fld f) {hp:Heap} {C fI N:Addr} {mN:Str→Option Value} (x:XAt hp C fI N mN):mN f=none:=by
 rcases h with rfl | rfl
 ·exact x.kd
 ·exact x.pl
section
variable {X:Cx} {pins:List (Addr×Obj)} {σ:St} {H:Hp} {s:Shared} {e C fI dx:Addr} {f:Str} {v:V} {u:Value} {E:Value→Shared→Prop} {A:Around}
theorem pD {Q:Unit→Shared→Prop} (I:Inv X pins σ H s) (c:kN X.K C fI) (hf:Fld f) (he:H e=some (XE e C none)) (rv:cM v u)
  (h:∀ dx s',H dx=none→dx≠e→Inv X pins σ (upd (upd H dx (XD dx [(f,v)])) e (XE e C (some dx))) s'→Q () s'):wpAny (model X.prog X.w) A (setAttr (.ref e) f u) Q E s:=by
 obtain ⟨N,mN,x⟩:=c.at_ I.kIn
 obtain ⟨nm,q,bs,sn,sub,ab,col,dd,k0,k1,k2,k3,k5,hC⟩:=x.obj
 obtain ⟨o,vs,ho,hc,hd,hdat,h1⟩:=pj I.hok he
 have hnc:∀ c,o.data≠.cls c:=fun c z=>by rw [hdat] at z;cases z
 obtain ⟨hh,gg,dr,tt,oo⟩:=s
 refine pM PySem.F.store_Exception hC x.ns x.sa ho hc fun A R tk t' hR=>?_
 refine pL PySem.F.store_Exception hC ho hc fun A T E' hT=>?_
 refine tf hC x.ns (hf.no x) hf.lk ho hc hd hnc fun h' tk' e1 e2 e3=>hT _ (hR _ ?_)
 have hfr:H hh.objs.size=none:=I.hok.fresh (aK _)
 have nes:hh.objs.size≠e:=fun z=>by rw [z,he] at hfr;cases hfr
 refine h hh.objs.size _ hfr nes ?_
 have nE:∀ b w,H b=some w→(∀ φ,w≠.ext φ)→b≠e:=fun b w q nw=>cQ q he (nw _)
 have nS:∀ b w,H b=some w→b≠hh.objs.size:=fun b w q=>ah q hfr
 have at_:∀ b w,H b=some w→(∀ φ,w≠.ext φ)→upd (upd H hh.objs.size (XD hh.objs.size [(f,v)])) e (XE e C (some hh.objs.size)) b=some w:=fun b w q nw=>by
  rw [ai (nE b w q nw),ai (nS b w q)];exact q
 have un:Un X.fs [] H (upd (upd H hh.objs.size (XD hh.objs.size [(f,v)])) e (XE e C (some hh.objs.size))) hh h':=by
  refine ⟨fun b w q n _ _=>e3 b w (fun z=>by rw [z,he] at n;cases n) q,fun b w q n _ _=>⟨w.slots,e3 b w (fun z=>by rw [z,he] at n;cases n) q⟩,fun b w q n _=>?_,fun b w q _=>?_,
   fun b xs q=>at_ b _ q (fun _ z=>nomatch z),fun b w xs q=>at_ b _ q (fun _ z=>nomatch z),fun b ps q=>⟨#[],by rw [at_ b _ q (fun _ z=>nomatch z)];simp⟩⟩
  ·rw [ai (fun z=>by rw [z,he] at n;cases n),ai (bu (Heap.lt_size q))];exact n
  ·by_cases z:b=e
   ·exact ⟨_,by rw [z];exact e1⟩
   ·exact ⟨w,e3 b w z q⟩
 refine I.un (h':=h') un fun b w q=>?_
 by_cases z:b=e
 ·subst z;rw [aA] at q;cases q;exact rn e1 hc rfl hdat h1
 ·rw [ai z] at q;by_cases z2:b=hh.objs.size
  ·subst z2;rw [aA] at q;cases q;refine t8 e2 (fun g=>?_) fun g hg=>?_
   ·show iV (List.lookup g [(f,v)]) (if g=f then some u else none)
    by_cases y:g=f
    ·have hb:(g==f)=true:=beq_iff_eq.mpr y
     simp only [List.lookup,hb,if_pos y];exact rv
    ·have hb:(g==f)=false:=beq_eq_false_iff_ne.mpr y
     simp only [List.lookup,hb,if_neg y];trivial
   ·by_cases y:g=f
    ·simp [y]
    ·exact absurd (show (if g=f then some u else none)=none from if_neg y) hg
  ·rw [ai z2] at q;refine (I.hok b w q).stay (fun b' v' hc' r=>e3 b' v' ?_ r) (fun b' r=>at_ b' _ r (fun _ z=>nomatch z)) fun b' xs r=>at_ b' _ r (fun _ z=>nomatch z)
   rcases hc' with y | y
   ·rw [y];exact z
   ·exact nE b' _ y (fun _ z=>nomatch z)
theorem qy {Q:Unit→Shared→Prop} {fs:List (Str×V)} (I:Inv X pins σ H s) (c:kN X.K C fI) (hf:Fld f) (he:H e=some (XE e C (some dx))) (hd:H dx=some (XD dx fs)) (hne:dx≠e) (hl:fs.length≤1000) (rv:cM v u)
  (h:∀ s',Inv X pins σ (upd H dx (XD dx (eJ f v fs))) s'→Q () s'):wpAny (model X.prog X.w) A (setAttr (.ref e) f u) Q E s:=by
 obtain ⟨N,mN,x⟩:=c.at_ I.kIn
 obtain ⟨nm,q,bs,sn,sub,ab,col,dd,k0,k1,k2,k3,k5,hC⟩:=x.obj
 obtain ⟨o,vs,ho,hc,hdo,hdat,h1⟩:=pj I.hok he
 obtain ⟨mA,n1,rl,wi⟩:=wI I.hok hd
 obtain ⟨hh,gg,dr,tt,oo⟩:=s
 refine pM PySem.F.store_Exception hC x.ns x.sa ho hc fun A R tk t' hR=>?_
 refine pL PySem.F.store_Exception hC ho hc fun A T E' hT=>?_
 refine qC hC x.ns (hf.no x) hf.lk ho hc hdo hne n1 wi (by rw [au];exact hl) fun h' tk' e1 e3=>hT _ (hR _ (h _ ?_))
 have hex:∃ z,h'.get? dx=some z:=let ⟨z,_,_,r,_⟩:=e1;⟨z,r⟩
 refine I.write (h':=h') (x:=dx) (e:=dx) (by rw [hd];exact True.intro) (.inl rfl) (fun b w hb r=>e3 b w hb r) hex ?_
 refine t8 e1 (fun g=>?_) fun g hg=>?_
 ·show iV ((eJ f v fs).lookup g) (if g=f then some u else mA g)
  rw [iP];by_cases y:g=f
  ·rw [if_pos y,if_pos y];exact rv
  ·rw [if_neg y,if_neg y];exact rl g
 ·by_cases y:g=f
  ·rw [y];exact (g9 f v fs).1
  ·refine (g9 f v fs).2 g (wi g fun z=>hg ?_)
   show (if g=f then some u else mA g)=none
   rw [if_neg y];exact z
end
section
variable {M:Model} {A:Around} {E:Value→Shared→Prop} {env:Env}
variable {nm q:Str} {C N:Addr} {bs:List Value} {sn:List Str} {sub:List Value} {ab:Bool} {col:Option Bool} {dd:Option Addr} {k0 k1 k2 k3 k5:Option Value} {ni:String}
theorem uF {s:Shared} {x:Sem Value} {Q:Flow→Shared→Prop} (hh:A.handled=none)
  (h:wpAny M A x (fun v s1=>∃ (e:Addr) (nm q:Str) (N:Addr) (bs:List Value) (sn:List Str) (sub:List Value) (ab:Bool) (col:Option Bool) (dd:Option Addr) (k0 k1 k2 k3 k5:Option Value) (o:Obj) (vs:Array Value),
   v = .ref e∧s1.heap.get? C=some (excClassObj nm q C N bs bmE true sn sub ab col dd k0 k1 k2 k3 k5 "Exception.__new__") ∧
   s1.heap.get? e=some o∧o.cls = .ref C∧o.data = .fields vs∧vs[1]? = some .none∧E (.ref e) s1) E s) :
  wpAny M A (raiseStmt env (some x) none) Q E s:=by
 have hcB:∀ C:Addr,(Value.ref C::bmE).contains (.type "BaseException")=true:=fun C=>by rw [d7,show bmE.contains (.type "BaseException")=true from by decide +kernel,Bool.or_true]
 unfold raiseStmt;refine wpAny_bind (wpAny_mono h (fun v s1 h1=>?_) fun _ _ z=>z)
 obtain ⟨e,nm,q,N,bs,sn,sub,ab,col,dd,k0,k1,k2,k3,k5,o,vs,rfl,hC,he,hc,hd,hv,hE⟩:=h1
 obtain ⟨hp,g,d,tk,os⟩:=s1
 repeat (first
  | (with_reducible refine wpAny_loadPart_at he ?_;rw [hc])
  | (with_reducible refine wpAny_loadPart_at he ?_)
  | with_reducible refine wpAny_loadPart_at hC ?_
  | (with_reducible refine wpAny_isSubtype_exc hC ?_;rw [hcB])
  | with_reducible refine wpAny_field he hd hv ?_
  | wp_step)
 exact wpAny_raiseNew_none hh hE
end
section
variable {X:Cx} {C fI:Addr} {o value e:Expr} {f:Str} {pos pos':Pos} {ta tv:TE}
def sX1 (C:Addr) (ta tv:TE) (f:Str):TS:=fun D σ H=>tv σ H fun y H1=>ta σ H1 fun x H2=>∃ e,x = .ref e∧H2 e=some (XE e C none)∧∀ dx,H2 dx=none→dx≠e→D.nx σ (upd (upd H2 dx (XD dx [(f,y)])) e (XE e C (some dx)))
def sX2 (C:Addr) (ta tv:TE) (f:Str):TS:=fun D σ H=>tv σ H fun y H1=>ta σ H1 fun x H2=>∃ e dx fs,x = .ref e∧H2 e=some (XE e C (some dx))∧H2 dx=some (XD dx fs)∧dx≠e∧fs.length≤1000∧D.nx σ (upd H2 dx (XD dx (eJ f y fs)))
theorem ps_x1 (c:kN X.K C fI) (hf:Fld f) (ha:PE X o ta) (hv:PE X value tv) (hs:swapsWith value (some (.Attribute o f pos')) pos.line X.env=pure false):PS X (.Assign [.Attribute o f pos'] value pos) (sX1 C ta tv f):=by
 intro pins s σ H D I h;refine plainObj_wpAny_Assign_Attribute (thn (hv pins s σ H _ I h) fun u s1 ⟨y,H1,I1,ry,q⟩=>thn (ha pins s1 σ H1 _ I1 q) fun ov s2 ⟨x,H2,I2,rx,a,ex,ea,q2⟩=>?_) hs
 subst ex;obtain rfl:ov=Value.ref a:=rx
 exact pD I2 c hf ea ry fun dx s3 n ne I3=>⟨σ,_,I3,q2 dx n ne⟩
theorem ps_x2 (c:kN X.K C fI) (hf:Fld f) (ha:PE X o ta) (hv:PE X value tv) (hs:swapsWith value (some (.Attribute o f pos')) pos.line X.env=pure false):PS X (.Assign [.Attribute o f pos'] value pos) (sX2 C ta tv f):=by
 intro pins s σ H D I h;refine plainObj_wpAny_Assign_Attribute (thn (hv pins s σ H _ I h) fun u s1 ⟨y,H1,I1,ry,q⟩=>thn (ha pins s1 σ H1 _ I1 q) fun ov s2 ⟨x,H2,I2,rx,a,dx,fs,ex,ea,ed,ne,l,q2⟩=>?_) hs
 subst ex;obtain rfl:ov=Value.ref a:=rx
 exact qy I2 c hf ea ed ne l ry fun s3 I3=>⟨σ,_,I3,q2⟩
end
def kp (k p:V):List (Str×V):=[("kind",k),("place",p)]
def ki (C:Addr):Sp:=fun vs H Q _=>∃ (e:Addr) (k p:V),vs=[.ref e,k,p]∧H e=some (XE e C none)∧∀ dx H',dx≠e→H' e=some (XE e C (some dx))→H' dx=some (XD dx (kp k p))→Q .non H'
theorem ij {P:Program} {w:World} {H:Hp} {h:Heap} {a:Addr} {o:HO} (x:dZ P w H h a o):∃ ob,h.get? a=some ob:=by
 cases o with
 | lst xs=>obtain ⟨_,_,_,_,e⟩:=x;exact ⟨_,e⟩
 | tup xs=>obtain ⟨_,_,_,_,e,_⟩:=x;exact ⟨_,e⟩
 | dK kvs=>obtain ⟨_,_,_,_,o,_,_,e,_⟩:=x;exact ⟨_,e⟩
 | dT kvs=>obtain ⟨_,_,_,_,o,_,_,e,_⟩:=x;exact ⟨_,e⟩
 | set S n=>obtain ⟨o,_,_,_,e,_⟩:=x;exact ⟨_,e⟩
 | ins C dx fs=>obtain ⟨_,_,_,e,_⟩:=x;exact ⟨_,e⟩
 | own y=>obtain ⟨_,e⟩:=x;exact ⟨_,e⟩
 | xd fs=>obtain ⟨_,⟨_,_,_,e,_⟩,_⟩:=x;exact ⟨_,e⟩
 | rng lo hi=>obtain ⟨_,_,_,e⟩:=x;exact ⟨_,e⟩
 | frz ob u=>obtain ⟨e,_⟩:=x;exact ⟨_,e⟩
 | tbl ps=>exact ⟨_,x⟩
 | met f y=>exact ⟨_,x⟩
 | ext φ=>obtain ⟨_,e,_⟩:=x;exact e
def Err (E:XK) (C:Addr) (k p:V):Prop:=∀ H' dx,H' dx=some (XD dx (kp k p))→E (.ref C) (some dx) H'
def yz (C:Addr) (E:XK) (t:TA):TS:=fun _ σ H=>t σ H fun vs _=>∃ k p,vs=[k,p]∧Err E C k p
section
variable {X:Cx} {C fI:Addr} {fd:FuncData} {x:Str} {np cpos pos:Pos} {a b:Expr} {E:XK} {t:TA} {k:Nat}
theorem dI (c:kN X.K C fI) (F:bt X.prog X.w X.K X.mg X.base CX0 k fI fd ["self","kind","place"] (ki C)) (hbi:cB X.K fd ["self","kind","place"] []) (hr:cq (k+1) X.A) (hfl:ib X E) (hxx:X.ex=[]) (hg:Gl X x) (hm:X.mg x=some (.ref C))
  (ha:PA X [a,b] t) (hdb:(x==("__debug__" : Str))=false:=by decide) (hst:starEach [a,b] X.env=(false,eval a X.env)::starEach [b] X.env:=by rfl) (hpl:(backTo cpos (starEach [b] X.env)).any (·.1)=false:=by rfl) :
  PS X (.Raise (some (.Call (.Name x np) [a,b] [] cpos)) none pos) (yz C E t):=by
 intro pins s σ H D I h;rw [arm_exec_Raise];refine wpAny_bind (wpAny_standAt (uF (C:=C) hr.hd (wpAny_bind (m:=eval (.Call (.Name x np) [a,b] [] cpos) X.env) ?_)))
 refine wpAny_Call_Name_kw (fW I hg hm ?_ hdb)
 refine PySem.W.callWith_K (h₀:=X.base) I.ok.mod.kin c.kp (thn (ha cpos pins s σ H _ I h) fun us s1 ⟨vs,H1,I1,r,kv,pv,ev,q⟩=>⟨I1.kIn,?_⟩) hst hpl
 subst ev;cases r with
 | @cons _ u1 _ r1 rv1 rr1 =>
 cases rr1 with
 | @cons _ u2 _ r2 rv2 rr2 =>
 cases rr2;obtain ⟨N,mN,xa⟩:=c.at_ I1.kIn
 obtain ⟨nm,q',bs,sn,sub,ab,col,dd,k0,k1,k2,k3,k5,hC⟩:=xa.obj
 have fn:=c.fn
 unfold PySem.W.isFn at fn;have fn2:=beq_iff_eq.mp fn
 unfold PySem.W.typeIn at fn2;obtain ⟨oI,hoI,hcI⟩:=Option.map_eq_some_iff.mp fn2
 obtain ⟨hh,gg,dr,tt,oo⟩:=s1
 refine wpAny_call_exc_init PySem.F.excBase_Exception hC xa.ns xa.ini (I1.kIn _ _ hoI) hcI (fun h' e md=>?_) (by show 2≤sizeLine;decide)
 obtain ⟨tu,e1,e2,e3⟩:=md.there
 have he:H1 e=none:=by
  cases z:H1 e with
  | none=>rfl
  | some w =>
   obtain ⟨oz,hz⟩:=ij (I1.hok e w z)
   rw [md.new] at hz;cases hz
 have y:fU X pins e:=hZ I1 hxx md.new
 have I2:Inv X pins σ (upd H1 e (XE e C none)) ⟨h',gg,dr,tt,oo⟩ :=
  kQ (I1.kept (h':=h') (t':=tt) md.keeps) y he (rn e1 rfl rfl rfl rfl)
 have hsp:ki C [.ref e,kv,pv] (upd H1 e (XE e C none)) (fun v H'=>v = .non∧∃ dx,dx≠e∧H' e=some (XE e C (some dx))∧H' dx=some (XD dx (kp kv pv))) E0 :=
  ⟨e,kv,pv,rfl,aA,fun dx H' z1 z2 z3=>⟨rfl,dx,z1,z2,z3⟩⟩
 refine wpAny_call (codeAny_mono (F.run _ X.stack _ _ ⟨[.ref e,u1,u2],[]⟩ [.ref e,u1,u2] [.ref e,kv,pv] _ _ (hr.make C [u1,u2] []) (I2.env0.make C [u1,u2] []) ?_ (.cons rfl (.cons rv1 (.cons rv2 .nil))) hsp) fun r s' hq=>?_)
 ·exact hbi _ [.ref e,u1,u2] I2.kIn rfl
 ·cases r with
  | error x=>exact hq.elim
  | ok fl =>
   cases fl with
   | next=>exact False.elim hq
   | brk=>exact False.elim hq
   | cont=>exact False.elim hq
   | ret u =>
    obtain ⟨v,H',I3,rv,ev,dx,z1,z2,z3⟩:=I2.after hq
    subst ev;refine ⟨rv,wpAny_bind (wpAny_standAt (wpAny_pure ?_))⟩
    obtain ⟨N3,mN3,xa3⟩:=c.at_ I3.kIn
    obtain ⟨nm3,q3,bs3,sn3,sub3,ab3,col3,dd3,j0,j1,j2,j3,j5,hC3⟩:=xa3.obj
    obtain ⟨o,vs,ho,hc,hd,hdat,h1⟩:=pj I3.hok z2
    refine ⟨e,nm3,q3,N3,bs3,sn3,sub3,ab3,col3,dd3,j0,j1,j2,j3,j5,o,vs,rfl,hC3,ho,hc,hdat,h1,?_⟩
    exact hfl pins σ (m9 H' e) s' e C dx (qi I3 z2) (.inl ⟨o,vs,ho,hc,hd,hdat,h1⟩) i7 y (q _ dx (by rw [fK z1];exact z3))
end
abbrev Xm (X:Cx) (v:Value) (xe:Value→Shared→Prop):Cx:={ X with A:=X.A.mark (some v),calm:=false,xe:=xe }
section
variable {X:Cx} {pins:List (Addr×Obj)} {σ:St} {H:Hp} {s:Shared} {v:Value} {xe:Value→Shared→Prop}
theorem ok_in (ok:X.Ok):(Xm X v xe).Ok :=
 ⟨ok.mod,ok.kind,ok.glob,ok.blt,ok.above,ok.inj,ok.has,ok.cab,fun z=>Bool.noConfusion z,ok.frames,ok.stk,ok.exf,ok.bs,ok.bsz,ok.noex,ok.exfs,ok.funs,ok.frf⟩
theorem oP (I:Inv X pins σ H s):Inv (Xm X v xe) pins σ H s:=⟨ok_in I.ok,I.os,I.bare,I.base,I.loc,I.cell,I.free,I.freeC,I.pin,I.hok,I.len⟩
theorem rZ (ok:X.Ok) (I:Inv (Xm X v xe) pins σ H s):Inv X pins σ H s:=⟨ok,I.os,I.bare,I.base,I.loc,I.cell,I.free,I.freeC,I.pin,I.hok,I.len⟩
def fQ (X:Cx):St:=List.replicate X.N.length none
theorem qP (I:Inv X pins σ H s):Inv X pins (fQ X) H s:=I.weak (by unfold fQ;rw [fw,I.len]) fun i v e=>by
 unfold fQ at e;rw [eX] at e;split at e<;>cases e
theorem qO {h':Heap} {m':Str→Option Value} {t':Nat} (I:Inv X pins σ H s) (hn:h'.Ns X.env.locals m') (hs:Heap.SameBut X.env.locals s.heap h'):Inv X pins (fQ X) H { s with heap:=h',toks:=t' }:=by
 have nl:∀ b o,X.s_0.heap.get? b=some o→b≠X.env.locals:=fun b o q=>bu (aT (Heap.lt_size q) I.ok.above)
 refine ⟨I.ok,I.os,I.bare,⟨fun b o e n hb hx=>?_,fun b o e n hb hx=>?_,I.base.free,fun b o e hx=>?_,I.base.tups,I.base.frzs,I.base.tbls⟩,⟨m',hn,fun j y v' e1 e2 e3=>?_⟩,fun y c e=>?_,I.free,I.freeC,fun p hp=>?_,fun b o e=>?_,by unfold fQ;rw [fw]⟩
 ·exact (hs.2 b (nl b o e)).trans (I.base.keep b o e n hb hx)
 ·obtain ⟨sl,q⟩:=I.base.slot b o e n hb hx
  exact ⟨sl,(hs.2 b (nl b o e)).trans q⟩
 ·obtain ⟨o',q⟩:=I.base.there b o e hx
  exact ⟨o',(hs.2 b (nl b o e)).trans q⟩
 ·unfold fQ at e2;rw [eX] at e2;split at e2<;>cases e2
 ·obtain ⟨w',z⟩:=I.cell y c e
  exact ⟨w',z.sameBut hs (I.cne y c e)⟩
 ·obtain ⟨e,n,ne,nf,d⟩:=I.pin p hp
  exact ⟨(hs.2 p.1 ne).trans e,n,ne,nf,d⟩
 ·refine (I.hok b o e).stay (fun c w' hc q=>(hs.2 c ?_).trans q) (fun _ q=>q) fun _ _ q=>q
  rintro rfl
  rcases hc with z | hc
  ·rw [←z,I.free] at e;cases e
  ·rw [I.free] at hc;cases hc
end
abbrev Xt (X:Cx) (pn:List (Addr×Obj)) (xe:Value→Shared→Prop):Cx:={ X with pn:=pn,xe:=xe }
section
variable {X:Cx} {pins pins':List (Addr×Obj)} {σ:St} {H:Hp} {s:Shared} {xe:Value→Shared→Prop}
theorem ok_t (ok:X.Ok) {pn:List (Addr×Obj)}:(Xt X pn xe).Ok :=
 ⟨ok.mod,ok.kind,ok.glob,ok.blt,ok.above,ok.inj,ok.has,ok.cab,ok.hd,ok.frames,ok.stk,ok.exf,ok.bs,ok.bsz,ok.noex,ok.exfs,ok.funs,ok.frf⟩
theorem ok_u {pn:List (Addr×Obj)} (ok:(Xt X pn xe).Ok):X.Ok :=
 ⟨ok.mod,ok.kind,ok.glob,ok.blt,ok.above,ok.inj,ok.has,ok.cab,ok.hd,ok.frames,ok.stk,ok.exf,ok.bs,ok.bsz,ok.noex,ok.exfs,ok.funs,ok.frf⟩
theorem pW (I:Inv X pins σ H s):Inv (Xt X (X.pn++pins) xe) [] σ H s :=
 ⟨ok_t I.ok,I.os,I.bare,I.base,I.loc,I.cell,I.free,I.freeC,fun p hp=>I.pin p (by simpa using hp),I.hok,I.len⟩
theorem hJ (I:Inv (Xt X (X.pn++pins) xe) pins' σ H s):Inv X pins σ H s :=
 ⟨ok_u I.ok,I.os,I.bare,I.base,I.loc,I.cell,I.free,I.freeC,fun p hp=>I.pin p (az _ hp),I.hok,I.len⟩
theorem qk {e:Addr} (y:fU (Xt X (X.pn++pins) xe) pins' e):fU X pins e:=⟨y.new,y.loc,y.cel,fun p hp=>y.pin p (az _ hp),y.out⟩
theorem u7 {D:iW} {f:Flow} (ok:X.Ok) (h:SP (Xt X (X.pn++pins) xe) pins' D f s):SP X pins D f s:=by
 cases f with
 | next=>obtain ⟨σ',H',I,q⟩:=h;exact ⟨σ',H',hJ I,q⟩
 | brk=>obtain ⟨σ',H',I,q⟩:=h;exact ⟨σ',H',hJ I,q⟩
 | cont=>obtain ⟨σ',H',I,q⟩:=h;exact ⟨σ',H',hJ I,q⟩
 | ret u=>obtain ⟨v,σ',H',I,r,q⟩:=h;exact ⟨v,σ',H',hJ I,r,q⟩
end
def txe (X:Cx) (pins:List (Addr×Obj)) (D:iW) (hs:List ExceptHandler):Value→Shared→Prop:=fun e s1 =>
 wpAny (model X.prog X.w) X.A (noteFrame e X.env) (fun _ s2=>wpAny (model X.prog X.w) X.A (setFlight e none) (fun _ s3=>wpAny (model X.prog X.w) X.A (handleBy e X.env hs) (SP X pins D) X.xe s3) X.xe s2) X.xe s1
def Rt (D:iW):iW:={ nx:=fun _ _=>False,rt:=D.rt }
theorem sR {X:Cx} {pins:List (Addr×Obj)} {v:Value} {xe:Value→Shared→Prop} {D:iW} {f:Flow} {s:Shared} (ok:X.Ok) (h:SP (Xm X v xe) pins (Rt D) f s):SP X pins D f s:=by
 cases f with
 | next=>obtain ⟨_,_,_,q⟩:=h;exact q.elim
 | brk=>obtain ⟨_,_,_,q⟩:=h;exact q.elim
 | cont=>obtain ⟨_,_,_,q⟩:=h;exact q.elim
 | ret u=>obtain ⟨v,σ',H',I,r,q⟩:=h;exact ⟨v,σ',H',rZ ok I,r,q⟩
section
variable {X:Cx} {C fI:Addr} {x n:Str} {np hpos pos:Pos} {body:List Stmt} {b0:Stmt} {suite:List Stmt} {tb:XK→TS} {ts:TS} {i:Nat}
theorem ui {e dx:Addr} {pins:List (Addr×Obj)} {σ:St} {H:Hp} {s:Shared} {R:Result→Shared→Prop} (c:kN X.K C fI) (hg:Gl X x) (hm:X.mg x=some (.ref C)) (hdb:(x==("__debug__" : Str))=false)
  (I:Inv X pins σ H s) (ld:iC s.heap e C dx) (h:R (.ok .brk) s):codeAny (model X.prog X.w) (X.A.mark (some (.ref e))) (.handlers (.ref e) [.ExceptHandler (some (.Name x np)) none [] hpos] X.env) R s:=by
 refine codeAny_handlers_test (fW (X:=Xm X (.ref e) fun _ _=>False) (oP I) hg hm ?_ hdb)
 obtain ⟨N,mN,xa⟩:=c.at_ I.kIn
 obtain ⟨nm,q',bs,sn,sub,ab,col,dd,k0,k1,k2,k3,k5,hC⟩:=xa.obj
 obtain ⟨o,vs,T,oT,tss,he,hc,hdx,hd,h1,hTe,hT,hdT,h3⟩:=ld
 obtain ⟨hh,gg,dr,tt,oo⟩:=s
 exact wpAny_excMatches_sub_self hC he hc (by decide +kernel) h
end
end L2.XC
namespace L2
open PySem PySem.Spec PyProof.Rows
theorem iT:bootBuiltins "reversed" = some (.type "reversed"):=by decide +kernel
section
variable {X:Cx}
theorem yE {tg:Expr} {pins:List (Addr×Obj)} {σ:St} {H:Hp} {s:Shared} {R:It→Hp→Prop} {J:It} {tn:Nat→Heap→Prop} {tk:Nat} (I:Inv X pins σ H s) (o:Obj)
  (T:Turn X.prog X.w X.K tg J [s.heap.objs.size] s.heap.objs.size tn) (st:tn 0 (s.heap.push o)) (q:R J H):PIE X pins σ tg R (.ref s.heap.objs.size) { s with heap:=s.heap.push o,toks:=tk }:=by
 refine ⟨s.heap.objs.size,[s.heap.objs.size],tn,J,H,rfl,I.kept fun b ob e=>Heap.get?_push_of_some _ e,T,st,fun b hb=>?_,q⟩
 have e:b=s.heap.objs.size:=by simpa using hb
 subst e;exact I.fpOk (aK _) (I.hok.fresh (aK _))
end
def Itv (K:Fg_) (a:Addr) (n:Nat):It :=
 ⟨fun i H=>i<n∧∃ (xs:List V) (x:V),SqL K H a xs∧xs[n - 1 - i]? = some x,fun i H x H'=>H'=H∧∀ xs,SqL K H a xs→xs[n - 1 - i]? = some x,fun i _=>n≤i⟩
theorem uf {P:Program} {w:World} {K:Fg_} {tg:Expr} (a it:Addr) (n:Nat):Turn P w K tg (Itv K a n) [it] it (fun i h=>i≤n∧h.IsRevIter it a ((n:Int) - 1 - (i:Nat))) where
 mem:=by simp
 obj:=fun i h st b hb=>by
  have e:b=it:=by simpa using hb
  subst e;obtain ⟨_,o,e,c,d⟩:=st
  exact ⟨o,e,fun v z=>by rw [d] at z;cases z⟩
 keep:=fun i h h' st k=>⟨st.1,st.2.at fun o e=>k it (by simp) o e⟩
 item:=by
  intro X hP hw hK hc i pins s σ H E I hf st hg;subst hP hw hK;obtain ⟨hin,xs,x,hq,hx⟩:=hg
  obtain ⟨its,rv,p,hz⟩:=I.list hq
  obtain ⟨u,hu,ru⟩:=rv.get hx
  obtain ⟨f0,f1,f2,f3,f4,f5⟩:=hf it (by simp)
  obtain ⟨_,hit⟩:=st
  have e1:(n:Int) - 1 - ((i:Nat):Int)=((n - 1 - i:Nat):Int):=by omega
  rw [e1] at hit;refine wpAny_pyNext_rev_item hit p.isList (x:=u) (by simpa using hu) fun h' st' sb=>?_
  have e2:((n - 1 - i:Nat):Int) - 1=(n:Int) - 1 - ((i+1:Nat):Int):=by omega
  rw [e2] at st'
  have I1:Inv X pins σ H { s with heap:=h' }:=I.turned (t':=s.toks) (fun b o hb e=>(sb.2 b hb).trans e) f0 f1 f3 f4 f5
  obtain ⟨o,e,c,d⟩:=id st'
  exact ⟨u,rfl,go_of (s:={ s with heap:=h' }) e c d (by decide) ⟨x,H,I1,ru,⟨rfl,fun ys hy=>by rw [I.list_inj hy hq];exact hx⟩,⟨hin,st'⟩,fun b hb=>(hf b hb).1⟩⟩
 done:=by
  intro X hP hw hK hc i pins s σ H E I hf st hg;subst hP hw hK;obtain ⟨f0,f1,f2,f3,f4,f5⟩:=hf it (by simp)
  obtain ⟨hin,hit⟩:=st
  have hge:n≤i:=hg
  have e1:(n:Int) - 1 - ((i:Nat):Int) = -1:=by omega
  rw [e1] at hit;exact wpAny_pyNext_rev_end (I.ok.hd hc) hit fun h' eb=>⟨rfl,I.turned (t':=s.toks) (fun b o hb e=>eb b o hb e) f0 f1 f3 f4 f5⟩
 self:=fun A i s Q E st h=>wpAny_pyIter_revIter st.2 h
def iRev (K:Fg_) (ta:TA):TI:=fun σ H R=>ta σ H fun vs H1=>∃ (a:Addr) (xs:List V),vs=[.ref a]∧SqL K H1 a xs∧R (Itv K a xs.length) H1
section
variable {X:Cx} {tg:Expr}
theorem pP {e:Expr} {ta:TA} {p pos:Pos} (hg:Gl X "reversed") (hm:X.mg "reversed" = none) (ha:PA X [e] ta) (hs:starEach [e] X.env=[(false,eval e X.env)]:=by rfl):PI X tg (.Call (.Name "reversed" p) [e] [] pos) (iRev X.K ta):=by
 intro pins s σ H R I h;refine Call_ (jl I hg hm iT (PyProof.Rows.callWith_type1 (thn (ha pos pins s σ H _ I h) fun us s1 ⟨vs,H1,I1,r1,q1⟩=>?_) hs rfl))
 obtain ⟨a,xs,e,hq,q⟩:=q1
 subst e;cases r1 with
 | cons r rr =>
  cases rr;cases r;obtain ⟨its,rv,p',hz⟩:=I1.list hq
  have hl:=rv.length
  have e1:((its.toArray.size:Nat):Int) - 1=(xs.length:Int) - 1 - ((0:Nat):Int):=by simp only [aM];omega
  refine call_reversed_list p'.isList (wpAny_pyIter_revIter (l:=a) (i:=((its.toArray.size:Nat):Int) - 1) ⟨_,Heap.get?_push_size _ rfl,rfl,rfl⟩ ?_)
  refine yE (tk:=s1.toks) I1 _ (uf a _ xs.length) ⟨aW _,?_⟩ q
  rw [←e1];exact ⟨_,Heap.get?_push_size _ rfl,rfl,rfl⟩
end
theorem wo {K:Fg_} {a:Addr} {xs:List V} {g:TG} {tb:TS} {D:iW} {σ:St} {H:Hp} (Pv:Nat→St→Hp→Prop) (h0:Pv 0 σ H) (hl:∀ i σ H,i≤xs.length→Pv i σ H→SqL K H a xs)
  (hs:∀ i x σ H,i<xs.length→xs[xs.length - 1 - i]? = some x→Pv i σ H→g x σ H fun σ2 H2=>tb { D with nx:=Pv (i+1),ct:=Pv (i+1),bk:=D.nx } σ2 H2) (hd:∀ σ H,Pv xs.length σ H→D.nx σ H) :
  ∃ W:Nat→Nat→St→Hp→Prop,(∃ m,W 0 m σ H)∧∀ i m σ H,W i m σ H →
   ((Itv K a xs.length).stop i H∧D.nx σ H)∨((Itv K a xs.length).go i H∧∃ N:St→Hp→Prop,(∀ σ' H',N σ' H'→∃ m',m'<m∧W (i+1) m' σ' H')∧∀ x H',(Itv K a xs.length).yld i H x H'→g x σ H' fun σ2 H2=>tb { D with nx:=N,ct:=N,bk:=D.nx } σ2 H2):=by
 refine ⟨fun i m σ H=>m=xs.length - i∧i≤xs.length∧Pv i σ H,⟨xs.length,by simp,aW _,h0⟩,?_⟩
 rintro i m σ H ⟨rfl,hi,p⟩
 have q:=hl i σ H hi p
 by_cases hlt:i<xs.length
 ·refine .inr ⟨⟨hlt,xs,xs[xs.length - 1 - i],q,aJ _⟩,Pv (i+1),fun σ' H' p'=>⟨xs.length - (i+1),by omega,rfl,hlt,p'⟩,fun x H' y=>?_⟩
  obtain ⟨e,y⟩:=y
  subst e;exact hs i x σ _ hlt (y xs q) p
 ·have e:i=xs.length:=by omega
  subst e;exact .inl ⟨aK _,hd σ H p⟩
end L2
namespace HT
open PySem PyProof.Rows
open PySem.AutoSeq1 (wpAny_loadPart')
open PySem.MeetsSeq PySem.MeetsSeq2 PySem.MeetsSeq3
def lexLe:List Int→List Int→Bool
 | [],_=>true
 | _::_,[]=>false
 | x::xs,y::ys=>if x=y then lexLe xs ys else decide (x≤y)
theorem uE (A:Around) (s:Shared) (a:Int) (t:Tok) (c:Int) (u:Tok) (prog:Program) (w:World) (E:Value→Shared→Prop) (Q:Value→Shared→Prop) (h:Q (.bool (decide (a≤c))) s) :
  wpAny (model prog w) A (richCompare .LtE (.int a t) (.int c u)) Q E s :=
 (PyProof.Rows.le_int h:wpAny (model prog w) A (compareOp .LtE (.int a t) (.int c u)) Q E s)
theorem jK:∀ {vs:List Value} {ns:List Int} {i:Nat},IntsAre vs ns→i<ns.length→∃ t,vs[i]? = some (.int (ns[i]?.getD 0) t)
 | _,_,0,.cons n t _,_=>⟨t,by simp⟩
 | _,_,i+1,.cons n t r,h=>by
  obtain ⟨u,e⟩:=jK (i:=i) r (by simpa using h)
  exact ⟨u,by simpa using e⟩
theorem wc (l b:Addr) (items items2:Array Value) (n n2:Nat) (ns ms:List Int) (hi:IntsAre items.toList ns) (hj:IntsAre items2.toList ms) (k:Nat) :
  ∀ i:Nat,i≤ns.length→i≤ms.length→ns.length - i=k→Meets (Builtin.«list.__eq__.loop» ⟨[.ref l,.ref b,rawInt i,rawInt 1],[]⟩)
   (fun _ R s=>s.heap.get? l=some { cls:=.type "list",dict:=none,data:=.seq items n,slots:=#[] }∧s.heap.get? b=some { cls:=.type "list",dict:=none,data:=.seq items2 n2,slots:=#[] } ∧
    R (.ok (.ret (.bool (lexLe (ns.drop i) (ms.drop i))))) s):=by
 have z1:items.size=ns.length:=by rw [←hi.length];simp
 have z2:items2.size=ms.length:=by rw [←hj.length];simp
 induction k with
 | zero =>
  intro i b1 b2 hk prog w A R s h;obtain ⟨hp,g,d,tk,os⟩:=s
  obtain ⟨hl,hb,h⟩:=h
  have e0:i=ns.length:=by omega
  subst e0;wp_walk using wpAny_loadPart' hl,wpAny_loadPart' hb
  have hi1:items[((ns.length:Nat):Int).toNat]? = none:=by simp;omega
  rw [hi1];wp_walk using wpAny_loadPart' hl,wpAny_loadPart' hb
  show R (.ok (.ret (.bool (decide (items.size≤items2.size))))) _
  rw [ag (by omega)]
  rw [dX] at h;exact h
 | succ k ih =>
  intro i b1 b2 hk prog w A R s h;obtain ⟨hp,g,d,tk,os⟩:=s
  obtain ⟨hl,hb,h⟩:=h
  have l1:i<ns.length:=by omega
  obtain ⟨t,e1⟩:=jK hi l1
  have f1:items[((i:Nat):Int).toNat]? = some (.int (ns[i]?.getD 0) t):=by
   rw [cW,←cv];exact e1
  have d1:ns.drop i=ns[i]?.getD 0::ns.drop (i+1):=by rw [bj l1,aJ l1];rfl
  wp_walk using wpAny_loadPart' hl,wpAny_loadPart' hb
  rw [f1];by_cases l2:i<ms.length
  ·obtain ⟨u,e2⟩:=jK hj l2
   have f2:items2[((i:Nat):Int).toNat]? = some (.int (ms[i]?.getD 0) u):=by
    rw [cW,←cv];exact e2
   have d2:ms.drop i=ms[i]?.getD 0::ms.drop (i+1):=by rw [bj l2,aJ l2];rfl
   rw [d1,d2] at h;rw [f2];generalize ns[i]?.getD 0=a at h f1;generalize ms[i]?.getD 0=c at h f2;have hc:((i:Int)+1)=((i+1:Nat):Int):=by push_cast;rfl
   obtain ⟨e,he,hiff⟩:=p7 A.in1 ⟨hp,g,d,tk,os⟩ a t c u
   refine wpAny_bind (he prog w _ _ ?_)
   cases e with
   | true =>
    have hac:a=c:=hiff.mp rfl
    have h':R (.ok (.ret (.bool (lexLe (ns.drop (i+1)) (ms.drop (i+1)))))) ⟨hp,g,d,tk,os⟩:=by
     simpa [lexLe,hac] using h
    wp_walk
    rw [hc];exact ⟨plainId_quiet plain_eq_loop _,codeAny_builtin entry_eq_loop (by
     rw [Around.under_plainId plain_eq_loop _];exact ih (i+1) (by omega) (by omega) (by omega) prog w A R _ ⟨hl,hb,h'⟩)⟩
   | false =>
    have hac:¬a=c:=fun q=>absurd (hiff.mpr q) aI
    have h':R (.ok (.ret (.bool (decide (a≤c))))) ⟨hp,g,d,tk,os⟩:=by
     simpa [lexLe,hac] using h
    have hri:=uE A.in1 ⟨hp,g,d,tk,os⟩ a t c u prog w
    wp_walk using wpAny_loadPart' hl,wpAny_loadPart' hb
    rw [f1,f2];wp_walk using hri
    exact h'
  ·have e2:i=ms.length:=by omega
   have hi2:items2[((i:Nat):Int).toNat]? = none:=by simp;omega
   rw [hi2];wp_walk using wpAny_loadPart' hl,wpAny_loadPart' hb
   show R (.ok (.ret (.bool (decide (items.size≤items2.size))))) _
   rw [af (by omega)]
   rw [d1,e2,dX] at h;exact h
theorem list_le_ints (l b:Addr) (items items2:Array Value) (n n2:Nat) (ns ms:List Int) (hi:IntsAre items.toList ns) (hj:IntsAre items2.toList ms) :
  Meets (Builtin.«list.__le__» ⟨[.ref l,.ref b],[]⟩)
   (fun _ R s=>s.heap.get? l=some { cls:=.type "list",dict:=none,data:=.seq items n,slots:=#[] }∧s.heap.get? b=some { cls:=.type "list",dict:=none,data:=.seq items2 n2,slots:=#[] } ∧
    R (.ok (.ret (.bool (lexLe ns ms)))) s):=by
 intro prog w A R s h;obtain ⟨hp,g,d,tk,os⟩:=s
 obtain ⟨hl,hb,h⟩:=h
 have f3:=AutoSeq1.sub_list_list
 wp_walk using wpAny_loadPart' hl,wpAny_loadPart' hb
 exact ⟨plainId_quiet plain_eq_loop _,codeAny_builtin entry_eq_loop (by
  rw [Around.under_plainId plain_eq_loop _];exact wc l b items items2 n n2 ns ms hi hj _ 0 (aW _) (aW _) rfl prog w A R _ ⟨hl,hb,by simpa using h⟩)⟩
end HT
namespace L2
open PySem PySem.Spec PyProof.Rows
section
variable {X:Cx}
def rLeL:R2:=fun x y H Q=>∃ a b ns ms,x = .ref a∧y = .ref b∧H a=some (.lst (ns.map V.int))∧H b=some (.lst (ms.map V.int))∧Q (.bl (HT.lexLe ns ms)) H
theorem yJ (hu:X.A.units<cLine):OpR X (compareOp .LtE) rLeL:=by
 intro pins s σ H x y v u Q I rx ry h;obtain ⟨a,b,ns,ms,rfl,rfl,ha,hb,q⟩:=h
 cases rx;cases ry;obtain ⟨z,its,n,r,hl,e⟩:=I.lstM ha
 obtain ⟨z2,its2,n2,r2,hl2,e2⟩:=I.lstM hb
 have i1:IntsAre its.toArray.toList ns:=iy r
 have i2:IntsAre its2.toArray.toList ms:=iy r2
 show wpAny (model X.prog X.w) X.A (richCompare .LtE (.ref a) (.ref b)) _ _ s
 exact richCompare_meets_room (op:=.LtE) ⟨_,e,rfl⟩ ⟨_,e2,rfl⟩ PySem.F.slot_list_le PySem.F.entry_list_le (PySem.F.args_list_le_2 _ _) (HT.list_le_ints a b its.toArray its2.toArray n n2 ns ms i1 i2)
  ⟨e,e2,(fun z=>nomatch z),⟨.bl (HT.lexLe ns ms),H,I,rfl,q⟩⟩ hu
end
end L2
namespace HT
open PySem PyProof.Rows
open PySem.AutoSeq1 (wpAny_loadPart')
open PySem.MeetsSeq PySem.MeetsSeq2 PySem.MeetsSeq3
def lexLtI:List Int→List Int→Bool
 | [],[]=>false
 | [],_::_=>true
 | _::_,[]=>false
 | x::xs,y::ys=>if x=y then lexLtI xs ys else decide (x<y)
theorem sZ (A:Around) (s:Shared) (a:Int) (t:Tok) (c:Int) (u:Tok) (prog:Program) (w:World) (E:Value→Shared→Prop) (Q:Value→Shared→Prop) (h:Q (.bool (decide (a<c))) s) :
  wpAny (model prog w) A (richCompare .Lt (.int a t) (.int c u)) Q E s :=
 (PyProof.Rows.lt_int h:wpAny (model prog w) A (compareOp .Lt (.int a t) (.int c u)) Q E s)
theorem wa (l b:Addr) (items items2:Array Value) (n n2:Nat) (ns ms:List Int) (hi:IntsAre items.toList ns) (hj:IntsAre items2.toList ms) (k:Nat) :
  ∀ i:Nat,i≤ns.length→i≤ms.length→ns.length - i=k→Meets (Builtin.«list.__eq__.loop» ⟨[.ref l,.ref b,rawInt i,rawInt 0],[]⟩)
   (fun _ R s=>s.heap.get? l=some { cls:=.type "list",dict:=none,data:=.seq items n,slots:=#[] }∧s.heap.get? b=some { cls:=.type "list",dict:=none,data:=.seq items2 n2,slots:=#[] } ∧
    R (.ok (.ret (.bool (lexLtI (ns.drop i) (ms.drop i))))) s):=by
 have z1:items.size=ns.length:=by rw [←hi.length];simp
 have z2:items2.size=ms.length:=by rw [←hj.length];simp
 induction k with
 | zero =>
  intro i b1 b2 hk prog w A R s h;obtain ⟨hp,g,d,tk,os⟩:=s
  obtain ⟨hl,hb,h⟩:=h
  have e0:i=ns.length:=by omega
  subst e0;wp_walk using wpAny_loadPart' hl,wpAny_loadPart' hb
  have hi1:items[((ns.length:Nat):Int).toNat]? = none:=by simp;omega
  rw [hi1];wp_walk using wpAny_loadPart' hl,wpAny_loadPart' hb
  show R (.ok (.ret (.bool (decide (items.size<items2.size))))) _
  rw [dX] at h;cases hm:ms.drop ns.length with
  | nil =>
   have:=List.drop_eq_nil_iff.mp hm
   rw [hm] at h;rw [af (by omega)]
   exact h
  | cons y ys =>
   have l3:ns.length<ms.length:=fF fun z=>by rw [List.drop_eq_nil_iff.mpr z] at hm;cases hm
   rw [hm] at h;rw [ag (by omega)]
   exact h
 | succ k ih =>
  intro i b1 b2 hk prog w A R s h;obtain ⟨hp,g,d,tk,os⟩:=s
  obtain ⟨hl,hb,h⟩:=h
  have l1:i<ns.length:=by omega
  obtain ⟨t,e1⟩:=jK hi l1
  have f1:items[((i:Nat):Int).toNat]? = some (.int (ns[i]?.getD 0) t):=by
   rw [cW,←cv];exact e1
  have d1:ns.drop i=ns[i]?.getD 0::ns.drop (i+1):=by rw [bj l1,aJ l1];rfl
  wp_walk using wpAny_loadPart' hl,wpAny_loadPart' hb
  rw [f1];by_cases l2:i<ms.length
  ·obtain ⟨u,e2⟩:=jK hj l2
   have f2:items2[((i:Nat):Int).toNat]? = some (.int (ms[i]?.getD 0) u):=by
    rw [cW,←cv];exact e2
   have d2:ms.drop i=ms[i]?.getD 0::ms.drop (i+1):=by rw [bj l2,aJ l2];rfl
   rw [d1,d2] at h;rw [f2];generalize ns[i]?.getD 0=a at h f1;generalize ms[i]?.getD 0=c at h f2;have hc:((i:Int)+1)=((i+1:Nat):Int):=by push_cast;rfl
   obtain ⟨e,he,hiff⟩:=p7 A.in1 ⟨hp,g,d,tk,os⟩ a t c u
   refine wpAny_bind (he prog w _ _ ?_)
   cases e with
   | true =>
    have hac:a=c:=hiff.mp rfl
    have h':R (.ok (.ret (.bool (lexLtI (ns.drop (i+1)) (ms.drop (i+1)))))) ⟨hp,g,d,tk,os⟩:=by
     simpa [lexLtI,hac] using h
    wp_walk
    rw [hc];exact ⟨plainId_quiet plain_eq_loop _,codeAny_builtin entry_eq_loop (by
     rw [Around.under_plainId plain_eq_loop _];exact ih (i+1) (by omega) (by omega) (by omega) prog w A R _ ⟨hl,hb,h'⟩)⟩
   | false =>
    have hac:¬a=c:=fun q=>absurd (hiff.mpr q) aI
    have h':R (.ok (.ret (.bool (decide (a<c))))) ⟨hp,g,d,tk,os⟩:=by
     simpa [lexLtI,hac] using h
    have hri:=sZ A.in1 ⟨hp,g,d,tk,os⟩ a t c u prog w
    wp_walk using wpAny_loadPart' hl,wpAny_loadPart' hb
    rw [f1,f2];wp_walk using hri
    exact h'
  ·have e2:i=ms.length:=by omega
   have hi2:items2[((i:Nat):Int).toNat]? = none:=by simp;omega
   rw [hi2];wp_walk using wpAny_loadPart' hl,wpAny_loadPart' hb
   show R (.ok (.ret (.bool (decide (items.size<items2.size))))) _
   rw [af (by omega)]
   rw [d1,e2,dX] at h;exact h
theorem list_lt_ints (l b:Addr) (items items2:Array Value) (n n2:Nat) (ns ms:List Int) (hi:IntsAre items.toList ns) (hj:IntsAre items2.toList ms) :
  Meets (Builtin.«list.__lt__» ⟨[.ref l,.ref b],[]⟩)
   (fun _ R s=>s.heap.get? l=some { cls:=.type "list",dict:=none,data:=.seq items n,slots:=#[] }∧s.heap.get? b=some { cls:=.type "list",dict:=none,data:=.seq items2 n2,slots:=#[] } ∧
    R (.ok (.ret (.bool (lexLtI ns ms)))) s):=by
 intro prog w A R s h;obtain ⟨hp,g,d,tk,os⟩:=s
 obtain ⟨hl,hb,h⟩:=h
 have f3:=AutoSeq1.sub_list_list
 wp_walk using wpAny_loadPart' hl,wpAny_loadPart' hb
 exact ⟨plainId_quiet plain_eq_loop _,codeAny_builtin entry_eq_loop (by
  rw [Around.under_plainId plain_eq_loop _];exact wa l b items items2 n n2 ns ms hi hj _ 0 (aW _) (aW _) rfl prog w A R _ ⟨hl,hb,by simpa using h⟩)⟩
end HT
namespace L2
open PySem PySem.Spec PyProof.Rows
section
variable {X:Cx}
def rLtIL:R2:=fun x y H Q=>∃ a b ns ms,x = .ref a∧y = .ref b∧H a=some (.lst (ns.map V.int))∧H b=some (.lst (ms.map V.int))∧Q (.bl (HT.lexLtI ns ms)) H
theorem yI (hu:X.A.units<cLine):OpR X (compareOp .Lt) rLtIL:=by
 intro pins s σ H x y v u Q I rx ry h;obtain ⟨a,b,ns,ms,rfl,rfl,ha,hb,q⟩:=h
 cases rx;cases ry;obtain ⟨z,its,n,r,hl,e⟩:=I.lstM ha
 obtain ⟨z2,its2,n2,r2,hl2,e2⟩:=I.lstM hb
 have i1:IntsAre its.toArray.toList ns:=iy r
 have i2:IntsAre its2.toArray.toList ms:=iy r2
 show wpAny (model X.prog X.w) X.A (richCompare .Lt (.ref a) (.ref b)) _ _ s
 exact richCompare_meets_room (op:=.Lt) ⟨_,e,rfl⟩ ⟨_,e2,rfl⟩ PySem.F.slot_list_lt PySem.F.entry_list_lt (PySem.F.args_list_lt_2 _ _) (HT.list_lt_ints a b its.toArray its2.toArray n n2 ns ms i1 i2)
  ⟨e,e2,(fun z=>nomatch z),⟨.bl (HT.lexLtI ns ms),H,I,rfl,q⟩⟩ hu
end
section
variable {X:Cx}
end
abbrev vk (h:Heap) (c:Addr) (v:Option Value):Prop:=h.IsCell c v
def relS (scope sc:Scope):Scope :=
 { scope with names:=scope.names.map fun (n,k)=>if (k==.free&&sc.kind==.function&&sc.names.lookup n==some .cell) then (n,.cell) else (n,k) }
def cG (cells:List (Str×Addr)):List (Str×NameKind)→List (Str×Addr)→List (Str×Addr)
 | [],acc=>acc
 | (n,k)::r,acc=>if k==.free then cG cells r ((n,(cells.lookup n).getD 0)::acc) else cG cells r acc
theorem jU (env:Env) (f:Str×NameKind→List (Str×Addr)→Sem (ForInStep (List (Str×Addr))))
  (hf:∀ n k c,f (n,k) c=if k==.free then (do let a ←cellOf env n;pure (.yield ((n,a)::c))) else pure (.yield c)) :
  ∀ (names:List (Str×NameKind)) (acc:List (Str×Addr)),(∀ y∈names,y.2 = .free→∃ c,env.cells.lookup y.1=some c)→forIn names acc f=pure (cG env.cells names acc)
 | [],acc,_=>by rw [List.forIn_nil];rfl
 | (n,k)::r,acc,h=>by
  rw [List.forIn_cons,hf];have ih:=fun acc=>jU env f hf r acc fun y hy=>h y (ax _ hy)
  unfold cG;by_cases hk:(k==NameKind.free)=true
  ·rw [if_pos hk,if_pos hk];obtain ⟨c,hc⟩:=h (n,k) aR (by simpa using hk)
   have e:cellOf env n=pure c:=by unfold cellOf;rw [hc]
   rw [e];have e2:(env.cells.lookup n).getD 0=c:=by rw [hc];rfl
   rw [e2];exact ih _
  ·rw [if_neg hk,if_neg hk];exact ih _
theorem mY {scope:Scope} {env:Env} (h:∀ y∈scope.names,y.2 = .free→∃ c,env.cells.lookup y.1=some c):closureFor scope env=pure (cG env.cells scope.names []):=by
 simp only [closureFor];rw [jU env _ (fun n k c=>rfl) scope.names [] h]
 rfl
theorem jk {α:Type}:∀ {l:List (Str×α)} {n:Str} {c:α},(n,c)∈l→∃ c',l.lookup n=some c'
 | (k,v)::r,n,c,h=>by
  rw [dD];cases hb:n==k with
  | true=>exact ⟨_,rfl⟩
  | false =>
   rcases aB.mp h with e | h
   ·cases e;simp at hb
   ·exact jk h
theorem gH {cells:List (Str×Addr)}:∀ {names:List (Str×NameKind)} {acc:List (Str×Addr)} {n:Str} {c:Addr},(n,c)∈cG cells names acc→(n,c)∈acc∨((n,.free)∈names∧c=(cells.lookup n).getD 0)
 | [],_,_,_,h=>.inl h
 | (m,k)::r,acc,n,c,h=>by
  unfold cG at h;split at h
  ·rename_i hk
   have hk:k = .free:=by simpa using hk
   rcases gH h with h | ⟨h1,h2⟩
   ·rcases aB.mp h with e | h
    ·cases e;exact .inr ⟨hk▸aR,rfl⟩
    ·exact .inl h
   ·exact .inr ⟨ax _ h1,h2⟩
  ·rcases gH h with h | ⟨h1,h2⟩
   ·exact .inl h
   ·exact .inr ⟨ax _ h1,h2⟩
theorem iS {cells:List (Str×Addr)}:∀ {names:List (Str×NameKind)} {acc:List (Str×Addr)} {p:Str×Addr},p∈acc→p∈cG cells names acc
 | [],_,_,h=>h
 | (m,k)::r,acc,p,h=>by
  unfold cG;split
  ·exact iS (ax _ h)
  ·exact iS h
theorem iR {cells:List (Str×Addr)}:∀ {names:List (Str×NameKind)} {acc:List (Str×Addr)} {n:Str},(n,.free)∈names→(n,(cells.lookup n).getD 0)∈cG cells names acc
 | (m,k)::r,acc,n,h=>by
  unfold cG;rcases aB.mp h with e | h
  ·cases e;exact iS aR
  ·split
   ·exact iR h
   ·exact iR h
theorem hW:∀ {names:List (Str×NameKind)} {h:Heap} {acc:List (Str×Addr)} {x:Str} {c:Addr},(x,c)∈cellsFrom h.objs.size names acc →
  (x,c)∈acc∨((x,.cell)∈names∧h.objs.size≤c∧vk (pushCells h names) c none)
 | [],_,_,_,_,h=>.inl h
 | (n,k)::r,h,acc,x,c,hm=>by
  unfold cellsFrom at hm;unfold pushCells;split at hm
  ·rename_i hk
   rw [if_pos hk];have hk:k = .cell:=by simpa using hk
   rw [←Heap.size_push h { cls:=.type "cell",data:=.cell none }] at hm
   rcases hW hm with hm | ⟨h1,h2,h3⟩
   ·rcases aB.mp hm with e | hm
    ·cases e;exact .inr ⟨hk▸aR,aK _,_,pushCells_keeps r _ _ _ (Heap.get?_push_size _ rfl),rfl⟩
    ·exact .inl hm
   ·rw [Heap.size_push] at h2;exact .inr ⟨ax _ h1,fi h2,h3⟩
  ·rename_i hk
   rw [if_neg hk];rcases hW hm with hm | ⟨h1,h2,h3⟩
   ·exact .inl hm
   ·exact .inr ⟨ax _ h1,h2,h3⟩
theorem jc:∀ {names:List (Str×NameKind)} {n:Nat} {acc:List (Str×Addr)} {p:Str×Addr},p∈acc→p∈cellsFrom n names acc
 | [],_,_,_,h=>h
 | (m,k)::r,n,acc,p,h=>by
  unfold cellsFrom;split
  ·exact jc (ax _ h)
  ·exact jc h
theorem kM:∀ {names:List (Str×NameKind)} {n:Nat} {acc:List (Str×Addr)} {x:Str},(x,.cell)∈names→∃ c,(x,c)∈cellsFrom n names acc
 | (m,k)::r,n,acc,x,h=>by
  unfold cellsFrom;rcases aB.mp h with e | h
  ·cases e;exact ⟨n,jc aR⟩
  ·split
   ·exact kM h
   ·exact kM h
theorem kL:∀ {names:List (Str×NameKind)} {h:Heap} {acc:List (Str×Addr)} {x y:Str} {c:Addr},(∀ p∈acc,p.2<h.objs.size)→(∀ x y c,(x,c)∈acc→(y,c)∈acc→x=y) →
  (x,c)∈cellsFrom h.objs.size names acc→(y,c)∈cellsFrom h.objs.size names acc→x=y
 | [],_,_,_,_,_,_,hi,h1,h2=>hi _ _ _ h1 h2
 | (n,k)::r,h,acc,x,y,c,hl,hi,h1,h2=>by
  unfold cellsFrom at h1 h2;split at h1
  ·rename_i hk
   rw [if_pos hk] at h2;rw [←Heap.size_push h { cls:=.type "cell",data:=.cell none }] at h1 h2
   refine kL (h:=h.push _) (fun p hp=>?_) (fun x y c a b=>?_) h1 h2
   ·rw [Heap.size_push];rcases aB.mp hp with rfl | hp
    ·exact ie _
    ·exact fh (hl p hp)
   ·rcases aB.mp a with e | a<;>rcases aB.mp b with e' | b
    ·cases e;cases e';rfl
    ·cases e;exact absurd (hl _ b) (bK _)
    ·cases e';exact absurd (hl _ a) (bK _)
    ·exact hi _ _ _ a b
  ·rename_i hk
   rw [if_neg hk] at h2;exact kL hl hi h1 h2
theorem lb {M:Model} {A:Around} {E:Value→Shared→Prop} {s:Shared} {scope:Scope} {globals:Addr} {closure:List (Str×Addr)} {qual:Str} {func:Option Addr} {code:Value} {around:Env} {builtins:Addr} {Q:Env→Shared→Prop}
  (h:Q (newEnv scope s.heap.objs.size globals (cellsFrom (s.heap.objs.size+1) scope.names closure) qual func code (some around) builtins)
   { s with heap:=pushCells (s.heap.push { cls:=.type "dict",data:=.dict #[] }) scope.names }) :
  wpAny M A (newFunctionEnv scope globals closure [] qual func code (some around) builtins) Q E s:=by
 simp only [newFunctionEnv,Option.isSome_some,if_true];refine wpAny_bind (wpAny_alloc ?_)
 refine wpAny_bind (wpAny_layCells _ (fun n k c=>rfl) scope.names closure _ _ ?_)
 rw [show ({ s with heap:=s.heap.push { cls:=.type "dict",data:=.dict #[] } }:Shared).heap.objs.size=s.heap.objs.size+1 from Heap.size_push ..]
 rw [List.forIn_nil];exact wpAny_bind (wpAny_pure (wpAny_pure h))
theorem iO {sc:Scope}:∀ {names:List (Str×NameKind)} {x:Str} {k:NameKind},
  (names.map fun (n,k)=>if (k==NameKind.free&&sc.kind==.function&&sc.names.lookup n==some .cell) then (n,NameKind.cell) else (n,k)).lookup x=some k →
  ∃ k',names.lookup x=some k'∧(k=k'∨(k' = .free∧k = .cell))
 | [],_,_,h=>by simp at h
 | (n,k₀)::r,x,k,h=>by
  have ih:=@iO sc r x k
  have h':List.lookup x ((if (k₀==NameKind.free&&sc.kind==.function&&sc.names.lookup n==some .cell)=true then (n,NameKind.cell) else (n,k₀))::(r.map _))=some k:=h
  cases hx:x==n with
  | true =>
   simp only [dD,hx];by_cases hc:(k₀==NameKind.free&&sc.kind==.function&&sc.names.lookup n==some .cell)=true
   ·rw [if_pos hc] at h'
    simp only [dD,hx] at h';cases h'
    simp only [aC,beq_iff_eq] at hc;exact ⟨k₀,rfl,.inr ⟨hc.1.1,rfl⟩⟩
   ·rw [if_neg hc] at h'
    simp only [dD,hx] at h';cases h'
    exact ⟨_,rfl,.inl rfl⟩
  | false =>
   simp only [dD,hx];by_cases hc:(k₀==NameKind.free&&sc.kind==.function&&sc.names.lookup n==some .cell)=true
   ·rw [if_pos hc] at h'
    simp only [dD,hx] at h';exact ih h'
   ·rw [if_neg hc] at h'
    simp only [dD,hx] at h';exact ih h'
structure og (N:List Str) (sc scope:Scope) (own:List (Str×Nat)):Prop where
 kind:scope.kind = .function
 uniq:∀ y∈scope.names,scope.names.lookup y.1=some y.2
 ix:∀ p∈own,N[p.2]? = some p.1
 free:∀ y∈scope.names,y.2 = .free→sc.names.lookup y.1=some .cell∨sc.names.lookup y.1=some .free
 own:∀ y∈scope.names,y.2 = .local∨y.2 = .cell→y.1∈own.map (·.1)∨y.1∉N
def gC (σ:St):List Nat→St
 | []=>σ
 | v::vs=>(gC σ vs).set v none
theorem gD (σ:St):∀ vs:List Nat,(gC σ vs).length=σ.length
 | []=>rfl
 | v::vs=>by unfold gC;rw [List.length_set,gD σ vs]
theorem iX {σ:St} {i:Nat} {x:V}:∀ {vs:List Nat},(gC σ vs)[i]? = some (some x)→σ[i]? = some (some x)∧i∉vs
 | [],h=>⟨h,by simp⟩
 | v::vs,h=>by
  unfold gC at h;by_cases hi:v=i
  ·subst hi;by_cases hv:v<(gC σ vs).length
   ·rw [fm hv] at h;cases h
   ·rw [fA (by simpa using hv)] at h;cases h
  ·rw [fP hi] at h;obtain ⟨h1,h2⟩:=iX h
   exact ⟨h1,by simp only [aB,not_or];exact ⟨fun e=>hi e.symm,h2⟩⟩
abbrev Cx.blk (X:Cx) (s:Shared) (H:Hp) (scope:Scope) (cenv:Env) (fp:List Addr):Cx:={ X with s_0:=s,H_0:=H,env:=cenv,outer:=X.stack,ex:=fp,fn:=fun x=>scope.names.lookup x==some .cell,pn:=[],xe:=fun _ _=>False }
section
variable {X:Cx} {pins:List (Addr×Obj)} {σ:St} {H:Hp} {s:Shared}
theorem lu {scope:Scope} {own:List (Str×Nat)} {fp:List Addr} (I:Inv X pins σ H s) (ok:og X.N X.env.scope scope own) (hN:X.N.Nodup) (hfp:∀ b∈fp,ju X pins H b∧b<s.heap.objs.size) :
  Inv (X.blk s H scope (compEnvC scope (cellsFrom (s.heap.objs.size+1) scope.names (cG X.env.cells scope.names [])) s.heap.objs.size X.env) fp) [] (gC σ (own.map (·.2))) H { s with heap:=pushCells (s.heap.push { cls:=.type "dict",data:=.dict #[] }) scope.names }:=by
 have hfree:∀ y∈scope.names,y.2 = .free→∃ c,X.env.cells.lookup y.1=some c:=fun y hy e=>by
  rcases ok.free y hy e with k | k
  ·exact I.ok.has _ (.inl k)
  ·exact I.ok.has _ (.inr k)
 generalize hcenv:compEnvC scope (cellsFrom (s.heap.objs.size+1) scope.names (cG X.env.cells scope.names [])) s.heap.objs.size X.env=cenv;have kp:∀ b o,s.heap.get? b=some o→(pushCells (s.heap.push { cls:=.type "dict",data:=.dict #[] }) scope.names).get? b=some o:=fun b o e=>pushCells_keeps _ _ _ _ (Heap.get?_push_of_some _ e)
 have hL:cenv.locals=s.heap.objs.size:=by rw [←hcenv];rfl
 have hcl:cenv.cells=cellsFrom (s.heap.objs.size+1) scope.names (cG X.env.cells scope.names []):=by rw [←hcenv];rfl
 have hsc:cenv.scope=relS scope X.env.scope:=by rw [←hcenv];rfl
 rw [←Heap.size_push s.heap { cls:=.type "dict",data:=.dict #[] }] at hcl
 have cm:∀ {y c},(y,c)∈cG X.env.cells scope.names []→X.env.cells.lookup y=some c∧c<s.heap.objs.size:=fun {y c} hm=>by
  rcases gH hm with hm | ⟨h1,rfl⟩
  ·cases hm
  ·obtain ⟨c,hc⟩:=hfree _ h1 rfl
   rw [hc];obtain ⟨w,z⟩:=I.cell _ _ hc
   exact ⟨rfl,z.lt⟩
 have mem:∀ {y c},cenv.cells.lookup y=some c→(X.env.cells.lookup y=some c∧c<s.heap.objs.size)∨(s.heap.objs.size+1≤c∧vk (pushCells (s.heap.push { cls:=.type "dict",data:=.dict #[] }) scope.names) c none):=fun {y c} e=>by
  rw [hcl] at e;rcases hW (bp e) with hm | ⟨_,h2,h3⟩
  ·exact .inl (cm hm)
  ·rw [Heap.size_push] at h2;exact .inr ⟨h2,h3⟩
 have look:∀ {y},scope.names.lookup y=some .free→∃ c,cenv.cells.lookup y=some c∧X.env.cells.lookup y=some c:=fun {y} hl=>by
  have hy:(y,NameKind.free)∈scope.names:=bp hl
  obtain ⟨c',e'⟩:=jk (jc (names:=scope.names) (n:=(s.heap.push { cls:=.type "dict",data:=.dict #[] }).objs.size) (iR (cells:=X.env.cells) (acc:=[]) hy))
  rw [←hcl] at e'
  refine ⟨c',e',?_⟩
  rw [hcl] at e'
  rcases hW (bp e') with hm | ⟨h1,_,_⟩
  ·exact (cm hm).1
  ·have:=ok.uniq _ h1
   rw [hl] at this;cases this
 have okB:(X.blk s H scope cenv fp).Ok:=by
  refine ⟨I.ok.mod,by show cenv.scope.kind=_;rw [hsc];exact ok.kind,by show cenv.globals=_;rw [←hcenv];exact I.ok.glob,by show cenv.builtins=_;rw [←hcenv];exact I.ok.blt,by show s.heap.objs.size≤cenv.locals;rw [hL];exact aK _,
   fun y z c e1 e2=>?_,fun y hy=>?_,fun y c z e=>?_,I.ok.hd,I.ok.frames,.inl rfl,fun b hb=>⟨?_,fun y c e z=>?_⟩,I.bs,bF I.ok.bsz I.sz,fun b o e hb=>?_,fun b hb z=>?_,I.stack,I.stkFree⟩
  ·have e1:cenv.cells.lookup y=some c:=e1
   have e2:cenv.cells.lookup z=some c:=e2
   rw [hcl] at e1 e2;refine kL (fun p hp=>?_) (fun y z c a b=>I.ok.inj y z c (cm a).1 (cm b).1) (bp e1) (bp e2)
   rw [Heap.size_push];exact fh (cm (y:=p.1) (c:=p.2) hp).2
  ·show ∃ c,cenv.cells.lookup y=some c
   have key:∀ k,cenv.kindOf y=some k→(k = .cell∨k = .free)→∃ c,cenv.cells.lookup y=some c:=fun k hk hk'=>by
    unfold Env.kindOf at hk;rw [hsc] at hk;obtain ⟨k',e,r⟩:=iO hk
    have:k' = .cell∨k' = .free:=by
     rcases r with rfl | ⟨rfl,_⟩
     ·exact hk'
     ·exact .inr rfl
    rcases this with rfl | rfl
    ·obtain ⟨c,hm⟩:=kM (n:=(s.heap.push { cls:=.type "dict",data:=.dict #[] }).objs.size) (acc:=cG X.env.cells scope.names []) (bp e)
     obtain ⟨c',e'⟩:=jk hm
     exact ⟨c',by rw [hcl];exact e'⟩
    ·obtain ⟨c,h1,_⟩:=look e
     exact ⟨c,h1⟩
   rcases hy with hy | hy
   ·exact key _ hy (.inl rfl)
   ·exact key _ hy (.inr rfl)
  ·have z:(scope.names.lookup y==some NameKind.cell)=true:=z
   have z:scope.names.lookup y=some .cell:=by simpa using z
   have e:cenv.cells.lookup y=some c:=e
   rw [hcl] at e;rcases hW (bp e) with hm | ⟨_,h2,_⟩
   ·rcases gH hm with hm | ⟨h1,_⟩
    ·cases hm
    ·have q:=ok.uniq _ h1
     rw [z] at q;cases q
   ·rw [Heap.size_push] at h2;exact fi h2
  ·show b≠cenv.locals
   rw [hL];exact bu (hfp b hb).2
  ·have e:cenv.cells.lookup y=some c:=e
   rcases mem e with ⟨h1,_⟩ | ⟨h1,_⟩
   ·exact (hfp b hb).1.2.2.2.2.1 y c h1 z
   ·have h2:s.heap.objs.size+1≤b:=by rw [←z];exact h1
    exact absurd (aT (hfp b hb).2 (fi h2)) (bK _)
  ·rcases (hfp b hb).1.2.2.2.1 with z | z
   ·exact I.ok.noex b o e z
   ·exact absurd (aT (Heap.lt_size e) (bF I.ok.bsz z)) (bK _)
  ·rcases aB.mp (I.stkSub b z) with z | z
   ·exact (hfp b hb).1.2.1 z
   ·exact (hfp b hb).1.2.2.1 z
 refine ⟨okB,rfl,I.bare,Un.kept kp,⟨fun _=>none,?_,fun i y av e1 e2 e3=>?_⟩,fun y c e=>?_,?_,fun y c e=>?_,fun p hp=>?_,I.hok.kept kp,by rw [gD];exact I.len⟩
 ·show Heap.Ns _ cenv.locals _
  rw [hL];exact Heap.Ns.keeps (Heap.Ns.new ..) fun b o e=>pushCells_keeps _ _ _ _ e
 ·obtain ⟨e2,hne⟩:=iX e2
  have hfr:scope.names.lookup y=some .free∧(cenv.kindOf y=some .cell∨cenv.kindOf y=some .free):=by
   have key:∀ k,cenv.scope.names.lookup y=some k→k = .local∨k = .cell∨k = .free→scope.names.lookup y=some .free∧(cenv.kindOf y=some .cell∨cenv.kindOf y=some .free):=fun k hk hk'=>by
    have hk0:=hk
    rw [hsc] at hk;obtain ⟨k',e,r⟩:=iO hk
    have no:¬(k' = .local∨k' = .cell):=fun hh=>by
     rcases ok.own _ (bp e) hh with e' | e'
     ·obtain ⟨p,hp,hpy⟩:=dj.mp e'
      have e3:=ok.ix p hp
      have:p.1=y:=hpy
      rw [this] at e3;exact hne (dj.mpr ⟨p,hp,my hN e3 e1⟩)
     ·exact e' (cN e1)
    rcases r with rfl | ⟨rfl,rfl⟩
    ·rcases hk' with rfl | rfl | rfl
     ·exact absurd (.inl rfl) no
     ·exact absurd (.inr rfl) no
     ·exact ⟨e,.inr hk0⟩
    ·exact ⟨e,.inl hk0⟩
   have e3:Vis cenv.scope y:=e3
   rcases e3 with e3 | e3 | e3
   ·exact key _ e3 (.inl rfl)
   ·exact key _ e3 (.inr (.inl rfl))
   ·exact key _ e3 (.inr (.inr rfl))
  obtain ⟨m,hn,hl⟩:=I.loc
  have hvis:Vis X.env.scope y:=(ok.free _ (bp hfr.1) rfl).elim (fun k=>.inr (.inl k)) (fun k=>.inr (.inr k))
  obtain ⟨w,r,q⟩:=hl i y av e1 e2 hvis
  refine ⟨w,r,.inr ⟨hfr.2,?_⟩⟩
  obtain ⟨c,h1,h2⟩:=look hfr.1
  rcases q with ⟨k,_⟩ | ⟨_,c',e',z⟩
  ·have k:X.env.scope.names.lookup y=some .local:=k
   rcases ok.free _ (bp hfr.1) rfl with k' | k'<;>rw [show X.env.scope.names.lookup y=_ from k'] at k<;>cases k
  ·rw [h2] at e';cases e'
   exact ⟨c,h1,z.keeps kp⟩
 ·have e:cenv.cells.lookup y=some c:=e
  rcases mem e with ⟨h1,_⟩ | ⟨_,z⟩
  ·obtain ⟨w,z⟩:=I.cell y c h1
   exact ⟨w,z.keeps kp⟩
  ·exact ⟨_,z⟩
 ·show H cenv.locals=none
  rw [hL];exact I.hok.fresh (aK _)
 ·have e:cenv.cells.lookup y=some c:=e
  rcases mem e with ⟨h1,_⟩ | ⟨h1,_⟩
  ·exact I.freeC y c h1
  ·exact I.hok.fresh (fi h1)
 ·exact absurd (show p∈([]:List (Addr×Obj))++[] from hp) (by simp)
theorem ve {E:Value→Shared→Prop} {D:Addr} {xs:List V} {y:V} {v:Value} {Q:Value→Shared→Prop} (I:Inv X pins σ H s) (hD:H D=some (.lst xs)) (hz:xs.length<sizeLine) (r:cM y v)
  (h:∀ s',Inv X pins σ (upd H D (.lst (xs++[y]))) s'→Q .none s'):wpAny (model X.prog X.w) X.A (call (.builtin "list.append") [.ref D,v]) Q E s:=by
 obtain ⟨hz',its,n,ri,e⟩:=I.hok D _ hD
 have hl:=ri.length
 refine append_at (hsz:=by rw [aM];omega) e fun h' sb ho'=>?_
 refine h { s with heap:=h' } (I.write (t':=s.toks) (by rw [hD];trivial) (.inl rfl) (fun b u hb q=>(sb.2 b hb).trans q) ⟨_,ho'⟩ ⟨by rw [aa];exact hz,its++[v],n+1,ri.append (.cons r .nil),?_⟩)
 rw [ho'];simp
def PTs (X:Cx) (ifs:List Expr) (t:TT):Prop :=
 ∀ (pins:List (Addr×Obj)) (s:Shared) (σ:St) (H:Hp) (Q:Bool→Hp→Prop),Inv X pins σ H s→t σ H Q →
  wpAny (model X.prog X.w) X.A (forIn ifs true fun c r=>if r=true then do let ok ←isTrue c X.env (eval c X.env);pure (ForInStep.yield ok) else pure (ForInStep.yield r)) (TP X pins σ Q) X.xe s
def tYes:TT:=fun _ H Q=>Q true H
theorem rM:PTs X [] tYes:=fun _ _ _ H _ I h=>wpAny_tests_nil ⟨H,I,h⟩
end
theorem lW {α:Type} {t:Sem α} {Q Q':α→Shared→Prop} {M:Model} {A:Around} {E:Value→Shared→Prop} {s:Shared} (h:wpAny M A t Q (fun _ _=>False) s) (hQ:∀ a s,Q a s→Q' a s):wpAny M A t Q' E s:=wpAny_mono h hQ fun _ _ z=>False.elim z
theorem jT {prog:Program} {w:World} {A:Around} {R:Result→Shared→Prop} {s:Shared} {elt target iter:Expr} {ifs:List Expr} {scope:Scope} {pos:Pos} {it acc:Value} {env:Env} (I:Nat→Shared→Prop)
  (turn:∀ n s,I n s→wpAny (model prog w) A (pyNext it) (fun r s₁=>match r with
   | none=>R (.ok .next) s₁
   | some v=>wpAny (model prog w) A (letOwnedTupleGo target it v) (fun _ s₁'=>wpAny (model prog w) A (assign target env v) (fun _ s₂ =>
     wpAny (model prog w) A (forIn ifs true fun c r=>if r=true then do let ok ←isTrue c env (eval c env);pure (ForInStep.yield ok) else pure (ForInStep.yield r)) (fun ok s₃ =>
      if ok=true then wpAny (model prog w) A (eval elt env) (fun x s₄ =>
       wpAny (model prog w) A (call (.builtin "list.append") [acc,x]) (fun _ s₅=>∃ m,m<n∧I m s₅) (notedBy (model prog w) A env fun e s'=>R (.error e) s') s₄) (notedBy (model prog w) A env fun e s'=>R (.error e) s') s₃
      else ∃ m,m<n∧I m s₃) (notedBy (model prog w) A env fun e s'=>R (.error e) s') s₂) (notedBy (model prog w) A env fun e s'=>R (.error e) s') s₁') (notedBy (model prog w) A env fun e s'=>R (.error e) s') s₁) (notedBy (model prog w) A env fun e s'=>R (.error e) s') s)
  (n:Nat) (h:I n s) :
  codeAny (model prog w) A (.compLoop (.ListComp elt [⟨target,iter,ifs,0⟩] scope pos) 0 it acc env) R s:=by
 refine codeAny_loop rfl I (fun n s hI=>?_) n h
 show wpAny _ A ((compTurn (.ListComp elt [⟨target,iter,ifs,0⟩] scope pos) 0 it acc env).onRaise (fun x=>do noteFrame x env;theTreesLotGoes x)) _ _ s
 refine wpAny_noted ?_
 rw [compTurn_list];refine wpAny_bind (wpAny_standAt (wpAny_bind (wpAny_mono (turn n s hI) (fun r s₁ h₁=>?_) fun _ _ h'=>h')))
 cases r with
 | none=>exact wpAny_pure h₁
 | some v =>
  refine wpAny_bind (wpAny_mono h₁ (fun _ s₁' h₁'=>?_) fun _ _ h'=>h')
  refine wpAny_bind (wpAny_mono h₁' (fun _ s₂ h₂=>wpAny_bind (wpAny_mono h₂ (fun ok s₃ h₃=>?_) fun _ _ h'=>h')) fun _ _ h'=>h')
  cases ok with
  | false=>exact wpAny_pure ⟨rfl,h₃⟩
  | true =>
   exact wpAny_bind (wpAny_bind (wpAny_mono h₃ (fun x s₄ h₄=>wpAny_bind (wpAny_mono h₄ (fun _ s₅ h₅=>wpAny_pure (wpAny_pure ⟨rfl,h₅⟩)) fun _ _ h'=>h')) fun _ _ h'=>h'))
section
variable {X:Cx}
def tLc (wi:TI) (g:TG) (tt:TT) (te:TE) (vs:List Nat):TE:=fun σ H Q=>wi σ H fun J H1=>∀ D,H1 D=none→∃ W:Nat→Nat→Hp→Prop,(∃ m,W 0 m (upd H1 D (.lst [])))∧∀ i m H,W i m H →
 (J.stop i H∧Q (.ref D) H)∨(J.go i H∧∃ Nx:Hp→Prop,(∀ H',Nx H'→∃ m',m'<m∧W (i+1) m' H')∧∀ x H',J.yld i H x H'→g x (gC σ vs) H' fun σ2 H2=>gC σ2 vs=gC σ vs∧tt σ2 H2 fun b H3 =>
  if b=true then te σ2 H3 fun y H4=>∃ acc,H4 D=some (.lst acc)∧acc.length<sizeLine∧Nx (upd H4 D (.lst (acc++[y]))) else Nx H3)
theorem wd {pins:List (Addr×Obj)} {s:Shared} {σ:St} {H:Hp} {Q:VK} {elt tg iter:Expr} {ifs:List Expr} {scope:Scope} {own:List (Str×Nat)} {pos pos':Pos} {wi:TI} {g:TG} {tt:TT} {te:TE} {use:Option (Value→Sem Unit)} {Qf:Value→Shared→Prop}
  (hc:X.calm=true) (hN:X.N.Nodup) (I:Inv X pins σ H s) (hi:PI X tg iter wi) (ok:og X.N X.env.scope scope own)
  (hg:∀ (s:Shared) (H:Hp) (C:Addr) (cl:List (Str×Addr)) (fp:List Addr),PG (X.blk s H scope (compEnvC scope cl C X.env) fp) tg g) (ht:∀ (s:Shared) (H:Hp) (C:Addr) (cl:List (Str×Addr)) (fp:List Addr),PTs (X.blk s H scope (compEnvC scope cl C X.env) fp) ifs tt)
  (he:∀ (s:Shared) (H:Hp) (C:Addr) (cl:List (Str×Addr)) (fp:List Addr),PE (X.blk s H scope (compEnvC scope cl C X.env) fp) elt te) (hs:∀ x,foldedSetIterable iter X.env x=pure x)
  (h:tLc wi g tt te (own.map (·.2)) σ H Q)
  (hRR:∀ D C s' m H',Inv X pins σ H' s'→Q (.ref D) H'→s'.heap.Ns C m→ju X pins H' C→compPost (model X.prog X.w) X.A X.xe use Qf (.ref D) C (.ok .next) s') :
  wpAny (model X.prog X.w) X.A (comprehension (.ListComp elt [⟨tg,iter,ifs,0⟩] scope pos) scope X.env pos' (newList []) false (eval iter X.env) use) Qf X.xe s:=by
 have hfree:∀ y∈scope.names,y.2 = .free→∃ c,X.env.cells.lookup y.1=some c:=fun y hy e=>by
  rcases ok.free y hy e with k | k
  ·exact I.ok.has _ (.inl k)
  ·exact I.ok.has _ (.inr k)
 refine wpAny_comprehension_free (use:=use) rfl hs (mY hfree) ok.kind (fun y hy e=>by rw [ok.uniq y hy,e])
  (thn (hi pins s σ H _ I h) fun xv s1 hx=>thn hx fun itv s2 h2=>?_)
 obtain ⟨it,fp,tn,J,H2,e,I2,T,st2,f2,q⟩:=h2
 subst e;refine wpAny_newObj_type (lb ?_) (by show 0≤sizeLine;decide)
 generalize hD:s2.heap.objs.size=D;have hDn:H2 D=none:=I2.hok.fresh (fj hD)
 obtain ⟨W,⟨m0,w0⟩,turn⟩:=q D hDn
 generalize hs3:({ s2 with heap:=s2.heap.push { cls:=.type "list",data:=.seq ([]:List Value).toArray } }:Shared)=s3
 have I3:Inv X pins σ (upd H2 D (.lst [])) s3:=by
  rw [←hs3];refine I2.laid (t':=s2.toks) (fun b o e=>Heap.get?_push_of_some _ e) (fj hD) ⟨aW _,[],0,.nil,?_⟩
  rw [←hD];exact Heap.get?_push_size _ rfl
 have h3:s3.heap=s2.heap.push { cls:=.type "list",data:=.seq ([]:List Value).toArray }:=by rw [←hs3]
 have sz:∀ b∈fp,b<s2.heap.objs.size:=fun b hb=>by
  obtain ⟨o,e,_⟩:=T.obj _ _ st2 b hb
  exact Heap.lt_size e
 have f3:∀ b∈fp,ju X pins (upd H2 D (.lst [])) b∧b<s3.heap.objs.size:=fun b hb=>by
  have hlt:=sz b hb
  refine ⟨⟨?_,(f2 b hb).2⟩,by rw [h3,Heap.size_push];exact fh hlt⟩
  rw [ai (by rw [←hD];exact bu hlt)]
  exact (f2 b hb).1
 have st3:tn 0 s3.heap:=T.keep _ _ _ st2 fun b _ o e=>by rw [h3];exact Heap.get?_push_of_some _ e
 have I4:=lu I3 ok hN f3
 have pg:=hg s3 (upd H2 D (.lst [])) s3.heap.objs.size (cellsFrom (s3.heap.objs.size+1) scope.names (cG X.env.cells scope.names [])) fp
 have pt:=ht s3 (upd H2 D (.lst [])) s3.heap.objs.size (cellsFrom (s3.heap.objs.size+1) scope.names (cG X.env.cells scope.names [])) fp
 have pe:=he s3 (upd H2 D (.lst [])) s3.heap.objs.size (cellsFrom (s3.heap.objs.size+1) scope.names (cG X.env.cells scope.names [])) fp
 show codeAny _ _ (.compStart (.ListComp elt [⟨tg,iter,ifs,0⟩] scope pos) 0 (.ref it) (.ref D) (compEnvC scope (cellsFrom (s3.heap.objs.size+1) scope.names (cG X.env.cells scope.names [])) s3.heap.objs.size X.env)) (compPost (model X.prog X.w) X.A X.xe use Qf (.ref D) s3.heap.objs.size) { s3 with heap:=pushCells (s3.heap.push { cls:=.type "dict",data:=.dict #[] }) scope.names }
 have nfp:∀ b∈fp,(upd H2 D (.lst [])) b=none:=fun b hb=>(f3 b hb).1.1
 generalize hce:compEnvC scope (cellsFrom (s3.heap.objs.size+1) scope.names (cG X.env.cells scope.names [])) s3.heap.objs.size X.env=ce at I4 pg pt pe ⊢;have cL:ce.locals=s3.heap.objs.size:=by subst hce;rfl
 generalize hH3:upd H2 D (.lst [])=H3 at I3 I4 pg pt pe w0 nfp f3;generalize hs4:({ s3 with heap:=pushCells (s3.heap.push { cls:=.type "dict",data:=.dict #[] }) scope.names }:Shared)=s4 at I4 ⊢
 have st4:tn 0 s4.heap:=T.keep _ _ _ st3 fun b _ o e=>by rw [←hs4];exact pushCells_keeps _ _ _ _ (Heap.get?_push_of_some _ e)
 have stat:∀ {σ':St} {H':Hp} {s':Shared},Inv (X.blk s3 H3 scope ce fp) [] σ' H' s'→(∀ b∈fp,H' b=none)→∀ b∈fp,ju (X.blk s3 H3 scope ce fp) [] H' b:=fun {σ' H' s'} I' hn b hb =>
  ⟨hn b hb,(I'.ok.exf b hb).1,I'.ok.exfs b hb,.inl hb,fun x c e=>(I'.ok.exf b hb).2 x c e,fun p hp=>absurd (show p∈([]:List (Addr×Obj))++[] from hp) (by simp)⟩
 have loop:codeAny (model X.prog X.w) X.A (.compLoop (.ListComp elt [⟨tg,iter,ifs,0⟩] scope pos) 0 (.ref it) (.ref D) ce) (compPost (model X.prog X.w) X.A X.xe use Qf (.ref D) s3.heap.objs.size) s4:=by
  refine jT (fun n s'=>∃ i H',Inv (X.blk s3 H3 scope ce fp) [] (gC σ (own.map (·.2))) H' s'∧tn i s'.heap∧(∀ b∈fp,H' b=none)∧W i n H') ?_ m0 ⟨0,H3,I4,st4,nfp,w0⟩
  rintro n s5 ⟨i,H5,I5,st5,n5,w5⟩
  rcases turn i n H5 w5 with ⟨stop,qq⟩ | ⟨go,Nx,hNx,step⟩
  ·have td:=T.done (X.blk s3 H3 scope ce fp) rfl rfl rfl hc i [] s5 _ H5 (fun _ _=>False) I5 (stat I5 n5) st5 stop
   refine lW td fun r s6 ⟨hr,I6⟩=>?_
   subst hr;have I7:Inv X pins σ H5 s6:=I3.call' (ch:=fp) I6.os I6.base I6.hok I6.bare fun b hb=>⟨(f3 b hb).1.2.2.2.1,(f3 b hb).1.2.1,(f3 b hb).1.2.2.2.2.1,(f3 b hb).1.2.2.2.2.2⟩
   have nC:H5 s3.heap.objs.size=none:=by
    have z:H5 ce.locals=none:=I6.free
    rw [cL] at z;exact z
   obtain ⟨m,hn,_⟩:=I6.loc
   have hn:s6.heap.Ns ce.locals m:=hn
   rw [cL] at hn;exact hRR D s3.heap.objs.size s6 m H5 I7 qq hn (I3.fpOk (aK _) nC)
  ·have ti:=T.item (X.blk s3 H3 scope ce fp) rfl rfl rfl hc i [] s5 _ H5 (fun _ _=>False) I5 (stat I5 n5) st5 go
   refine lW ti fun r s6 ⟨u,hr,h6⟩=>?_
   subst hr;refine lW h6 fun _ s7 ⟨x,H7,I7,r7,y7,st7,n7⟩=>?_
   have I7':=I7.pinned (stat I7 n7) (T.obj _ _ st7)
   refine lW (pg _ s7 _ H7 x u _ I7' r7 (step x H7 y7)) fun _ s8 ⟨σ8,H8,I8,hw8,q8⟩=>?_
   refine lW (pt _ s8 σ8 H8 _ I8 q8) fun b s9 ⟨H9,I9,q9⟩=>?_
   have fin:∀ {s':Shared} {H':Hp},Inv (X.blk s3 H3 scope ce fp) ([]++jj fp s7.heap) σ8 H' s'→Nx H'→∃ m,m<n∧∃ i H',Inv (X.blk s3 H3 scope ce fp) [] (gC σ (own.map (·.2))) H' s'∧tn i s'.heap∧(∀ b∈fp,H' b=none)∧W i m H':=fun {s' H'} I' nx=>by
    obtain ⟨m',hm,w'⟩:=hNx H' nx
    have pin':∀ b∈fp,∀ o,s7.heap.get? b=some o→s'.heap.get? b=some o∧H' b=none:=fun b hb o e =>
     let z:=I'.pin (b,o) (ak _ (ak _ (gm hb e)))
     ⟨z.1,z.2.1⟩
    have hl:(gC σ (own.map (·.2))).length=σ8.length:=by rw [←hw8,gD]
    refine ⟨m',hm,i+1,H',(I'.unpinned (pins:=[])).weak hl (fun j v e=>?_),T.keep _ _ _ st7 fun b hb o e=>(pin' b hb o e).1,fun b hb=>?_,w'⟩
    ·rw [←hw8] at e;exact (iX e).1
    ·obtain ⟨o,e,_⟩:=T.obj _ _ st7 b hb
     exact (pin' b hb o e).2
   cases b with
   | false =>
    simp only [gz,if_false] at q9 ⊢;exact fin I9 q9
   | true =>
    simp only [if_true] at q9 ⊢;refine lW (pe _ s9 σ8 H9 _ I9 q9) fun z s10 ⟨yv,H10,I10,r10,acc,hD10,hz10,nx⟩=>?_
    exact ve (X:=X.blk s3 H3 scope ce fp) I10 hD10 hz10 r10 fun s11 I11=>fin I11 nx
 exact codeAny_compStart_list loop (T.self X.A 0 _ _ _ st4 loop)
theorem pe_lc {elt tg iter:Expr} {ifs:List Expr} {scope:Scope} {own:List (Str×Nat)} {pos:Pos} {wi:TI} {g:TG} {tt:TT} {te:TE} (hc:X.calm=true) (hN:X.N.Nodup) (hi:PI X tg iter wi) (ok:og X.N X.env.scope scope own)
  (hg:∀ (s:Shared) (H:Hp) (C:Addr) (cl:List (Str×Addr)) (fp:List Addr),PG (X.blk s H scope (compEnvC scope cl C X.env) fp) tg g) (ht:∀ (s:Shared) (H:Hp) (C:Addr) (cl:List (Str×Addr)) (fp:List Addr),PTs (X.blk s H scope (compEnvC scope cl C X.env) fp) ifs tt)
  (he:∀ (s:Shared) (H:Hp) (C:Addr) (cl:List (Str×Addr)) (fp:List Addr),PE (X.blk s H scope (compEnvC scope cl C X.env) fp) elt te) (hs:∀ x,foldedSetIterable iter X.env x=pure x:=by intro _;rfl) :
  PE X (.ListComp elt [⟨tg,iter,ifs,0⟩] scope pos) (tLc wi g tt te (own.map (·.2))):=by
 intro pins s σ H Q I h;rw [eval_ListComp];refine wd hc hN I hi ok hg ht he hs h fun D C s' m H' I' q hn f=>⟨m,hn,fun h'' sb=>?_⟩
 obtain ⟨f0,f1,f2,f3,f4,f5⟩:=f
 exact ⟨.ref D,H',I'.turned (t':=s'.toks) (fun b o hb e=>(sb.2 b hb).trans e) f0 f1 f3 f4 f5,rfl,q⟩
end
theorem rV {K:Fg_} {a:Addr} {xs:List V} {g:TG} {tt:TT} {te:TE} {vs:List Nat} {σ:St} {H1:Hp} {D:Addr} {Qd:Hp→Prop} (Pv:Nat→Hp→Prop) (h0:Pv 0 (upd H1 D (.lst []))) (hl:∀ i H,i≤xs.length→Pv i H→SqL K H a xs)
  (hs:∀ i x H,xs[i]? = some x→Pv i H→g x (gC σ vs) H fun σ2 H2=>gC σ2 vs=gC σ vs∧tt σ2 H2 fun b H3 =>
   if b=true then te σ2 H3 fun y H4=>∃ acc,H4 D=some (.lst acc)∧acc.length<sizeLine∧Pv (i+1) (upd H4 D (.lst (acc++[y]))) else Pv (i+1) H3) (hd:∀ H,Pv xs.length H→Qd H) :
  ∃ W:Nat→Nat→Hp→Prop,(∃ m,W 0 m (upd H1 D (.lst [])))∧∀ i m H,W i m H →
   ((Itl K a).stop i H∧Qd H)∨((Itl K a).go i H∧∃ Nx:Hp→Prop,(∀ H',Nx H'→∃ m',m'<m∧W (i+1) m' H')∧∀ x H',(Itl K a).yld i H x H'→g x (gC σ vs) H' fun σ2 H2=>gC σ2 vs=gC σ vs∧tt σ2 H2 fun b H3 =>
    if b=true then te σ2 H3 fun y H4=>∃ acc,H4 D=some (.lst acc)∧acc.length<sizeLine∧Nx (upd H4 D (.lst (acc++[y]))) else Nx H3):=by
 refine ⟨fun i m H=>m=xs.length - i∧i≤xs.length∧Pv i H,⟨xs.length,by simp,aW _,h0⟩,?_⟩
 rintro i m H ⟨rfl,hi,p⟩
 have q:=hl i H hi p
 by_cases hlt:i<xs.length
 ·refine .inr ⟨⟨xs,xs[i],q,by simp [hlt]⟩,Pv (i+1),fun H' p'=>⟨xs.length - (i+1),by omega,rfl,hlt,p'⟩,fun x H' y=>?_⟩
  obtain ⟨e,y⟩:=y
  subst e;exact hs i x _ (y xs q) p
 ·have e:i=xs.length:=by omega
  subst e;exact .inl ⟨⟨xs,q,aK _⟩,hd H p⟩
def blkC (N:List Str) (sc scope:Scope) (own:List (Str×Nat)):Bool :=
 (match scope.kind with | .function=>true | _=>false)&&(scope.names.all fun y=>decide (scope.names.lookup y.1=some y.2))&&(own.all fun p=>decide (N[p.2]? = some p.1)) &&
  (scope.names.all fun y=>match y.2 with
   | .free=>(match sc.names.lookup y.1 with | some .cell=>true | some .free=>true | _=>false)
   | .local=>decide (y.1∈own.map (·.1))||decide (y.1∉N)
   | .cell=>decide (y.1∈own.map (·.1))||decide (y.1∉N)
   | _=>true)
theorem qe {N:List Str} {sc scope:Scope} {own:List (Str×Nat)} (h:blkC N sc scope own=true):og N sc scope own:=by
 unfold blkC at h;simp only [aC,df,bo] at h;obtain ⟨⟨⟨h1,h2⟩,h3⟩,h4⟩:=h
 refine ⟨?_,h2,h3,fun y hy e=>?_,fun y hy e=>?_⟩
 ·split at h1
  ·assumption
  ·cases h1
 ·have q:=h4 y hy
  simp only [e] at q;split at q<;>first | exact .inl (by assumption) | exact .inr (by assumption) | cases q
 ·have q:=h4 y hy
  rcases e with e | e<;>(simp only [e,dc,bo] at q;exact q)
mutual
inductive Dp (K:Fg_) (H:Hp):V→PyData→Prop
 | non:Dp K H .non .none
 | bl (b:Bool):Dp K H (.bl b) (.bool b)
 | int (i:Int):Dp K H (.int i) (.int i)
 | str (x:Str):Dp K H (.str x) (.str x)
 | lst {a:Addr} {xs:List V} {ds:List PyData}:SqL K H a xs→m8 K H xs ds→Dp K H (.ref a) (.list ds)
 | tup {a:Addr} {xs:List V} {ds:List PyData}:SqT K H a xs→m8 K H xs ds→Dp K H (.ref a) (.tuple ds)
inductive m8 (K:Fg_) (H:Hp):List V→List PyData→Prop
 | nil:m8 K H [] []
 | cons {v:V} {vs:List V} {d:PyData} {ds:List PyData}:Dp K H v d→m8 K H vs ds→m8 K H (v::vs) (d::ds)
end
section
variable {X:Cx} {pins:List (Addr×Obj)} {σ:St} {H:Hp} {s:Shared}
mutual
theorem Dp.reads (I:Inv X pins σ H s):∀ (d:PyData) (v:V) (u:Value),Dp X.K H v d→cM v u→∃ as,Reads s.heap u d as
 | .none,_,_,h,r=>by
  cases h;cases r;exact ⟨_,Reads.none⟩
 | .bool b,_,_,h,r=>by
  cases h;cases r;exact ⟨_,Reads.bool b⟩
 | .int i,_,_,h,r=>by
  cases h;obtain ⟨t,rfl⟩:=r
  exact ⟨_,Reads.int i t⟩
 | .str x,_,_,h,r=>by
  cases h;obtain ⟨t,rfl⟩:=r
  exact ⟨_,Reads.str x t⟩
 | .list ds,_,_,h,r=>by
  cases h with
  | lst hs ha =>
   cases r;obtain ⟨its,rv,⟨o,n,ho,hc,_,hd⟩,_⟩:=I.list hs
   obtain ⟨as,hr⟩:=Dp.readsAll I ds _ its ha rv
   exact ⟨_,Reads.list ho hc hd hr⟩
 | .tuple ds,_,_,h,r=>by
  cases h with
  | tup hs ha =>
   cases r;obtain ⟨its,rv,⟨o,ho,hc,n,hd⟩,_⟩:=I.tuple hs
   obtain ⟨as,hr⟩:=Dp.readsAll I ds _ its ha rv
   exact ⟨_,Reads.tuple ho hc hd hr⟩
 | .dict _,_,_,h,_=>by cases h
theorem Dp.readsAll (I:Inv X pins σ H s):∀ (ds:List PyData) (vs:List V) (us:List Value),m8 X.K H vs ds→b8 vs us→∃ as,ReadsAll s.heap us ds as
 | [],_,_,h,r=>by
  cases h;cases r;exact ⟨_,ReadsAll.nil⟩
 | d::ds,_,_,h,r=>by
  cases h with
  | cons h1 h2 =>
   cases r with
   | cons r1 r2 =>
    obtain ⟨as,q1⟩:=Dp.reads I d _ _ h1 r1
    obtain ⟨bs,q2⟩:=Dp.readsAll I ds _ _ h2 r2
    exact ⟨_,ReadsAll.cons q1 q2⟩
end
end
section
variable {X:Cx}
def rEqD (K:Fg_):R2:=fun x y H Q=>∃ d e,Dp K H x d∧Dp K H y e∧SeqAt.shaped d=true∧SeqAt.shaped e=true∧Q (.bl (PyData.eqv d e)) H
theorem yK (hu:X.A.units+64<cLine):OpR X (compareOp .Eq) (rEqD X.K):=by
 intro pins s σ H x y v u Q I rx ry h;obtain ⟨d,e,hd,he,sd,se,q⟩:=h
 obtain ⟨as,r1⟩:=Dp.reads I d x v hd rx
 obtain ⟨bs,r2⟩:=Dp.reads I e y u he ry
 exact SeqAt.compareEq_shaped r1 r2 sd se hu ⟨.bl _,H,I,rfl,q⟩
end
section
variable {X:Cx} {pins:List (Addr×Obj)} {σ:List (Option V)} {H H':Hp} {s:Shared} {h':Heap}
theorem Inv.turnedNew {t':Nat} {ch:List Addr} {T:Addr} {ob:HO} (I:Inv X pins σ H s) (k:∀ b o,b∉ch→s.heap.get? b=some o→h'.get? b=some o) (hf:∀ b∈ch,ju X pins H b) (hT:s.heap.objs.size≤T)
  (new:dZ X.prog X.w (upd H T ob) h' T ob):Inv X pins σ (upd H T ob) { s with heap:=h',toks:=t' }:=by
 have hn:H T=none:=I.hok.fresh hT
 have nit:∀ b u,H b=some u→b∉ch:=fun b u e z=>by
  have q:=(hf b z).1
  rw [q] at e;cases e
 refine I.step (g':=s.gens) (d':=s.drawn) (ch:=ch) (fun b hb=>⟨(hf b hb).2.2.2.1,(hf b hb).2.1,(hf b hb).2.2.2.2.1,(hf b hb).2.2.2.2.2⟩) (fun b o _ _ hc e _=>k b o hc e) (fun b o _ _ hc e _=>⟨o.slots,k b o hc e⟩)
  (fun b o _ e n=>?_) (fun b o hc e=>⟨o,k b o hc e⟩) (fun b xs e=>?_) (fun b o u e=>?_) (fun b ps e=>⟨#[],?_⟩) (fun m hm=>?_) (fun b u e=>?_) I.bare
 ·rw [ai (bu (aT (Heap.lt_size e) hT))];exact n
 ·rw [ai (ah e hn)];exact e
 ·rw [ai (ah e hn)];exact e
 ·rw [ai (ah e hn),e];simp
 ·obtain ⟨o,es,ep,ho,r⟩:=hm
  exact ⟨o,es,ep,k _ o (fun z=>(hf _ z).2.1 rfl) ho,r⟩
 ·by_cases hb:b=T
  ·subst hb;rw [aA] at e;cases e;exact new
  ·rw [ai hb] at e;refine (I.hok b u e).stay (fun c v hc q=>k c v ?_ q) (fun c q=>by rw [ai (ah q hn)];exact q) fun c xs q=>by rw [ai (ah q hn)];exact q
   rcases hc with z | z
   ·rw [z];exact nit b u e
   ·exact nit c _ z
end
end L2
namespace L2.XC
open PySem PySem.Spec PyProof.Rows
open Builtin Builtin.ObjectAttr
abbrev bmU (U:Addr):List Value:=.ref U::bmE
theorem lJ {C U:Addr} {T:String} (hT:bmE.contains (.type T)=true):(Value.ref C::bmU U).contains (.type T)=true:=by
 rw [d7,d7,hT,Bool.or_true,Bool.or_true]
theorem va {C U:Addr} {T:String} (hT:bmE.contains (.type T)=false):(Value.ref C::bmU U).contains (.type T)=false:=by
 rw [d7,d7,hT];rfl
structure f6 (K:Fg_) (U C fI:Addr):Prop where
 ob:∃ (nm q:Str) (N:Addr) (bs:List Value) (sn:List Str) (sub:List Value) (ab:Bool) (col:Option Bool) (dd:Option Addr) (k0 k1 k2 k3 k5:Option Value),
  K.lookup C=some (excClassObj nm q C N bs (bmU U) true sn sub ab col dd k0 k1 k2 k3 k5 "Exception.__new__")
 ini:PySem.W.findIn K (.ref C) "__init__" = some (some (.ref fI))
 fn:PySem.W.isFn K (.ref fI)=true
 kp:PySem.W.keepIn K (.ref C)=true
 sa:PySem.W.findIn K (.ref C) "__setattr__" = some (some (.builtin "object.__setattr__"))
 ga:PySem.W.findIn K (.ref C) "__getattribute__" = some (some (.builtin "BaseException.__getattribute__"))
 gr:PySem.W.findIn K (.ref C) "__getattr__" = some none
 an:PySem.W.findIn K (.ref C) "answer" = some none
section
variable {prog:Program} {w:World} {A:Around} {E:Value→Shared→Prop} {h:Heap} {g:Array GenState} {d:Drawn} {t:Nat} {os:OsState}
variable {nm q:Str} {C N U x dx:Addr} {bs:List Value} {sn:List Str} {sub:List Value} {ab:Bool} {col:Option Bool} {dd:Option Addr}
variable {k0 k1 k2 k3 k5:Option Value} {name:Str} {v:Value} {o:Obj} {mA:Str→Option Value}
theorem ub {M:Model} {T:String} (hC:h.get? C=some (excClassObj nm q C N bs (bmU U) true sn sub ab col dd k0 k1 k2 k3 k5 "Exception.__new__")) (hx:h.get? x=some o) (hc:o.cls = .ref C) (hT:bmE.contains (.type T)=true) :
  PySem.W.Looks M h (isInstance (.ref x) (.type T)) true:=by
 intro A Q E s k z;obtain ⟨hh,g,d,t,os⟩:=s
 have hx1:=k _ _ hx
 have hC1:=k _ _ hC
 have hb:=lJ (C:=C) (U:=U) hT
 unfold isInstance;repeat (first
  | (with_reducible refine wpAny_loadPart_at hx1 ?_;rw [hc])
  | (with_reducible refine wpAny_isSubtype_exc hC1 ?_;rw [hb])
  | wp_step)
 exact z
theorem pA {M:Model} {rest:List Value} {Q:Unit→Shared→Prop} (hC:h.get? C=some (excClassObj nm q C N bs (bmU U) true sn sub ab col dd k0 k1 k2 k3 k5 "Exception.__new__")) (z:Q () ⟨h,g,d,t,os⟩) :
  wpAny M A (checkBuiltinCall "Exception.__new__" ⟨.ref C::rest,[]⟩) Q E ⟨h,g,d,t,os⟩:=by
 have F:=PySem.F.excBase_Exception
 have hb:=lJ (C:=C) (U:=U) (T:="Exception") (by decide +kernel)
 have hst:=F.noStar
 simp only [F.newRow,F.newKind,F.newSplit,checkBuiltinCall];repeat (first
  | refine wpAny_loadPart_at hC ?_
  | (refine wpAny_isSubtype_exc hC ?_;rw [hb])
  | refine wpAny_staticBase_exc hC ?_
  | refine wpAny_madeBy_exc hC ?_
  | simp only [if_false,gz,bne_self_eq_false]
  | wp_step)
 exact z
theorem u_new {R:Result→Shared→Prop} {rest:List Value} (hC:h.get? C=some (excClassObj nm q C N bs (bmU U) true sn sub ab col dd k0 k1 k2 k3 k5 "Exception.__new__"))
  (z:R (.ok (.ret (.ref (h.objs.size+1)))) ⟨(h.push { cls:=.type "tuple",data:=.seq rest.toArray }).push { cls:=.ref C,data:=.fields #[.ref h.objs.size,.none,.none,.none,.bool false,.none] },g,d,t,os⟩) (hl:rest.length≤sizeLine) :
  codeAny (model prog w) A (.builtin "Exception.__new__" ⟨.ref C::rest,[]⟩) R ⟨h,g,d,t,os⟩:=by
 have F:=PySem.F.excBase_Exception
 have he:=F.ends
 have hB:=lJ (C:=C) (U:=U) (T:="Exception") (by decide +kernel)
 have hA:=va (C:=C) (U:=U) (T:="AttributeError") (by decide +kernel)
 have hN:=va (C:=C) (U:=U) (T:="NameError") (by decide +kernel)
 refine codeAny_builtinAt F.entry ?_
 unfold Builtin.«BaseException.__new__»
 refine PySem.wpAt_bind ?_
 show PySem.wpAt _ _ _ (stack >>= _) _ _ _
 refine PySem.wpAt_bind (PySem.wpAt_stack fun p below=>PySem.wpAt_of_wpAny ?_)
 wp_walk
 refine PySem.wpAt_of_wpAny ?_
 rw [F.owner];repeat (first
  | with_reducible refine wpAny_madeHere_exc F.canon hC ?_
  | with_reducible refine wpAny_loadPart_at hC ?_
  | (with_reducible refine wpAny_isSubtype_exc hC ?_;first | rw [hB] | rw [hA] | rw [hN])
  | wp_step)
 show R _ _
 rw [Heap.size_push];exact z
theorem pq {rest:List Value} {fI:Addr} {oI:Obj} {Q:Fin→Shared→Prop} (hC:h.get? C=some (excClassObj nm q C N bs (bmU U) true sn sub ab col dd k0 k1 k2 k3 k5 "Exception.__new__"))
  (hL:PySem.W.Looks (model prog w) h (typeLookup (.ref C) "__init__") (some (.ref fI))) (hI:h.get? fI=some oI) (hIc:oI.cls = .type "function")
  (z:∀ h' e,Heap.MadeExcOf h h' e (.ref C) rest→wpAny (model prog w) A (call (.ref fI) (.ref e::rest)) (fun r s'=>r = .none∧Q (.done (.ret (.ref e))) s') E ⟨h',g,d,t,os⟩) (hl:rest.length≤sizeLine) :
  wpAny (model prog w) A (Builtin.«type.__call__» ⟨.ref C::rest,[]⟩) Q E ⟨h,g,d,t,os⟩:=by
 have F:=PySem.F.excBase_Exception
 repeat (first
  | with_reducible refine wpAny_loadPart_at hC ?_
  | with_reducible refine wpAny_madeBy_exc hC ?_
  | wp_step)
 refine codeAny_call_builtin_code (Code.quiet_builtin _ F.quiet) (pA hC ?_)
 refine u_new hC ?_ hl
 show wpAny _ _ _ _ _ _
 generalize hP:((h.push { cls:=.type "tuple",data:=.seq rest.toArray }).push { cls:=.ref C,data:=.fields #[.ref h.objs.size,.none,.none,.none,.bool false,.none] })=hh
 have up:∀ b u,h.get? b=some u→hh.get? b=some u:=fun b u e=>by
  rw [←hP];exact Heap.get?_push_of_some _ (Heap.get?_push_of_some _ e)
 have got:hh.get? (h.objs.size+1)=some { cls:=.ref C,data:=.fields #[.ref h.objs.size,.none,.none,.none,.bool false,.none] }:=by
  rw [←hP];heap_get
 have got0:hh.get? h.objs.size=some { cls:=.type "tuple",data:=.seq rest.toArray }:=by
  rw [←hP];exact Heap.get?_push_of_some _ (Heap.get?_push_at rfl rfl)
 have hC1:=up _ _ hC
 have hself:(Value.ref C::bmU U).contains (.ref C)=true:=by simp
 unfold isInstance;repeat (first
  | with_reducible refine wpAny_loadPart_at got ?_
  | (with_reducible refine wpAny_isSubtype_exc hC1 ?_;rw [hself])
  | wp_step)
 show wpAny _ _ (typeLookup (.ref C) _) _ _ _
 refine hL _ _ _ _ up ?_
 refine wpAny_holding (wpAny_bind ?_)
 unfold bindSpecial;refine wpAny_bind (wpAny_typeOf (T:="function") ⟨_,up _ _ hI,hIc⟩ ?_)
 rw [if_pos (by decide)]
 refine wpAny_pure (wpAny_bind (wpAny_mono (z hh (h.objs.size+1) ⟨up,Heap.get?_none_of_le (Nat.le_succ _),h.objs.size,got,Heap.get?_none_of_le (aK _),got0⟩) (fun r s' hr=>?_) fun _ _ y=>y))
 obtain ⟨rfl,hQ⟩:=hr
 wp_walk
 exact hQ
theorem w8 {rest:List Value} {fI:Addr} {oI:Obj} {Q:Value→Shared→Prop} (hC:h.get? C=some (excClassObj nm q C N bs (bmU U) true sn sub ab col dd k0 k1 k2 k3 k5 "Exception.__new__"))
  (hL:PySem.W.Looks (model prog w) h (typeLookup (.ref C) "__init__") (some (.ref fI))) (hI:h.get? fI=some oI) (hIc:oI.cls = .type "function")
  (z:∀ h' e,Heap.MadeExcOf h h' e (.ref C) rest→wpAny (model prog w) (A.under (.builtin "type.__call__" ⟨.ref C::rest,[]⟩)) (call (.ref fI) (.ref e::rest)) (fun r s'=>r = .none∧Q (.ref e) s') E ⟨h',g,d,t,os⟩) (hl:rest.length≤sizeLine) :
  wpAny (model prog w) A (call (.ref C) rest) Q E ⟨h,g,d,t,os⟩:=by
 have f1:=tc_lookup
 have f2:=tc_bind (.ref C)
 have ht:(⟨h,g,d,t,os⟩:Shared).TypeIs (.ref C) "type":=⟨_,hC,rfl⟩
 refine wpAny_call (codeAny_of_tree ?_)
 show wpAny _ _ (callAny (.ref C) _) _ _ _
 repeat (any_goals (first
  | assumption
  | with_reducible refine wpAny_loadPart_at hC ?_
  | wp_step))
 refine ⟨rfl,?_⟩
 refine codeAny_call_builtin_at (Code.quiet_builtin _ (by decide +kernel)) entry_typeCall (wpAny_check_type_call_sub hC (pq hC hL hI hIc (fun h' e hm=>?_) hl))
 exact z h' e hm
theorem pw {tk:Tok} {Q:Fin→Shared→Prop} (hC:h.get? C=some (excClassObj nm q C N bs (bmU U) true sn sub ab col dd k0 k1 k2 k3 k5 "Exception.__new__"))
  (hL:PySem.W.Looks (model prog w) h (typeLookup (.ref C) name) none) (hx:h.get? x=some o) (hc:o.cls = .ref C) (hdn:o.dict=none) (hnc:∀ c,o.data≠.cls c)
  (z:∀ h' tk',h'.get? x=some { o with dict:=some h.objs.size }→h'.Ns1 h.objs.size (fun y=>if y=name then some v else none) →
   (∀ b u,b≠x→h.get? b=some u→h'.get? b=some u)→Q (.done (.ret .none)) ⟨h',g,d,tk',os⟩) :
  wpAny (model prog w) A (Builtin.«object.__setattr__» ⟨[.ref x,.str name tk,v],[]⟩) Q E ⟨h,g,d,t,os⟩:=by
 have hp:=PySem.F.store_Exception.passes (.ref x)
 have hxs:x≠h.objs.size:=bu (Heap.lt_size hx)
 unfold Builtin.«object.__setattr__»
 repeat (first
  | rw [refuse_eq]
  | rw [refuseLoop_ref,refuseLoop_ref,hp]
  | (with_reducible refine wpAny_loadPart_at hx ?_;rw [hc])
  | with_reducible refine wpAny_mroOf_exc hC ?_
  | (with_reducible refine hL.at ?_)
  | wp_step)
 rw [hdn,if_neg (by simp [typeHasDict])]
 split
 ·rename_i y
  cases y
 split
 ·rename_i c y
  exact absurd y (hnc c)
 ·have hx1:(h.push { cls:=.type "dict",data:=.dict #[] }).get? x=some o:=Heap.get?_push_of_some _ hx
  refine wpAny_bind (wpAny_alloc' (wpAny_bind (wpAny_update' hx1 (wpAny_pure ?_))))
  generalize hU:((h.push { cls:=.type "dict",data:=.dict #[] }).update x fun o=>{ cls:=o.cls,dict:=some h.objs.size,data:=o.data,slots:=o.slots })=hh
  have e1:hh.get? h.objs.size=some { cls:=.type "dict",data:=.dict #[] }:=by
   rw [←hU];exact (Heap.get?_update_ne _ _ _ _ hxs.symm).trans (Heap.get?_push_at rfl rfl)
  have e2:hh.get? x=some { o with dict:=some h.objs.size }:=by
   rw [←hU];refine Heap.get?_update_self _ hx1 ?_
   have hfr:=(Heap.get?_some_iff.mp hx).2
   obtain ⟨oc,od,odt,osl⟩:=o
   cases odt<;>first | rfl | exact hfr
  have e3:∀ b u,b≠x→h.get? b=some u→hh.get? b=some u:=fun b u hb hbu=>by
   rw [←hU];exact (Heap.get?_update_ne _ _ _ _ hb).trans (Heap.get?_push_of_some _ hbu)
  have e4:hh.Ns h.objs.size (fun _=>none):=⟨_,#[],_,e1,rfl,fun e he=>absurd he (by simp),fun _=>rfl⟩
  show wpAny _ _ (storeInDict h.objs.size (.str name tk) name v) _ _ _
  unfold storeInDict newKeyGuard;refine wpAny_bind (wpAny_pure (wpAny_bind (wpAny_nsSet1 (Heap.Ns1.of_empty e4) fun h' n1 sb=>?_)))
  obtain ⟨oD,esD,epD,hoD,hdD,hcD⟩:=n1.count (Within.cons name v Within.nil)
  refine wpAny_bind (wpAny_lookBehind hoD (by rw [hdD];exact pastItsLine_dict (bF hcD (by rw [aj,c9,sizeLine_eq];omega))) ?_)
  wp_walk
  exact z h' _ ((sb.2 x hxs).trans e2) n1 fun b u hb hbu=>(sb.2 b (bu (Heap.lt_size hbu))).trans (e3 b u hb hbu)
theorem qp {R:Result→Shared→Prop} {tk:Tok} (hC:h.get? C=some (excClassObj nm q C N bs (bmU U) true sn sub ab col dd k0 k1 k2 k3 k5 "Exception.__new__"))
  (hx:h.get? x=some o) (hc:o.cls = .ref C)
  (z:∀ (A:Around) (T:Fin→Shared→Prop) (E:Value→Shared→Prop),(∀ s',R (.ok (.ret .none)) s'→T (.done (.ret .none)) s') →
   wpAny (model prog w) A (Builtin.«object.__setattr__» ⟨[.ref x,.str name tk,v],[]⟩) T E ⟨h,g,d,t,os⟩) :
  codeAny (model prog w) A (.call (.builtin "object.__setattr__") ⟨[.ref x,.str name tk,v],[]⟩) R ⟨h,g,d,t,os⟩:=by
 have SF:=PySem.F.store_Exception
 refine codeAny_call_builtin SF.slot.plain SF.entry (@PySem.W.check_slot (model prog w) _ _ ⟨h,g,d,t,os⟩ "object.__setattr__" "object" "__setattr__" (.ref x) [.str name tk,v] [] _ SF.kind SF.split (ub hC hx hc (by decide +kernel)) (SF.args (.ref x) (.str name tk) v) ?_)
 refine z _ _ _ ?_
 intro s' y
 exact y
theorem qr {Q:Unit→Shared→Prop} (hL:PySem.W.Looks (model prog w) h (typeLookup (.ref C) "__setattr__") (some (.builtin "object.__setattr__"))) (hx:h.get? x=some o) (hc:o.cls = .ref C)
  (z:∀ (A:Around) (R:Result→Shared→Prop) (tk t':Nat),(∀ s',Q () s'→R (.ok (.ret .none)) s') →
   codeAny (model prog w) A (.call (.builtin "object.__setattr__") ⟨[.ref x,.str name tk,v],[]⟩) R ⟨h,g,d,t',os⟩) :
  wpAny (model prog w) A (setAttr (.ref x) name v) Q E ⟨h,g,d,t,os⟩:=by
 have f3:=PySem.F.store_Exception.slot.bind (.ref x)
 unfold setAttr callSpecial? specialOf
 repeat (any_goals (first
  | assumption
  | (with_reducible refine wpAny_loadPart_at hx ?_;rw [hc])
  | (with_reducible refine hL.at ?_)
  | wp_step))
 refine z _ _ _ _ fun s' y=>?_
 obtain ⟨hh,gg,dd',tt,oo⟩:=s'
 repeat (any_goals (first | (with_reducible assumption) | wp_step))
theorem px {tk:Tok} {Q:Fin→Shared→Prop} (hC:h.get? C=some (excClassObj nm q C N bs (bmU U) true sn sub ab col dd k0 k1 k2 k3 k5 "Exception.__new__"))
  (hL:PySem.W.Looks (model prog w) h (typeLookup (.ref C) name) none)
  (hx:h.get? x=some o) (hc:o.cls = .ref C) (hnc:∀ c,o.data≠.cls c) (hdn:o.dict=some dx) (hns:h.Ns1 dx mA) (hv:mA name=some v) (z:Q (.done (.ret v)) ⟨h,g,d,t,os⟩) :
  wpAny (model prog w) A (Builtin.«object.__getattribute__» ⟨[.ref x,.str name tk],[]⟩) Q E ⟨h,g,d,t,os⟩:=by
 unfold Builtin.«object.__getattribute__»
 repeat (first
  | (with_reducible refine wpAny_loadPart_at hx ?_;rw [hc])
  | (with_reducible refine hL.at ?_)
  | wp_step)
 split
 ·rename_i c y
  exact absurd y (hnc c)
 unfold instanceDict;repeat (first
  | (with_reducible refine wpAny_loadPart_at hx ?_;rw [hc])
  | with_reducible refine wpAny_loadPart_at hC ?_
  | wp_step)
 rw [hdn];repeat (first | (with_reducible refine wpAny_nsGet hns.ns ?_;rw [hv]) | wp_step)
 exact z
theorem qs {tk:Tok} {R:Result→Shared→Prop} (hC:h.get? C=some (excClassObj nm q C N bs (bmU U) true sn sub ab col dd k0 k1 k2 k3 k5 "Exception.__new__"))
  (hL:PySem.W.Looks (model prog w) h (typeLookup (.ref C) name) none)
  (hx:h.get? x=some o) (hc:o.cls = .ref C) (hnc:∀ c,o.data≠.cls c) (hdn:o.dict=some dx) (hns:h.Ns1 dx mA) (hv:mA name=some v) (z:R (.ok (.ret v)) ⟨h,g,d,t,os⟩) :
  codeAny (model prog w) A (.call (.builtin "BaseException.__getattribute__") ⟨[.ref x,.str name tk],[]⟩) R ⟨h,g,d,t,os⟩ :=
 codeAny_call_builtin PySem.F.attrBase_Exception.ga.plain PySem.F.entry_bexc_ga
  (@PySem.W.check_slot (model prog w) _ _ ⟨h,g,d,t,os⟩ "BaseException.__getattribute__" "BaseException" "__getattribute__" (.ref x) [.str name tk] [] _ (by decide +kernel) (by decide +kernel) (ub hC hx hc (by decide +kernel)) (PySem.F.args_bexc_ga (.ref x) (.str name tk))
   (px hC hL hx hc hnc hdn hns hv z))
theorem ud {tk:Tok} {fill expr:Bool} {Q:Value→Shared→Prop} (hC:h.get? C=some (excClassObj nm q C N bs (bmU U) true sn sub ab col dd k0 k1 k2 k3 k5 "Exception.__new__"))
  (hL:PySem.W.Looks (model prog w) h (typeLookup (.ref C) name) none) (hL1:PySem.W.Looks (model prog w) h (typeLookup (.ref C) "__getattribute__") (some (.builtin "BaseException.__getattribute__"))) (hL2:PySem.W.Looks (model prog w) h (typeLookup (.ref C) "__getattr__") none)
  (hx:h.get? x=some o) (hc:o.cls = .ref C) (hnc:∀ c,o.data≠.cls c) (hdn:o.dict=some dx) (hns:h.Ns1 dx mA) (hv:mA name=some v) (hh:handedOut v=pure v) (z:Q v ⟨h,g,d,t,os⟩) :
  wpAny (model prog w) A (getAttrBy (.ref x) (.str name tk) fill expr) Q E ⟨h,g,d,t,os⟩:=by
 have f3:=PySem.F.attrBase_Exception.ga.bind (.ref x)
 have z0:(expr&&onTheHeap (Value.builtin "BaseException.__getattribute__"))=false:=by cases expr<;>rfl
 have z2:(Value.builtin "BaseException.__getattribute__"==Value.builtin "object.__getattribute__")=false:=by decide +kernel
 have z1:(onTheHeap (Value.ref C)&&Value.builtin "BaseException.__getattribute__"==Value.builtin "object.__getattribute__")=false:=by rw [z2];rfl
 repeat (any_goals (first
  | assumption
  | (with_reducible refine wpAny_loadPart_at hx ?_;rw [hc])
  | (with_reducible refine hL1.at ?_)
  | (with_reducible refine hL2.at ?_)
  | wp_step))
 refine qs hC hL hx hc hnc hdn hns hv ?_
 repeat (any_goals (first | assumption | wp_step))
 all_goals (first | (rw [hh];exact wpAny_pure z) | exact z)
theorem qt {expr:Bool} {Q:Value→Shared→Prop} (hC:h.get? C=some (excClassObj nm q C N bs (bmU U) true sn sub ab col dd k0 k1 k2 k3 k5 "Exception.__new__"))
  (hL:PySem.W.Looks (model prog w) h (typeLookup (.ref C) name) none) (hL1:PySem.W.Looks (model prog w) h (typeLookup (.ref C) "__getattribute__") (some (.builtin "BaseException.__getattribute__"))) (hL2:PySem.W.Looks (model prog w) h (typeLookup (.ref C) "__getattr__") none)
  (hx:h.get? x=some o) (hc:o.cls = .ref C) (hnc:∀ c,o.data≠.cls c) (hdn:o.dict=some dx) (hns:h.Ns1 dx mA) (hv:mA name=some v) (hh:handedOut v=pure v) (z:Q v ⟨h,g,d,t+1,os⟩) :
  wpAny (model prog w) A (getAttr (.ref x) name expr) Q E ⟨h,g,d,t,os⟩:=by
 unfold getAttr;refine wpAny_bind (wpAny_mkText ?_)
 exact ud hC hL hL1 hL2 hx hc hnc hdn hns hv hh z
end
section
variable {X:Cx} {pins:List (Addr×Obj)} {σ:St} {H:Hp} {s:Shared} {e C U fI dx:Addr} {v:V} {u:Value} {E:Value→Shared→Prop} {A:Around}
theorem vm {Q:Unit→Shared→Prop} (I:Inv X pins σ H s) (c:f6 X.K U C fI) (he:H e=some (XE e C none)) (rv:cM v u)
  (h:∀ dx s',H dx=none→dx≠e→Inv X pins σ (upd (upd H dx (XD dx [("answer",v)])) e (XE e C (some dx))) s'→Q () s'):wpAny (model X.prog X.w) A (setAttr (.ref e) "answer" u) Q E s:=by
 obtain ⟨nm,q,N,bs,sn,sub,ab,col,dd,k0,k1,k2,k3,k5,lC⟩:=c.ob
 have hC:=I.kIn _ _ lC
 obtain ⟨o,vs,ho,hc,hd,hdat,h1⟩:=pj I.hok he
 have hnc:∀ c,o.data≠.cls c:=fun c z=>by rw [hdat] at z;cases z
 have KX:=I.kIn
 obtain ⟨hh,gg,dr,tt,oo⟩:=s
 refine qr (PySem.W.looks_findIn KX c.sa) ho hc fun A R tk t' hR=>?_
 refine qp hC ho hc fun A T E' hT=>?_
 refine pw hC (PySem.W.looks_findIn KX c.an) ho hc hd hnc fun h' tk' e1 e2 e3=>hT _ (hR _ ?_)
 have hfr:H hh.objs.size=none:=I.hok.fresh (aK _)
 have nes:hh.objs.size≠e:=fun z=>by rw [z,he] at hfr;cases hfr
 refine h hh.objs.size _ hfr nes ?_
 have nE:∀ b w,H b=some w→(∀ φ,w≠.ext φ)→b≠e:=fun b w q nw=>cQ q he (nw _)
 have nS:∀ b w,H b=some w→b≠hh.objs.size:=fun b w q=>ah q hfr
 have at_:∀ b w,H b=some w→(∀ φ,w≠.ext φ)→upd (upd H hh.objs.size (XD hh.objs.size [("answer",v)])) e (XE e C (some hh.objs.size)) b=some w:=fun b w q nw=>by
  rw [ai (nE b w q nw),ai (nS b w q)];exact q
 have un:Un X.fs [] H (upd (upd H hh.objs.size (XD hh.objs.size [("answer",v)])) e (XE e C (some hh.objs.size))) hh h':=by
  refine ⟨fun b w q n _ _=>e3 b w (fun z=>by rw [z,he] at n;cases n) q,fun b w q n _ _=>⟨w.slots,e3 b w (fun z=>by rw [z,he] at n;cases n) q⟩,fun b w q n _=>?_,fun b w q _=>?_,
   fun b xs q=>at_ b _ q (fun _ z=>nomatch z),fun b w xs q=>at_ b _ q (fun _ z=>nomatch z),fun b ps q=>⟨#[],by rw [at_ b _ q (fun _ z=>nomatch z)];simp⟩⟩
  ·rw [ai (fun z=>by rw [z,he] at n;cases n),ai (bu (Heap.lt_size q))];exact n
  ·by_cases z:b=e
   ·exact ⟨_,by rw [z];exact e1⟩
   ·exact ⟨w,e3 b w z q⟩
 refine I.un (h':=h') un fun b w q=>?_
 by_cases z:b=e
 ·subst z;rw [aA] at q;cases q;exact rn e1 hc rfl hdat h1
 ·rw [ai z] at q;by_cases z2:b=hh.objs.size
  ·subst z2;rw [aA] at q;cases q;refine t8 e2 (fun g=>?_) fun g hg=>?_
   ·show iV (List.lookup g [("answer",v)]) (if g = "answer" then some u else none)
    by_cases y:g = "answer"
    ·have hb:(g==("answer" : Str))=true:=beq_iff_eq.mpr y
     simp only [List.lookup,hb,if_pos y];exact rv
    ·have hb:(g==("answer" : Str))=false:=beq_eq_false_iff_ne.mpr y
     simp only [List.lookup,hb,if_neg y];trivial
   ·by_cases y:g = "answer"
    ·simp [y]
    ·exact absurd (show (if g = "answer" then some u else none)=none from if_neg y) hg
  ·rw [ai z2] at q;refine (I.hok b w q).stay (fun b' v' hc' r=>e3 b' v' ?_ r) (fun b' r=>at_ b' _ r (fun _ z=>nomatch z)) fun b' xs r=>at_ b' _ r (fun _ z=>nomatch z)
   rcases hc' with y | y
   ·rw [y];exact z
   ·exact nE b' _ y (fun _ z=>nomatch z)
theorem wZ {Q:Value→Shared→Prop} {b:Bool} (I:Inv X pins σ H s) (c:f6 X.K U C fI) (he:H e=some (XL e C dx)) (hd:H dx=some (XD dx [("answer",v)]))
  (h:∀ u s',Inv X pins σ H s'→cM v u→Q u s'):wpAny (model X.prog X.w) A (getAttr (.ref e) "answer" b) Q E s:=by
 obtain ⟨nm,q,N,bs,sn,sub,ab,col,dd,k0,k1,k2,k3,k5,lC⟩:=c.ob
 have hC:=I.kIn _ _ lC
 obtain ⟨o,vs,ho,hc,hdo,hdat⟩:=xl_of I.hok he
 obtain ⟨mA,n1,rl,wi⟩:=wI I.hok hd
 have hnc:∀ c,o.data≠.cls c:=fun c z=>by rw [hdat] at z;cases z
 obtain ⟨u,hu,ru⟩:=iV.some_of (v:=v) (o:=mA "answer") (rl "answer")
 have KX:=I.kIn
 obtain ⟨hh,gg,dr,tt,oo⟩:=s
 exact qt hC (PySem.W.looks_findIn KX c.an) (PySem.W.looks_findIn KX c.ga) (PySem.W.looks_findIn KX c.gr) ho hc hnc hdo n1 hu (PySem.W.handedOut_of (nX ru)) (h u _ (I.tok _) ru)
end
section
variable {X:Cx} {U:Addr} {o value e:Expr} {pos pos':Pos} {ta tv:TE}
def sU1 (K:Fg_) (U:Addr) (ta tv:TE):TS:=fun D σ H=>tv σ H fun y H1=>ta σ H1 fun x H2=>∃ e C fI,x = .ref e∧f6 K U C fI∧H2 e=some (XE e C none)∧∀ dx,H2 dx=none→dx≠e→D.nx σ (upd (upd H2 dx (XD dx [("answer",y)])) e (XE e C (some dx)))
def tUf (K:Fg_) (U:Addr) (ta:TE):TE:=fun σ H Q=>ta σ H fun x H1=>∃ e C fI dx v,x = .ref e∧f6 K U C fI∧H1 e=some (XL e C dx)∧H1 dx=some (XD dx [("answer",v)])∧Q v H1
theorem ps_u1 (ha:PE X o ta) (hv:PE X value tv) (hs:swapsWith value (some (.Attribute o "answer" pos')) pos.line X.env=pure false):PS X (.Assign [.Attribute o "answer" pos'] value pos) (sU1 X.K U ta tv):=by
 intro pins s σ H D I h;refine plainObj_wpAny_Assign_Attribute (thn (hv pins s σ H _ I h) fun u s1 ⟨y,H1,I1,ry,q⟩=>thn (ha pins s1 σ H1 _ I1 q) fun ov s2 ⟨x,H2,I2,rx,a,C,fI,ex,c,ea,q2⟩=>?_) hs
 subst ex;obtain rfl:ov=Value.ref a:=rx
 exact vm I2 c ea ry fun dx s3 n ne I3=>⟨σ,_,I3,q2 dx n ne⟩
theorem pe_uf {K:Fg_} (hK:X.K=K) (he:PE X e ta) (hb:attributeBase e "answer" X.env (eval e X.env)=eval e X.env):PE X (.Attribute e "answer" pos) (tUf K U ta):=by
 subst hK;intro pins s σ H Q I h;refine sx hb (thn (he pins s σ H _ I h) fun u s1 ⟨x,H1,I1,rx,a,C,fI,dx,v,ex,c,ea,ed,q⟩=>?_)
 subst ex;obtain rfl:u=Value.ref a:=rx
 exact wZ I1 c ea ed fun u' s2 I2 ru=>⟨v,H1,I2,ru,q⟩
end
section
variable {X:Cx} {CX:CXT} {k:Nat} {f U:Addr} {fd:FuncData} {ps:List Str} {sp:Sp} {dvs:List V} {ds:List Value} {E:XK} {x m:Str} {p pos apos:Pos} {e:Expr} {es:List Expr} {t:TA}
structure qj (K:Fg_) (U:Addr) (m:Str) (f:Addr):Prop where
 rd:PySem.W.readsIn K U (.type "type")=true
 fc:PySem.W.findCls K (.ref U) (.type "type") m=some (.val (.ref f))
 sg:PySem.W.specialIn K (.ref U) "__getattribute__" = some (some (.builtin "type.__getattribute__"))
 kp:PySem.W.keepIn K (.ref f)=true
theorem oy {pl:Sem Bool} (hg:Gl X x) (hm:X.mg x=some (.ref U)) (c:qj X.K U m f) (F:bt X.prog X.w X.K X.mg X.base CX k f fd ps sp) (hr:cq k X.A) (hb:cB X.K fd ps ds) (hd:b8 dvs ds) (hx:fS CX X E) (ha:PA X (e::es) t)
  (hdb:(x==("__debug__" : Str))=false:=by decide) (hst:starEach (e::es) X.env=(false,eval e X.env)::starEach es X.env:=by rfl) (hpl:(backTo pos (starEach es X.env)).any (·.1)=false:=by rfl)
  (ht:eval (.Call (.Attribute (.Name x p) m apos) (e::es) [] pos) X.env=(do
   let ov ←eval (.Name x p) X.env
   standAt apos.atName
   let (f,first) ←holding [ov] (getMethod ov m pl)
   callWith pos f first (backTo pos (starEach (e::es) X.env)) (backToKw pos (keywordEach [] X.env))):=by rfl) :
  PE X (.Call (.Attribute (.Name x p) m apos) (e::es) [] pos) (uk sp dvs E t):=by
 intro pins s σ H Q I h;refine PySem.W.methodCall_KW (pl:=pl) (fW I hg hm ?_ hdb) ht
 refine PySem.W.method_cls I.kIn c.sg (PySem.W.cls_value I.kIn c.rd c.fc rfl ?_)
 refine PySem.W.callWith_K (first:=[]) (h₀:=X.base) I.ok.mod.kin c.kp (thn (ha pos pins _ σ H _ (I.tok _) h) fun us s2 ⟨vs,H2,I2,r,q2⟩=>⟨I2.kIn,?_⟩) hst hpl
 exact ot (us:=us) F hr hb hd hx I2 r q2
end
def ic (E:XK) (C:Addr) (ans:List V):Prop:=∀ H' dx a,H' dx=some (XD dx [("answer",.ref a)])→H' a=some (.lst ans)→E (.ref C) (some dx) H'
def iL (C:Addr) (n:Nat) (ans:List V→List V):Sp:=fun vs H Q _=>∃ e rest,vs = .ref e::rest∧rest.length=n∧H e=some (XE e C none) ∧
 ∀ dx a H',dx≠e→H' e=some (XE e C (some dx))→H' dx=some (XD dx [("answer",.ref a)])→H' a=some (.lst (ans rest))→Q .non H'
def rJ (C:Addr) (E:XK) (n:Nat) (ans:List V→List V) (t:TA):TS:=fun _ σ H=>t σ H fun vs _=>vs.length=n∧ic E C (ans vs)
def wW (X:Cx) (U C:Addr) (v:Value) (s1:Shared):Prop:=∃ (e:Addr) (nm q:Str) (N:Addr) (bs:List Value) (sn:List Str) (sub:List Value) (ab:Bool) (col:Option Bool) (dd:Option Addr) (k0 k1 k2 k3 k5:Option Value) (o:Obj) (vs:Array Value),
 v = .ref e∧s1.heap.get? C=some (excClassObj nm q C N bs (bmU U) true sn sub ab col dd k0 k1 k2 k3 k5 "Exception.__new__")∧s1.heap.get? e=some o∧o.cls = .ref C∧o.data = .fields vs∧vs[1]? = some .none∧X.xe (.ref e) s1
section
variable {X:Cx} {U C fI:Addr} {fd:FuncData} {x:Str} {np cpos pos:Pos} {a:Expr} {E:XK} {t:TA} {k n:Nat} {ps:List Str} {ans:List V→List V}
theorem nI {s:Shared} {m:Sem Value} {Q:Flow→Shared→Prop} (hh:X.A.handled=none) (h:wpAny (model X.prog X.w) X.A m (wW X U C) X.xe s) :
  wpAny (model X.prog X.w) X.A (raiseStmt X.env (some m) none) Q X.xe s:=by
 have hcB:=lJ (C:=C) (U:=U) (T:="BaseException") (by decide +kernel)
 unfold raiseStmt;refine wpAny_bind (wpAny_mono h (fun v s1 h1=>?_) fun _ _ z=>z)
 obtain ⟨e,nm,q,N,bs,sn,sub,ab,col,dd,k0,k1,k2,k3,k5,o,vs,rfl,hC,he,hc,hd,hv,hE⟩:=h1
 obtain ⟨hp,g,d,tk,os⟩:=s1
 repeat (first
  | (with_reducible refine wpAny_loadPart_at he ?_;rw [hc])
  | (with_reducible refine wpAny_loadPart_at he ?_)
  | with_reducible refine wpAny_loadPart_at hC ?_
  | (with_reducible refine wpAny_isSubtype_exc hC ?_;rw [hcB])
  | with_reducible refine wpAny_field he hd hv ?_
  | wp_step)
 exact wpAny_raiseNew_none hh hE
theorem me {pins:List (Addr×Obj)} {σ:St} {H1:Hp} {s1:Shared} {us:List Value} {vs:List V} {Qv:Value→Shared→Prop} (c:f6 X.K U C fI) (F:bt X.prog X.w X.K X.mg X.base CX0 k fI fd ps (iL C n ans)) (hbi:cB X.K fd ps []) (hps:ps.length=n+1)
  (hr:cq (k+1) X.A) (hfl:ib X E) (hxx:X.ex=[]) (I1:Inv X pins σ H1 s1) (r:b8 vs us) (hn:vs.length=n) (hsz:us.length≤sizeLine) (q:ic E C (ans vs)) (hQ:∀ v s',wW X U C v s'→Qv v s') :
  wpAny (model X.prog X.w) X.A (call (.ref C) us) Qv X.xe s1:=by
 obtain ⟨nm,q',N,bs,sn,sub,ab,col,dd,k0,k1,k2,k3,k5,lC⟩:=c.ob
 have KX:=I1.kIn
 have hC:=KX _ _ lC
 have fn:=c.fn
 unfold PySem.W.isFn at fn;have fn2:=beq_iff_eq.mp fn
 unfold PySem.W.typeIn at fn2;obtain ⟨oI,hoI,hcI⟩:=Option.map_eq_some_iff.mp fn2
 obtain ⟨hh,gg,dr,tt,oo⟩:=s1
 refine w8 hC (PySem.W.looks_findIn KX c.ini) (KX _ _ hoI) hcI (fun h' e md=>?_) hsz
 obtain ⟨tu,e1,e2,e3⟩:=md.there
 have he:H1 e=none:=by
  cases z:H1 e with
  | none=>rfl
  | some w =>
   obtain ⟨oz,hz⟩:=ij (I1.hok e w z)
   rw [md.new] at hz;cases hz
 have y:fU X pins e:=hZ I1 hxx md.new
 have I2:Inv X pins σ (upd H1 e (XE e C none)) ⟨h',gg,dr,tt,oo⟩ :=
  kQ (I1.kept (h':=h') (t':=tt) md.keeps) y he (rn e1 rfl rfl rfl rfl)
 have hsp:iL C n ans (.ref e::vs) (upd H1 e (XE e C none)) (fun v H'=>v = .non∧∃ dx a,dx≠e∧H' e=some (XE e C (some dx))∧H' dx=some (XD dx [("answer",.ref a)])∧H' a=some (.lst (ans vs))) E0 :=
  ⟨e,vs,rfl,hn,aA,fun dx a H' z1 z2 z3 z4=>⟨rfl,dx,a,z1,z2,z3,z4⟩⟩
 have hl:(Value.ref e::us).length=ps.length:=by rw [aj,←r.length,hn,hps]
 refine wpAny_call (codeAny_mono (F.run _ X.stack _ _ ⟨.ref e::us,[]⟩ (.ref e::us) (.ref e::vs) _ _ (hr.make C us []) (I2.env0.make C us []) ?_ (.cons rfl r) hsp) fun r s' hq=>?_)
 ·have:=hbi ⟨h',gg,dr,tt,oo⟩ (.ref e::us) I2.kIn (by rw [bC];exact hl)
  rw [bC] at this;exact this
 ·cases r with
  | error x=>exact hq.elim
  | ok fl =>
   cases fl with
   | next=>exact False.elim hq
   | brk=>exact False.elim hq
   | cont=>exact False.elim hq
   | ret u =>
    obtain ⟨v,H',I3,rv,ev,dx,a,z1,z2,z3,z4⟩:=I2.after hq
    subst ev;refine ⟨rv,hQ _ _ ?_⟩
    obtain ⟨o,vs,ho,hc,hd,hdat,h1⟩:=pj I3.hok z2
    refine ⟨e,nm,q',N,bs,sn,sub,ab,col,dd,k0,k1,k2,k3,k5,o,vs,rfl,I3.kIn _ _ lC,ho,hc,hdat,h1,?_⟩
    exact hfl pins σ (m9 H' e) s' e C dx (qi I3 z2) (.inl ⟨o,vs,ho,hc,hd,hdat,h1⟩) i7 y (q _ dx a (by rw [fK z1];exact z3) (by rw [fK (cQ z4 z2 (by intro y;cases y))];exact z4))
theorem ji (c:f6 X.K U C fI) (F:bt X.prog X.w X.K X.mg X.base CX0 k fI fd ps (iL C n ans)) (hbi:cB X.K fd ps []) (hps:ps.length=n+1) (hr:cq (k+1) X.A) (hfl:ib X E) (hxx:X.ex=[]) (hg:Gl X x) (hm:X.mg x=some (.ref C))
  (ha:PA X [a] t) (hn:n≤100) (hdb:(x==("__debug__" : Str))=false:=by decide) (hst:starEach [a] X.env=(false,eval a X.env)::starEach [] X.env:=by rfl) (hpl:(backTo cpos (starEach [] X.env)).any (·.1)=false:=by rfl) :
  PS X (.Raise (some (.Call (.Name x np) [a] [] cpos)) none pos) (rJ C E n ans t):=by
 intro pins s σ H D I h;rw [arm_exec_Raise];refine wpAny_bind (wpAny_standAt (nI (U:=U) (C:=C) hr.hd (wpAny_bind (m:=eval (.Call (.Name x np) [a] [] cpos) X.env) ?_)))
 refine wpAny_Call_Name_kw (fW I hg hm ?_ hdb)
 refine PySem.W.callWith_K (h₀:=X.base) I.ok.mod.kin c.kp (thn (ha cpos pins s σ H _ I h) fun us s1 ⟨vs,H1,I1,r,hv,q⟩=>⟨I1.kIn,?_⟩) hst hpl
 refine me c F hbi hps hr hfl hxx I1 r hv (by rw [eO,←r.length,hv,sizeLine_eq];omega) q fun v s' z=>?_
 exact wpAny_bind (wpAny_standAt (wpAny_pure z))
theorem ir (c:f6 X.K U C fI) (F:bt X.prog X.w X.K X.mg X.base CX0 k fI fd ps (iL C 0 ans)) (hbi:cB X.K fd ps []) (hps:ps.length=1) (hr:cq (k+1) X.A) (hfl:ib X E) (hxx:X.ex=[]) (hg:Gl X x) (hm:X.mg x=some (.ref C))
  (hdb:(x==("__debug__" : Str))=false:=by decide) :
  PS X (.Raise (some (.Call (.Name x np) [] [] cpos)) none pos) (rJ C E 0 ans vo):=by
 intro pins s σ H D I h;rw [arm_exec_Raise];refine wpAny_bind (wpAny_standAt (nI (U:=U) (C:=C) hr.hd (wpAny_bind (m:=eval (.Call (.Name x np) [] [] cpos) X.env) ?_)))
 refine wpAny_Call_Name_kw (fW I hg hm ?_ hdb)
 have h:([]:List V).length=0∧ic E C (ans []):=h
 refine PySem.W.callWith_K0 I.kIn c.kp ?_
 refine me (us:=[]) (vs:=[]) c F hbi hps hr hfl hxx I .nil rfl (by show 0≤sizeLine;decide) h.2 fun v s' z=>?_
 exact wpAny_bind (wpAny_standAt (wpAny_pure z))
end
structure rb (K:Fg_) (CF U C:Addr):Prop where
 no:PySem.W.exmOne K (.ref C) (.ref CF)=some false
 yes:PySem.W.exmOne K (.ref C) (.ref U)=some true
def w2 (X:Cx) (CF U:Addr) (i:Nat) (ts1 ts2:TS) (D:iW):XK:=fun c od H'=>(c = .ref CF∧ts1 (Rt D) (fQ X) H') ∨
 ∃ C dx,c = .ref C∧rb X.K CF U C∧od=some dx∧∀ e,H' e=none→ts2 (Rt D) ((fQ X).set i (some (.ref e))) (upd H' e (XL e C dx))
def tTry2 (X:Cx) (CF U:Addr) (i:Nat) (tb:XK→TS) (ts1 ts2:TS):TS:=fun D σ H=>tb (w2 X CF U i ts1 ts2 D) D σ H
section
variable {X:Cx} {CF U fI:Addr} {x1 x2 n:Str} {np1 np2 hpos1 hpos2 pos:Pos} {body:List Stmt} {b1 b2:Stmt} {suite1 suite2:List Stmt} {tb:XK→TS} {ts1 ts2:TS} {i:Nat}
theorem rD {x:Str} {np hpos:Pos} {e C T dx:Addr} {b:Bool} {pins:List (Addr×Obj)} {σ:St} {H:Hp} {s:Shared} {R:Result→Shared→Prop} (hx:PySem.W.exmOne X.K (.ref C) (.ref T)=some b) (hg:Gl X x) (hm:X.mg x=some (.ref T)) (hdb:(x==("__debug__" : Str))=false)
  (I:Inv X pins σ H s) (ld:iC s.heap e C dx) (h:R (.ok (if b=true then .brk else .next)) s):codeAny (model X.prog X.w) (X.A.mark (some (.ref e))) (.handlers (.ref e) [.ExceptHandler (some (.Name x np)) none [] hpos] X.env) R s:=by
 refine codeAny_handlers_test (fW (X:=Xm X (.ref e) fun _ _=>False) (oP I) hg hm ?_ hdb)
 obtain ⟨o,vs,T',oT,tss,he,hc,hdx,hd,h1,hTe,hT,hdT,h3⟩:=ld
 have LT:PySem.W.Looks (model X.prog X.w) s.heap (typeOf (.ref e)) (.ref C):=by
  have:=(PySem.W.Looks.ld (M:=model X.prog X.w) (part:=none) he).andThen (f:=fun o=>pure o.cls) (b:=o.cls) .now
  rw [hc] at this;exact this
 exact (PySem.W.exm_one I.kIn LT hx).here h
theorem wq {D:iW} {pins:List (Addr×Obj)} (c:kN X.K CF fI) (hg1:Gl X x1) (hm1:X.mg x1=some (.ref CF)) (hg2:Gl X x2) (hm2:X.mg x2=some (.ref U)) (hdb1:(x1==("__debug__" : Str))=false) (hdb2:(x2==("__debug__" : Str))=false)
  (hf:X.env.frame=some X.env.locals) (hst:∃ outer,X.stack=X.env::outer) (hN:X.N.Nodup) (hi:X.N[i]? = some n) (hl:X.env.scope.names.lookup n=some .local)
  (hs1:∀ v,PSs (Xm X v fun _ _=>False) (b1::suite1) ts1) (hs2:∀ v,PSs (Xm X v fun _ _=>False) (b2::suite2) ts2) :
  ib (Xt X (X.pn++pins) (txe X pins D [.ExceptHandler (some (.Name x1 np1)) none (b1::suite1) hpos1,.ExceptHandler (some (.Name x2 np2)) (some n) (b2::suite2) hpos2])) (w2 X CF U i ts1 ts2 D):=by
 intro pins' σ H s e C' dx I0 fl hn y q
 have I:=hJ I0
 obtain ⟨outer,hst⟩:=hst
 have hfr:X.A.frames=some (X.env::outer):=by rw [←hst];exact I.ok.frames
 have hfun:s.heap.FunFrames X.base (X.env::outer):=by rw [←hst];exact I.stack
 refine p6 hfr hfun hf fl fun h' ld k=>?_
 rw [←hst] at k;have y':=qk y
 have I1:Inv X pins (fQ X) H { s with heap:=h' }:=qP (ia I hn y' k)
 rcases q with ⟨ec,q⟩ | ⟨C,dx',ec,sub,ed,q⟩
 ·cases ec;refine wpAny_handleBy_cons (ui c hg1 hm1 hdb1 I1 ld ?_) (by intro z;cases z)
  refine codeAny_handlers_suite (jJ ld ?_)
  refine wpAny_mono (hs1 (.ref e) pins _ (fQ X) H (Rt D) (oP I1) q) (fun f s2 z=>?_) fun _ _ z=>z.elim
  exact sR I.ok z
 ·cases ec;cases ed;refine wpAny_handleBy_cons (rD sub.no hg1 hm1 hdb1 I1 ld ?_) (by intro z;cases z)
  refine wpAny_handleBy_cons (rD sub.yes hg2 hm2 hdb2 I1 ld ?_) (by intro z;cases z)
  refine codeAny_handlers_suite_as (jJ ld ?_)
  obtain ⟨o,vs,T,oT,tss,he,hc,hdx,hd,h1,_⟩:=ld
  have I2:Inv X pins (fQ X) (upd H e (XL e C' dx)) { s with heap:=h' }:=kQ I1 y' hn (xl_ok he hc hdx hd)
  refine jz (X:=Xm X (.ref e) fun _ _=>False) (v:=.ref e) (oP I2) hN hi (.inl hl) rfl (fun s3 I3=>?_) (.inr hl)
  refine wpAny_mono (hs2 (.ref e) pins _ _ _ (Rt D) I3 (q e hn)) (fun f s2 z=>?_) fun _ _ z=>z.elim
  show wpAny _ _ _ _ _ _
  cases f with
  | next=>obtain ⟨_,_,_,z⟩:=z;exact z.elim
  | brk=>obtain ⟨_,_,_,z⟩:=z;exact z.elim
  | cont=>obtain ⟨_,_,_,z⟩:=z;exact z.elim
  | ret u =>
   obtain ⟨v,σ4,H4,I4,rv,z⟩:=z
   have I5:=rZ I.ok I4
   obtain ⟨m,hm4,_⟩:=id I5.loc
   have hcls:(X.env.scope.kind==.class||(X.env.scope.kind==.module&&X.env.locals != X.env.globals))=false:=by rw [I.ok.kind];rfl
   exact wpAny_nameGoes hl hm4 hcls fun h5 m5 n5 sb5=>⟨v,fQ X,H4,qO I5 n5 sb5,rv,z⟩
theorem vR (c:kN X.K CF fI) (hg1:Gl X x1) (hm1:X.mg x1=some (.ref CF)) (hg2:Gl X x2) (hm2:X.mg x2=some (.ref U)) (hf:X.env.frame=some X.env.locals) (hst:∃ outer,X.stack=X.env::outer) (hN:X.N.Nodup) (hi:X.N[i]? = some n) (hl:X.env.scope.names.lookup n=some .local)
  (hb:∀ pn xe E,ib (Xt X pn xe) E→PSs (Xt X pn xe) body (tb E)) (hs1:∀ v,PSs (Xm X v fun _ _=>False) (b1::suite1) ts1) (hs2:∀ v,PSs (Xm X v fun _ _=>False) (b2::suite2) ts2)
  (hdb1:(x1==("__debug__" : Str))=false:=by decide) (hdb2:(x2==("__debug__" : Str))=false:=by decide) :
  PS X (.Try body [.ExceptHandler (some (.Name x1 np1)) none (b1::suite1) hpos1,.ExceptHandler (some (.Name x2 np2)) (some n) (b2::suite2) hpos2] [] [] pos) (tTry2 X CF U i tb ts1 ts2):=by
 intro pins s σ H D I h;refine wpAny_Try_except (wpAny_mono (hb _ _ _ (wq (pins:=pins) (D:=D) c hg1 hm1 hg2 hm2 hdb1 hdb2 hf hst hN hi hl hs1 hs2) [] s σ H D (pW I) h) (fun f s1 z=>?_) fun e s1 z=>z)
 have z':=u7 I.ok z
 cases f with
 | next=>exact wpAny_execs_nil z'
 | brk=>exact z'
 | cont=>exact z'
 | ret u=>exact z'
end
theorem vZ {e:Value} {env env':Env} (h:env.frame=env'.frame):noteFrame e env=noteFrame e env':=by
 unfold noteFrame PySem.frameOf;rw [h]
def sE (h:Heap) (e C dx T:Addr):Prop :=
 ∃ o vs oT ts,h.get? e=some o∧o.cls = .ref C∧o.dict=some dx∧o.data = .fields vs∧vs[1]? = some (.ref T)∧T≠e∧h.get? T=some oT∧oT.data = .fields ts∧3<ts.size
def ph (X:Cx) (E:XK):Prop:=∀ (pins:List (Addr×Obj)) (σ:St) (H:Hp) (s:Shared) (e C dx T:Addr),Inv X pins σ H s→sE s.heap e C dx T→H e=none→H T=none→fU X pins e→fU X pins T→E (.ref C) (some dx) H→X.xe (.ref e) s
section
variable {M:Model} {A:Around} {E E':Value→Shared→Prop} {s:Shared}
theorem mO {base:Heap} {env:Env} {outer:List Env} {L e C dx:Addr} {o:Obj} {vs:Array Value} {head:Value} {had:Bool} {Q:Unit→Shared→Prop}
  (hfr:A.frames=some (env::outer)) (hl:s.heap.FunFrames base (env::outer)) (hf:env.frame=some L)
  (he:s.heap.get? e=some o) (hc:o.cls = .ref C) (hdx:o.dict=some dx) (hd:o.data = .fields vs) (hsz:1<vs.size)
  (h:∀ h' T,sE h' e C dx T→s.heap.get? T=none→t7 (frs (env::outer)) e s.heap h'→Q () { s with heap:=h' }) :
  wpAny M A (do
   let fo ←PySem.frameOf env
   let pl ←entryPlaceOf L had
   let b ←EntryCells.newEntry head fo .none (rawInt L) .none pl
   setField (.ref e) 1 b) Q E' s:=by
 have nfr:e∉frs (env::outer):=fun hm=>by
  obtain ⟨_,ob,ho,hnf⟩:=hl.mem hm
  rw [he] at ho;cases ho;exact hnf vs hd
 refine wpAny_bind (wpAny_frameOf_fun hfr hl hf fun h1 hs=>?_)
 refine wpAny_bind (wpAny_entryPlaceOf fun pl hpl=>?_)
 unfold EntryCells.newEntry newFields;refine wpAny_bind (wpAny_newObj_type ?_ (hpl.sizeOk5 _ _ _ _ _))
 generalize hX:({ cls:=.type "traceback",dict:=none,data:=.fields ([head,.ref L,.none,rawInt L,.none]++(if pl.isEmpty then List.replicate 6 Value.none else pl)).toArray }:Obj)=Xo
 have e1:h1.get? e=some o:=(hs.2.1 e nfr).trans he
 have e2:(h1.push Xo).get? e=some o:=Heap.get?_push_of_some _ e1
 refine wpAny_setField e2 hd hsz ?_
 have nT:h1.objs.size≠e:=fg (Heap.lt_size e1)
 have d3:=Obj.data_mapFields hd (·.setIfInBounds 1 (Value.ref h1.objs.size))
 have e3:=Heap.get?_update_self (Obj.mapFields (·.setIfInBounds 1 (Value.ref h1.objs.size))) e2 (Obj.isFreed_of_fields d3)
 have xf:∃ ts:Array Value,Xo.data = .fields ts∧3<ts.size:=by
  rw [←hX];exact ⟨_,rfl,by simp only [aM,aa,aj,c9];omega⟩
 obtain ⟨ts,xd,x3⟩:=xf
 have xn:Xo.isFreed=false:=Obj.isFreed_of_fields xd
 have t3:((h1.push Xo).update e (Obj.mapFields (·.setIfInBounds 1 (Value.ref h1.objs.size)))).get? h1.objs.size=some Xo :=
  (Heap.get?_update_other _ _ (Ne.symm nT)).trans (Heap.get?_push_size h1 xn)
 refine h _ h1.objs.size ?_ (Heap.get?_none_of_le (by rw [hs.1];exact aK _)) ⟨fun b ob nb ne hb=>?_,fun b ob nb hb=>?_⟩
 ·refine ⟨_,_,_,ts,e3,?_,?_,d3,by simp [hsz],nT,t3,xd,x3⟩
  ·rw [Obj.cls_mapFields];exact hc
  ·obtain ⟨c1,c2,c3,c4⟩:=o
   cases hd;exact hdx
 ·have q:h1.get? b=some ob:=(hs.2.1 b nb).trans hb
  rw [Heap.get?_update_other _ _ (Ne.symm ne)];exact Heap.get?_push_of_some _ q
 ·obtain ⟨sl,q⟩:=hs.2.2 b ob hb
  have ne:b≠e:=fun z=>nfr (z▸nb)
  refine ⟨sl,?_⟩
  rw [Heap.get?_update_other _ _ (Ne.symm ne)];exact Heap.get?_push_of_some _ q
theorem uW {base:Heap} {env:Env} {outer:List Env} {L e C dx:Addr} {Q:Unit→Shared→Prop}
  (hfr:A.frames=some (env::outer)) (hl:s.heap.FunFrames base (env::outer)) (hf:env.frame=some L) (x:Fly s.heap e C dx)
  (h:∀ h' T,sE h' e C dx T→s.heap.get? T=none→t7 (frs (env::outer)) e s.heap h'→Q () { s with heap:=h' }) :
  wpAny M A (noteFrame (.ref e) env) Q E' s:=by
 unfold noteFrame;simp only [hf];rcases x with ⟨o,vs,he,hc,hdx,hd,h1⟩ | ⟨o,vs,T,oT,ts,he,hc,hdx,hd,h1,hTe,hT,hdT,h3⟩
 ·refine wpAny_bind (wpAny_field he hd h1 ?_)
  rw [if_neg (by decide)]
  exact mO hfr hl hf he hc hdx hd (bQ.mp h1).1 h
 ·refine wpAny_bind (wpAny_field he hd h1 ?_)
  rw [if_pos (show (Value.ref T != Value.none)=true from by simp)]
  refine wpAny_bind (wpAny_field hT hdT h3 ?_)
  rw [if_neg (show ¬((Value.none==rawInt L)=true) from by simp [rawInt])]
  refine wpAny_bind (wpAny_setField hT hdT (bQ.mp h3).1 ?_)
  rw [Heap.update_setField_same s.heap T oT ts 3 .none hT hdT h3];exact mO hfr hl hf he hc hdx hd (bQ.mp h1).1 h
end
section
variable {X:Cx} {pins:List (Addr×Obj)} {σ:St} {H:Hp} {s:Shared} {e C dx T:Addr} {E:XK}
theorem pV {z:Value} {oT:Obj} {ts:Array Value} (I:Inv X pins σ H s) (hn:H T=none) (y:fU X pins T) (hT:s.heap.get? T=some oT) (hd:oT.data = .fields ts) :
  Inv X pins σ H { s with heap:=s.heap.update T (Obj.mapFields (·.setIfInBounds 3 z)) }:=by
 refine ia I hn y ⟨fun b o _ ne hb=>?_,fun b o hm hb=>?_⟩
 ·rw [Heap.get?_update_other _ _ (Ne.symm ne)];exact hb
 ·have ne:b≠T:=fun q=>by
   subst q;rcases aB.mp (I.stkSub b hm) with q | q
   ·exact y.loc q
   ·exact y.out q
  refine ⟨o.slots,?_⟩
  rw [Heap.get?_update_other _ _ (Ne.symm ne)];exact hb
theorem qZ {outer:List Env} {Q:Unit→Shared→Prop} {E1:Value→Shared→Prop} (I:Inv X pins σ H s) (hst:X.stack=X.env::outer) (hf:X.env.frame=some X.env.locals) (al:sE s.heap e C dx T) (hn:H e=none) (hnT:H T=none) (y:fU X pins e) (yT:fU X pins T)
  (h:∀ h',iC h' e C dx→Inv X pins σ H { s with heap:=h' }→Q () { s with heap:=h' }):wpAny (model X.prog X.w) X.A (leaving X.env (.ref e)) Q E1 s:=by
 obtain ⟨o,vs,oT,ts,he,hc,hdx,hd,h1,hTe,hT,hdT,h3⟩:=al
 have hfr:X.A.frames=some (X.env::outer):=by rw [←hst];exact I.ok.frames
 have I1:=pV (z:=Value.none) I hnT yT hT hdT
 have dT:=Obj.data_mapFields hdT (·.setIfInBounds 3 Value.none)
 have gT:=Heap.get?_update_self (Obj.mapFields (·.setIfInBounds 3 Value.none)) hT (Obj.isFreed_of_fields dT)
 have ge:(s.heap.update T (Obj.mapFields (·.setIfInBounds 3 Value.none))).get? e=some o:=(Heap.get?_update_other _ _ hTe).trans he
 have hz:ts[3]? = some ts[3]:=dH h3
 unfold leaving noteFrame;simp only [hf];refine wpAny_bind (wpAny_bind (wpAny_field he hd h1 ?_))
 rw [if_pos (show (Value.ref T != Value.none)=true from by simp)]
 refine wpAny_bind (wpAny_field hT hdT hz ?_)
 by_cases q:(ts[3]==rawInt X.env.locals)=true
 ·rw [if_pos q];refine wpAny_pure ?_
  unfold setFlight;refine wpAny_bind (wpAny_field he hd h1 ?_)
  rw [if_pos (show (Value.ref T != Value.none)=true from by simp)]
  refine wpAny_setField hT hdT h3 (h _ ?_ I1)
  exact ⟨o,vs,T,_,_,ge,hc,hdx,hd,h1,hTe,gT,dT,by simp [h3]⟩
 ·rw [if_neg q];refine wpAny_bind (wpAny_setField hT hdT h3 ?_)
  have hl1:(s.heap.update T (Obj.mapFields (·.setIfInBounds 3 Value.none))).FunFrames X.base (X.env::outer):=by
   have:=I1.stack
   rw [hst] at this;exact this
  refine jq (s:={ s with heap:=s.heap.update T (Obj.mapFields (·.setIfInBounds 3 Value.none)) }) hfr hl1 hf ge hc hdx hd (bQ.mp h1).1 fun h' ld k=>?_
  rw [←hst] at k;exact h h' ld (ia (s:={ s with heap:=s.heap.update T (Obj.mapFields (·.setIfInBounds 3 Value.none)) }) I1 hn y k)
theorem tQ {P:Program} {w:World} {K:Fg_} {mg:Str→Option Value} {base:Heap} {N:List Str} {qual:Str} {scope:Scope} {f:Addr} {cd:Value} {A:Around} {outer:List Env} {s:Shared} {H:Hp} {E:XK} :
  ph (cD (CXF P w) P w K mg base N qual scope f cd A outer s H E) E:=by
 intro pins σ H1 s1 e C dx T I al hn hnT y yT q;refine qZ (outer:=outer) I rfl rfl al hn hnT y yT fun h' ld I'=>?_
 exact ⟨e,C,dx,H1,rfl,I'.os,I'.bare,I'.base,I'.hok,ld,y.new,hn,q⟩
def txc (X:Cx) (use:Option (Value→Sem Unit)) (Qf:Value→Shared→Prop) (D:Value) (C:Addr) (ce:Env):Value→Shared→Prop :=
 notedBy (model X.prog X.w) X.A ce fun e s'=>compPost (model X.prog X.w) X.A X.xe use Qf D C (.error e) s'
theorem tP {H3:Hp} {s3:Shared} {scope:Scope} {ce:Env} {fp:List Addr} {pn:List (Addr×Obj)} {use:Option (Value→Sem Unit)} {Qf:Value→Shared→Prop} {D:Value} (I3:Inv X pins σ H3 s3) (cL:ce.locals=s3.heap.objs.size) (cF:ce.frame=X.env.frame)
  (f3:∀ b∈fp,ju X pins H3 b∧b<s3.heap.objs.size) (hft:ph X E) (hxx:X.ex=[]) (hst:∃ outer,X.stack=X.env::outer) (hf:X.env.frame=some X.env.locals) :
  ib (Xt (X.blk s3 H3 scope ce fp) pn (txc X use Qf D s3.heap.objs.size ce)) E:=by
 intro pins' σ' H' s' e C dx I' fl hn y q
 obtain ⟨outer,hst⟩:=hst
 have I7:Inv X pins σ H' s':=I3.call' (ch:=fp) I'.os I'.base I'.hok I'.bare fun b hb=>⟨(f3 b hb).1.2.2.2.1,(f3 b hb).1.2.1,(f3 b hb).1.2.2.2.2.1,(f3 b hb).1.2.2.2.2.2⟩
 have ye:fU X pins e:=hZ I3 hxx y.new
 have hfr:X.A.frames=some (X.env::outer):=by rw [←hst];exact I7.ok.frames
 have hfun:s'.heap.FunFrames X.base (X.env::outer):=by rw [←hst];exact I7.stack
 show wpAny _ _ (noteFrame (.ref e) ce) _ _ _
 rw [vZ cF];refine uW hfr hfun hf fl fun h' T al hT k=>?_
 rw [←hst] at k;have hnT:H' T=none:=by
  cases z:H' T with
  | none=>rfl
  | some w =>
   obtain ⟨oz,hz⟩:=ij (I7.hok T w z)
   rw [hT] at hz;cases hz
 have yT:fU X pins T:=hZ I7 hxx hT
 have I8:Inv X pins σ H' { s' with heap:=h' }:=ia I7 hn ye k
 have Ib:=ia I' hn y k
 have nC:H' s3.heap.objs.size=none:=by
  have z:H' ce.locals=none:=I'.free
  rw [cL] at z;exact z
 obtain ⟨m,hnm,_⟩:=Ib.loc
 have hnm:h'.Ns ce.locals m:=hnm
 have neC:e≠s3.heap.objs.size:=by
  have:e≠ce.locals:=y.loc
  rw [cL] at this;exact this
 have nTC:T≠s3.heap.objs.size:=fun z=>by
  obtain ⟨m',⟨o',_,_,ho',_⟩,_⟩:=I'.loc
  have ho':s'.heap.get? ce.locals=some o':=ho'
  rw [cL,←z,hT] at ho'
  cases ho'
 rw [cL] at hnm;refine ⟨m,hnm,fun h3 sb cenv hcl=>?_⟩
 obtain ⟨f0,f1,f2,f3',f4,f5⟩:=I3.fpOk (H':=H') (aK _) nC
 have I9:Inv X pins σ H' { s' with heap:=h3 }:=I8.turned (t':=s'.toks) (fun b o hb e=>(sb.2 b hb).trans e) f0 f1 f3' f4 f5
 obtain ⟨o,vs,oT,ts,he,hc,hdx,hd,h1,hTe,hTT,hdT,hs3⟩:=al
 have he3:h3.get? e=some o:=(sb.2 e neC).trans he
 have hT3:h3.get? T=some oT:=(sb.2 T nTC).trans hTT
 unfold PySem.passOn;refine wpAny_bind (wpAny_field (s:={ s' with heap:=h3 }) he3 hd h1 ?_)
 rw [if_neg (show ¬((Value.ref T==Value.none)=true) from by simp)]
 refine wpAny_bind ?_
 unfold setFlight;refine wpAny_bind (wpAny_field (s:={ s' with heap:=h3 }) he3 hd h1 ?_)
 rw [if_pos (show (Value.ref T != Value.none)=true from by simp)]
 refine wpAny_setField (s:={ s' with heap:=h3 }) hT3 hdT hs3 (wpAny_throw ?_)
 have I10:=pV (z:=cenv.frame.elim Value.none fun f=>rawInt f) I9 hnT yT hT3 hdT
 have dT:=Obj.data_mapFields hdT (·.setIfInBounds 3 (cenv.frame.elim Value.none fun f=>rawInt f))
 refine hft pins σ H' _ e C dx T I10 ⟨o,vs,_,_,(Heap.get?_update_other _ _ hTe).trans he3,hc,hdx,hd,h1,hTe,Heap.get?_update_self _ hT3 (Obj.isFreed_of_fields dT),dT,?_⟩ hn hnT ye yT q
 simp [hs3]
theorem rj (I:Inv X pins σ H s) (hp:∀ b∈X.ex,∃ o,(b,o)∈X.pn) (he:s.heap.get? e=none):fU X pins e:=by
 have nex:e∉X.ex:=fun z=>by
  obtain ⟨o,hm⟩:=hp e z
  have:=(I.pin (e,o) (az _ hm)).1
  have this:s.heap.get? e=some o:=this
  rw [he] at this;cases this
 refine ⟨?_,?_,fun x c q z=>?_,fun p hp z=>?_,fun z=>?_⟩
 ·cases q:X.s_0.heap.get? e with
  | none=>rfl
  | some o =>
   obtain ⟨o',r⟩:=I.base.there e o q nex
   rw [he] at r;cases r
 ·intro z;obtain ⟨m,⟨o,_,_,ho,_⟩,_⟩:=I.loc
  rw [←z,he] at ho;cases ho
 ·obtain ⟨v,o,ho,_⟩:=I.cell x c q
  rw [z,he] at ho;cases ho
 ·obtain ⟨a,_⟩:=I.pin p hp
  rw [z,he] at a;cases a
 ·obtain ⟨_,o,ho,_⟩:=I.funs.mem z
  rw [he] at ho;cases ho
theorem qG (hf:ib X E) (hp:∀ b∈X.ex,∃ o,(b,o)∈X.pn):fS (CXF X.prog X.w) X E:=by
 rintro pins σ H s e s' I ⟨e',C,dx,H',rfl,os,bare,un,hok,ld,new,hn,q⟩
 exact hf pins σ H' s' e' C dx (I.call' os un hok bare (ch:=[]) fun b z=>absurd z (by simp)) (.inr ld) hn (rj I hp new) q
end
section
variable {X:Cx}
theorem uR {pins:List (Addr×Obj)} {s:Shared} {σ:St} {H:Hp} {Q:VK} {elt tg iter:Expr} {ifs:List Expr} {scope:Scope} {own:List (Str×Nat)} {pos pos':Pos} {wi:TI} {g:TG} {tt:TT} {te:TE} {E:XK} {use:Option (Value→Sem Unit)} {Qf:Value→Shared→Prop}
  (hc:X.calm=true) (hN:X.N.Nodup) (I:Inv X pins σ H s) (hi:PI X tg iter wi) (ok:og X.N X.env.scope scope own)
  (hg:∀ (s:Shared) (H:Hp) (C:Addr) (cl:List (Str×Addr)) (fp:List Addr),PG (X.blk s H scope (compEnvC scope cl C X.env) fp) tg g) (ht:∀ (s:Shared) (H:Hp) (C:Addr) (cl:List (Str×Addr)) (fp:List Addr),PTs (X.blk s H scope (compEnvC scope cl C X.env) fp) ifs tt)
  (he:∀ (s:Shared) (H:Hp) (C:Addr) (cl:List (Str×Addr)) (fp:List Addr) (pn:List (Addr×Obj)) (xe:Value→Shared→Prop),ib (Xt (X.blk s H scope (compEnvC scope cl C X.env) fp) pn xe) E→(∀ b∈fp,∃ o,(b,o)∈pn)→PE (Xt (X.blk s H scope (compEnvC scope cl C X.env) fp) pn xe) elt te) (hft:ph X E) (hxx:X.ex=[]) (hst:∃ outer,X.stack=X.env::outer) (hf:X.env.frame=some X.env.locals) (hs:∀ x,foldedSetIterable iter X.env x=pure x)
  (h:tLc wi g tt te (own.map (·.2)) σ H Q)
  (hRR:∀ D C s' m H',Inv X pins σ H' s'→Q (.ref D) H'→s'.heap.Ns C m→ju X pins H' C→compPost (model X.prog X.w) X.A X.xe use Qf (.ref D) C (.ok .next) s') :
  wpAny (model X.prog X.w) X.A (comprehension (.ListComp elt [⟨tg,iter,ifs,0⟩] scope pos) scope X.env pos' (newList []) false (eval iter X.env) use) Qf X.xe s:=by
 have hfree:∀ y∈scope.names,y.2 = .free→∃ c,X.env.cells.lookup y.1=some c:=fun y hy e=>by
  rcases ok.free y hy e with k | k
  ·exact I.ok.has _ (.inl k)
  ·exact I.ok.has _ (.inr k)
 refine wpAny_comprehension_free (use:=use) rfl hs (mY hfree) ok.kind (fun y hy e=>by rw [ok.uniq y hy,e])
  (thn (hi pins s σ H _ I h) fun xv s1 hx=>thn hx fun itv s2 h2=>?_)
 obtain ⟨it,fp,tn,J,H2,e,I2,T,st2,f2,q⟩:=h2
 subst e;refine wpAny_newObj_type (lb ?_) (by show 0≤sizeLine;decide)
 generalize hD:s2.heap.objs.size=D;have hDn:H2 D=none:=I2.hok.fresh (fj hD)
 obtain ⟨W,⟨m0,w0⟩,turn⟩:=q D hDn
 generalize hs3:({ s2 with heap:=s2.heap.push { cls:=.type "list",data:=.seq ([]:List Value).toArray } }:Shared)=s3
 have I3:Inv X pins σ (upd H2 D (.lst [])) s3:=by
  rw [←hs3];refine I2.laid (t':=s2.toks) (fun b o e=>Heap.get?_push_of_some _ e) (fj hD) ⟨aW _,[],0,.nil,?_⟩
  rw [←hD];exact Heap.get?_push_size _ rfl
 have h3:s3.heap=s2.heap.push { cls:=.type "list",data:=.seq ([]:List Value).toArray }:=by rw [←hs3]
 have sz:∀ b∈fp,b<s2.heap.objs.size:=fun b hb=>by
  obtain ⟨o,e,_⟩:=T.obj _ _ st2 b hb
  exact Heap.lt_size e
 have f3:∀ b∈fp,ju X pins (upd H2 D (.lst [])) b∧b<s3.heap.objs.size:=fun b hb=>by
  have hlt:=sz b hb
  refine ⟨⟨?_,(f2 b hb).2⟩,by rw [h3,Heap.size_push];exact fh hlt⟩
  rw [ai (by rw [←hD];exact bu hlt)]
  exact (f2 b hb).1
 have st3:tn 0 s3.heap:=T.keep _ _ _ st2 fun b _ o e=>by rw [h3];exact Heap.get?_push_of_some _ e
 have I4:=lu I3 ok hN f3
 have pg:=hg s3 (upd H2 D (.lst [])) s3.heap.objs.size (cellsFrom (s3.heap.objs.size+1) scope.names (cG X.env.cells scope.names [])) fp
 have pt:=ht s3 (upd H2 D (.lst [])) s3.heap.objs.size (cellsFrom (s3.heap.objs.size+1) scope.names (cG X.env.cells scope.names [])) fp
 have pe:=he s3 (upd H2 D (.lst [])) s3.heap.objs.size (cellsFrom (s3.heap.objs.size+1) scope.names (cG X.env.cells scope.names [])) fp
 show codeAny _ _ (.compStart (.ListComp elt [⟨tg,iter,ifs,0⟩] scope pos) 0 (.ref it) (.ref D) (compEnvC scope (cellsFrom (s3.heap.objs.size+1) scope.names (cG X.env.cells scope.names [])) s3.heap.objs.size X.env)) (compPost (model X.prog X.w) X.A X.xe use Qf (.ref D) s3.heap.objs.size) { s3 with heap:=pushCells (s3.heap.push { cls:=.type "dict",data:=.dict #[] }) scope.names }
 have nfp:∀ b∈fp,(upd H2 D (.lst [])) b=none:=fun b hb=>(f3 b hb).1.1
 generalize hce:compEnvC scope (cellsFrom (s3.heap.objs.size+1) scope.names (cG X.env.cells scope.names [])) s3.heap.objs.size X.env=ce at I4 pg pt pe ⊢;have cL:ce.locals=s3.heap.objs.size:=by subst hce;rfl
 have cF:ce.frame=X.env.frame:=by subst hce;rfl
 generalize hH3:upd H2 D (.lst [])=H3 at I3 I4 pg pt pe w0 nfp f3;generalize hs4:({ s3 with heap:=pushCells (s3.heap.push { cls:=.type "dict",data:=.dict #[] }) scope.names }:Shared)=s4 at I4 ⊢
 have st4:tn 0 s4.heap:=T.keep _ _ _ st3 fun b _ o e=>by rw [←hs4];exact pushCells_keeps _ _ _ _ (Heap.get?_push_of_some _ e)
 have stat:∀ {σ':St} {H':Hp} {s':Shared},Inv (X.blk s3 H3 scope ce fp) [] σ' H' s'→(∀ b∈fp,H' b=none)→∀ b∈fp,ju (X.blk s3 H3 scope ce fp) [] H' b:=fun {σ' H' s'} I' hn b hb =>
  ⟨hn b hb,(I'.ok.exf b hb).1,I'.ok.exfs b hb,.inl hb,fun x c e=>(I'.ok.exf b hb).2 x c e,fun p hp=>absurd (show p∈([]:List (Addr×Obj))++[] from hp) (by simp)⟩
 have loop:codeAny (model X.prog X.w) X.A (.compLoop (.ListComp elt [⟨tg,iter,ifs,0⟩] scope pos) 0 (.ref it) (.ref D) ce) (compPost (model X.prog X.w) X.A X.xe use Qf (.ref D) s3.heap.objs.size) s4:=by
  refine jT (fun n s'=>∃ i H',Inv (X.blk s3 H3 scope ce fp) [] (gC σ (own.map (·.2))) H' s'∧tn i s'.heap∧(∀ b∈fp,H' b=none)∧W i n H') ?_ m0 ⟨0,H3,I4,st4,nfp,w0⟩
  rintro n s5 ⟨i,H5,I5,st5,n5,w5⟩
  rcases turn i n H5 w5 with ⟨stop,qq⟩ | ⟨go,Nx,hNx,step⟩
  ·have td:=T.done (X.blk s3 H3 scope ce fp) rfl rfl rfl hc i [] s5 _ H5 (fun _ _=>False) I5 (stat I5 n5) st5 stop
   refine lW td fun r s6 ⟨hr,I6⟩=>?_
   subst hr;have I7:Inv X pins σ H5 s6:=I3.call' (ch:=fp) I6.os I6.base I6.hok I6.bare fun b hb=>⟨(f3 b hb).1.2.2.2.1,(f3 b hb).1.2.1,(f3 b hb).1.2.2.2.2.1,(f3 b hb).1.2.2.2.2.2⟩
   have nC:H5 s3.heap.objs.size=none:=by
    have z:H5 ce.locals=none:=I6.free
    rw [cL] at z;exact z
   obtain ⟨m,hn,_⟩:=I6.loc
   have hn:s6.heap.Ns ce.locals m:=hn
   rw [cL] at hn;exact hRR D s3.heap.objs.size s6 m H5 I7 qq hn (I3.fpOk (aK _) nC)
  ·have ti:=T.item (X.blk s3 H3 scope ce fp) rfl rfl rfl hc i [] s5 _ H5 (fun _ _=>False) I5 (stat I5 n5) st5 go
   refine lW ti fun r s6 ⟨u,hr,h6⟩=>?_
   subst hr;refine lW h6 fun _ s7 ⟨x,H7,I7,r7,y7,st7,n7⟩=>?_
   have I7':=I7.pinned (stat I7 n7) (T.obj _ _ st7)
   refine lW (pg _ s7 _ H7 x u _ I7' r7 (step x H7 y7)) fun _ s8 ⟨σ8,H8,I8,hw8,q8⟩=>?_
   refine lW (pt _ s8 σ8 H8 _ I8 q8) fun b s9 ⟨H9,I9,q9⟩=>?_
   have fin:∀ {s':Shared} {H':Hp},Inv (X.blk s3 H3 scope ce fp) ([]++jj fp s7.heap) σ8 H' s'→Nx H'→∃ m,m<n∧∃ i H',Inv (X.blk s3 H3 scope ce fp) [] (gC σ (own.map (·.2))) H' s'∧tn i s'.heap∧(∀ b∈fp,H' b=none)∧W i m H':=fun {s' H'} I' nx=>by
    obtain ⟨m',hm,w'⟩:=hNx H' nx
    have pin':∀ b∈fp,∀ o,s7.heap.get? b=some o→s'.heap.get? b=some o∧H' b=none:=fun b hb o e =>
     let z:=I'.pin (b,o) (ak _ (ak _ (gm hb e)))
     ⟨z.1,z.2.1⟩
    have hl:(gC σ (own.map (·.2))).length=σ8.length:=by rw [←hw8,gD]
    refine ⟨m',hm,i+1,H',(I'.unpinned (pins:=[])).weak hl (fun j v e=>?_),T.keep _ _ _ st7 fun b hb o e=>(pin' b hb o e).1,fun b hb=>?_,w'⟩
    ·rw [←hw8] at e;exact (iX e).1
    ·obtain ⟨o,e,_⟩:=T.obj _ _ st7 b hb
     exact (pin' b hb o e).2
   cases b with
   | false =>
    simp only [gz,if_false] at q9 ⊢;exact fin I9 q9
   | true =>
    simp only [if_true] at q9 ⊢;have fl:ib (Xt (X.blk s3 H3 scope ce fp) ((X.blk s3 H3 scope ce fp).pn++([]++jj fp s7.heap)) (txc X use Qf (.ref D) s3.heap.objs.size ce)) E:=tP I3 cL cF f3 hft hxx hst hf
    refine wpAny_mono (pe _ _ fl (fun b hb=>?_) [] s9 σ8 H9 _ (pW I9) q9) (fun z s10 h10=>?_) fun _ _ hx=>hx
    ·obtain ⟨o,e,_⟩:=T.obj _ _ st7 b hb
     exact ⟨o,ak _ (ak _ (gm hb e))⟩
    obtain ⟨yv,H10,I10',r10,acc,hD10,hz10,nx⟩:=h10
    have I10:=hJ I10'
    exact ve (X:=X.blk s3 H3 scope ce fp) I10 hD10 hz10 r10 fun s11 I11=>fin I11 nx
 exact codeAny_compStart_list loop (T.self X.A 0 _ _ _ st4 loop)
theorem yH {elt tg iter:Expr} {ifs:List Expr} {scope:Scope} {own:List (Str×Nat)} {pos:Pos} {wi:TI} {g:TG} {tt:TT} {te:TE} {E:XK} (hc:X.calm=true) (hN:X.N.Nodup) (hi:PI X tg iter wi) (ok:og X.N X.env.scope scope own)
  (hg:∀ (s:Shared) (H:Hp) (C:Addr) (cl:List (Str×Addr)) (fp:List Addr),PG (X.blk s H scope (compEnvC scope cl C X.env) fp) tg g) (ht:∀ (s:Shared) (H:Hp) (C:Addr) (cl:List (Str×Addr)) (fp:List Addr),PTs (X.blk s H scope (compEnvC scope cl C X.env) fp) ifs tt)
  (he:∀ (s:Shared) (H:Hp) (C:Addr) (cl:List (Str×Addr)) (fp:List Addr) (pn:List (Addr×Obj)) (xe:Value→Shared→Prop),ib (Xt (X.blk s H scope (compEnvC scope cl C X.env) fp) pn xe) E→(∀ b∈fp,∃ o,(b,o)∈pn)→PE (Xt (X.blk s H scope (compEnvC scope cl C X.env) fp) pn xe) elt te) (hft:ph X E) (hxx:X.ex=[]) (hst:∃ outer,X.stack=X.env::outer) (hf:X.env.frame=some X.env.locals) (hs:∀ x,foldedSetIterable iter X.env x=pure x:=by intro _;rfl) :
  PE X (.ListComp elt [⟨tg,iter,ifs,0⟩] scope pos) (tLc wi g tt te (own.map (·.2))):=by
 intro pins s σ H Q I h;rw [eval_ListComp];refine uR hc hN I hi ok hg ht he hft hxx hst hf hs h fun D C s' m H' I' q hn f=>⟨m,hn,fun h'' sb=>?_⟩
 obtain ⟨f0,f1,f2,f3,f4,f5⟩:=f
 exact ⟨.ref D,H',I'.turned (t':=s'.toks) (fun b o hb e=>(sb.2 b hb).trans e) f0 f1 f3 f4 f5,rfl,q⟩
end
end L2.XC
namespace L2
open PySem PySem.Spec PyProof.Rows
section
variable {X:Cx}
def rCatL (K:Fg_):R2:=fun x y H Q=>∃ l b xs zs,x = .ref l∧y = .ref b∧SqL K H l xs∧SqL K H b zs∧xs.length+zs.length≤sizeLine∧∀ p,H p=none→Q (.ref p) (upd H p (.lst (xs++zs)))
theorem oE:OpR X (binaryOp .Add) (rCatL X.K):=by
 intro pins s σ H x y v u Q I rx ry h;obtain ⟨l,b,xs,zs,rfl,rfl,hl,hb,hz,q⟩:=h
 cases rx;cases ry;obtain ⟨its,rv,⟨⟨c1,d1,dt1,sl1⟩,n,ho,hc,hdn,hd⟩,_⟩:=I.list hl
 obtain ⟨its2,rv2,⟨⟨c2,d2,dt2,sl2⟩,n2,ho2,hc2,hdn2,hd2⟩,_⟩:=I.list hb
 simp only at hc hd hdn hc2 hd2 hdn2;subst hc hd hdn hc2 hd2 hdn2;have l1:=rv.length
 have l2:=rv2.length
 have ea:its.toArray++its2.toArray=(its++its2).toArray:=by simp
 refine concat_meets ⟨_,ho,rfl⟩ ⟨_,ho2,rfl⟩ noFill_list_add seq_list_add PySem.F.slot_list_add PySem.F.entry_list_add (PySem.F.args_list_add_2 _ _) (list_addW l b its.toArray its2.toArray n n2 none none sl1 sl2 (by rw [aM,aM];omega)) ⟨ho,ho2,?_⟩
 rw [ea];exact ⟨.ref _,_,I.lnew (t':=s.toks) (rv.append rv2) (by rw [aa];omega),rfl,q _ I.fresh⟩
end
section
variable {X:Cx}
def vO:V→List V→Hp→VK→Prop:=fun x vs H Q=>∃ (l:Addr) (xs:List V) (i:Nat) (y:V),x = .ref l∧vs=[.int (i:Int),y]∧H l=some (.lst xs)∧i≤xs.length∧xs.length<sizeLine∧Q .non (upd H l (.lst (xs.take i++y::xs.drop i)))
theorem tH:MtM X "list.insert" vO:=by
 intro pins s σ H x vs v us Q I rx rv h;obtain ⟨l,xs,i,y,rfl,rfl,hH,hi,hz,q⟩:=h
 cases rx;obtain ⟨u,us',rfl,ru,rv2⟩:∃ u us',us=u::us'∧cM (.int (i:Int)) u∧b8 [y] us':=by
  cases rv with
  | cons h1 h2=>exact ⟨_,_,rfl,h1,h2⟩
 obtain ⟨u2,rfl,ru2⟩:=rv2.one
 obtain ⟨t,rfl⟩:=ru
 obtain ⟨z,its,n,r,hl,e⟩:=I.lstM hH
 obtain ⟨x,hx⟩:∃ x:Int,x=(i:Int):=⟨_,rfl⟩
 have hf:Builtin.List.listFitsIndex x=true:=fitsIndex_both (by omega) (by have:=sizeLine_eq;omega)
 have hf':¬(!Builtin.List.listFitsIndex x)=true:=by rw [hf];exact aI
 have hsz:its.toArray.size≤sizeLine:=by
  rw [aM,←hl];exact z
 rw [←hx];refine call_meets F.slot_list_insert ⟨_,e,rfl⟩ F.entry_list_insert (F.args_list_insert_3 _ _ _) (AutoSeq1.list_insert_list_int_val_1 l its.toArray n x t u2 hf' hsz) ⟨e,?_⟩
 refine ⟨.non,_,I.lset (ys:=xs.take i++y::xs.drop i) (its':=its.take i++u2::its.drop i) hH e ?_ ?_ ?_,rfl,q⟩
 ·show ((its.toArray.extract 0 (if x<0 then (x+(its.toArray.size:Int)).toNat else min x.toNat its.toArray.size)).push u2++its.toArray.extract (if x<0 then (x+(its.toArray.size:Int)).toNat else min x.toNat its.toArray.size))=_
  rw [if_neg (by omega),hx,cW,aM,bZ (by omega)]
  simp
  exact bT (by rw [ay];omega)
 ·exact (r.take i).append (.cons ru2 (r.drop i))
 ·rw [aa,aj,aH,ay];omega
end
end L2
namespace HT
open PySem PySem.Spec PyProof.Rows
open Builtin Builtin.Str
theorem tE:typeLookup (.type "list_reverseiterator") "__len__" = pure none:=by rw [typeLookup_type,builtinLookup_eq_fast];kernel_rfl
theorem uS:typeLookup (.type "list_reverseiterator") "__length_hint__" = pure (some (.builtin "list_reverseiterator.__length_hint__")):=by rw [typeLookup_type,builtinLookup_eq_fast];kernel_rfl
section
variable {prog:Program} {w:World} {A:Around} {E:Value→Shared→Prop} {s:Shared}
theorem walks_rev {it l:Addr} {items:Array Value} (hh:A.handled=none) (hne:it≠l) :
  WalksS prog w A it [it,l] [it] (fun a b=>a=b) items.size (fun i v=>items[items.size - 1 - i]? = some v) (fun i s=>i≤items.size∧s.heap.IsRevIter it l ((items.size:Int) - 1 - (i:Nat))∧s.heap.IsList l items) where
 sub:=by simp
 grefl:=fun _=>rfl
 gtrans:=fun _ _ _ a b=>a.trans b
 frame:=fun i s h' tk st _ k=>⟨st.1,st.2.1.at fun o e=>k it (by simp) o e,by
  obtain ⟨o,ho,r⟩:=st.2.2
  exact ⟨o,k l (by simp) o ho,r⟩⟩
 item:=fun i s Q E hi st h=>by
  obtain ⟨hle,hit,hl⟩:=st
  have e1:(items.size:Int) - 1 - ((i:Nat):Int)=((items.size - 1 - i:Nat):Int):=by omega
  rw [e1] at hit;have hx:items[items.size - 1 - i]? = some items[items.size - 1 - i]:=dH (by omega)
  refine wpAny_pyNext_rev_item hit hl hx fun h' st' sb=>?_
  have e2:((items.size - 1 - i:Nat):Int) - 1=(items.size:Int) - 1 - ((i+1:Nat):Int):=by omega
  rw [e2] at st'
  refine h _ _ hx ⟨hi,st',?_⟩ ⟨fun b o hb e=>(sb.2 b (by simpa using hb)).trans e,rfl,rfl,rfl,aK _⟩
  obtain ⟨o,ho,r⟩:=hl
  exact ⟨o,(sb.2 l (Ne.symm hne)).trans ho,r⟩
 done:=fun s Q E st h=>by
  obtain ⟨hle,hit,hl⟩:=st
  have e1:(items.size:Int) - 1 - ((items.size:Nat):Int) = -1:=by omega
  rw [e1] at hit;exact wpAny_pyNext_rev_end hh hit fun h' eb=>h _ ⟨fun b o hb e=>eb b o (by simpa using hb) e,rfl,rfl,rfl,aK _⟩
 self:=fun i s Q E st h=>wpAny_pyIter_revIter st.2.1 h
end
end HT
namespace HT
open PySem PySem.Spec PyProof.Rows
open Builtin
section
variable {prog:Program} {w:World} {A:Around} {s:Shared} {R:Result→Shared→Prop}
variable {I:Addr} {fp wr:List Addr} {G:Array GenState→Array GenState→Prop} {n:Nat} {P:Nat→Value→Prop} {St:Nat→Shared→Prop}
theorem qU (W:WalksS prog w A.in1 I fp wr G n P St) (hT:∀ i s,St i s→s.TypeIs (.ref I) "list_reverseiterator") (S:Addr) (res:Value) (c₀:Nat) (hst:St 0 s) (hSf:S∉fp) (hI:I∈fp)
  (hS:s.heap.get? S=some { cls:=.type "list",data:=.seq #[] c₀ })
  (hR:∀ s' acc' c',Moved (S::wr) G s s'→s'.heap.get? S=some { cls:=.type "list",dict:=none,data:=.seq acc' c',slots:=#[] }→ItemsOf P acc' n→R (.ok (.ret res)) s') (hn:n≤sizeLine) :
  wpAny (model prog w) A.in1 (Builtin.List.listExtendWith (.ref S) (.ref I) res)
   (fun fin s'=>match fin with | .done f=>R (.ok f) s' | .again c'=>c'.quiet=true∧codeAny (model prog w) A c' R s') (fun e s'=>R (.error e) s') s:=by
 have hSI:S≠I:=fun e=>hSf (e▸hI)
 have ns:Builtin.List.listSameRef (.ref S) (.ref I)=false:=by simp [Builtin.List.listSameRef,hSI]
 unfold Builtin.List.listExtendWith;refine wpAny_bind (wpAny_typeOf (hT 0 _ hst) ?_)
 rw [if_neg (by rw [ns];decide)]
 refine wpAny_bind (W.self 0 _ _ _ hst ?_)
 refine wpAny_bind (wpAny_holding ?_)
 unfold Builtin.List.listLengthHint;refine wpAny_bind (wpAny_specialOf (hT 0 _ hst) tE ?_)
 show wpAny _ A.in1 (specialOf (Value.ref I) (Str.ofString "__length_hint__") >>= _) _ _ _
 refine wpAny_bind (wpAny_specialOf (hT 0 _ hst) uS ?_)
 generalize hid:("list_reverseiterator.__length_hint__" : String)=id0;wp_delta
 rw [show splitId id0=some ("list_reverseiterator","__length_hint__") from by subst hid;decide +kernel]
 subst hid;refine wpAny_bind (wpAny_isInstance (b:=true) (hT 0 _ hst) (by rw [isSubtype_type];kernel_rfl) ?_)
 refine wpAny_pure ?_
 rw [if_neg (by decide)]
 refine wpAny_pure ⟨plainId_quiet F.plain_extend_loop _,codeAny_extend_loopS W hn _ hSf _ n 0 _ _ _ rfl (aW _) hst hS (ItemsOf.nil P) fun s' acc' c' hm hS' hacc=>?_⟩
 exact hR s' acc' c' hm hS' hacc
theorem nk (W:WalksS prog w A.in1 I fp wr G n P St) (hT:∀ i s,St i s→s.TypeIs (.ref I) "list_reverseiterator") (S:Addr) (hst:St 0 s) (hSf:S∉fp) (hI:I∈fp)
  (hS:s.heap.get? S=some { cls:=.type "list",data:=.seq #[] })
  (hR:∀ s' acc' c',Moved (S::wr) G s s'→s'.heap.get? S=some { cls:=.type "list",dict:=none,data:=.seq acc' c',slots:=#[] }→ItemsOf P acc' n→R (.ok (.ret .none)) s') (hn:n≤sizeLine) :
  wpAny (model prog w) A.in1 (Builtin.«list.__init__» ⟨[.ref S,.ref I],[]⟩)
   (fun fin s'=>match fin with | .done f=>R (.ok f) s' | .again c'=>c'.quiet=true∧codeAny (model prog w) A c' R s') (fun e s'=>R (.error e) s') s:=by
 show wpAny _ A.in1 (do let old ←Builtin.List.listItems (.ref S);Builtin.List.listUpdate (.ref S) (fun _=>#[]);letGo old.toList.reverse;Builtin.List.listExtendWith (.ref S) (.ref I) .none) _ _ s
 refine wpAny_bind ?_
 unfold Builtin.List.listItems;refine wpAny_bind (wpAny_seqItems hS rfl (wpAny_pure ?_))
 show wpAny _ A.in1 (updateSeq S (fun _=>#[]) >>= fun _=>letGo (#[]:Array Value).toList.reverse >>= fun _=>Builtin.List.listExtendWith (.ref S) (.ref I) .none) _ _ s
 refine wpAny_bind (wpAny_updateSeq hS rfl ?_)
 have hS₂:=Heap.get?_update_self (Obj.mapSeq (fun _=>(#[]:Array Value))) hS rfl
 have oth:∀ b o,b≠S→s.heap.get? b=some o→(s.heap.update S (Obj.mapSeq (fun _=>(#[]:Array Value)))).get? b=some o :=
  fun b o hb e=>(Heap.get?_update_other _ _ (Ne.symm hb)).trans e
 refine wpAny_bind (wpAny_letGo ?_)
 refine qU (hn:=hn) W hT S .none _ (W.frame 0 s _ s.toks hst (aK _) fun b hb o e=>oth b o (fun h=>hSf (h▸hb)) e) hSf hI hS₂ fun s' acc' c' hm hS' hacc=>?_
 exact hR s' acc' c' (Moved.trans W.gtrans ((Moved.refl W.grefl).then_heap (aK _) fun b o hb e=>oth b o (fun h=>hb (h▸aR)) e) hm) hS' hacc
end
section
variable {prog:Program} {w:World} {A:Around} {E:Value→Shared→Prop} {s:Shared}
theorem call_list_rev {Q:Value→Shared→Prop} {I:Addr} {fp wr:List Addr} {G:Array GenState→Array GenState→Prop} {n:Nat} {P:Nat→Value→Prop} {St:Nat→Shared→Prop} (W:WalksS prog w A.in1.in1 I fp wr G n P St) (hT:∀ i s,St i s→s.TypeIs (.ref I) "list_reverseiterator") (hst:St 0 s) (hfp:∀ b∈fp,b<s.heap.objs.size) (hI:I∈fp)
  (hQ:∀ s' acc' c',Moved (s.heap.objs.size::wr) G { s with heap:=s.heap.push { cls:=.type "list",data:=.seq #[] } } s' →
   s'.heap.get? s.heap.objs.size=some { cls:=.type "list",dict:=none,data:=.seq acc' c',slots:=#[] }→ItemsOf P acc' n→Q (.ref s.heap.objs.size) s') (hn:n≤sizeLine) :
  wpAny (model prog w) A (call (.type "list") [.ref I]) Q E s:=by
 have hSf:s.heap.objs.size∉fp:=fun hm=>bK _ (hfp _ hm)
 refine callType_codes (Q₁:=fun obj s₁=>obj = .ref s.heap.objs.size∧s₁={ s with heap:=s.heap.push { cls:=.type "list",data:=.seq #[] } }) F.called_list (F.typeCall_list_1 _) F.entry_list_init
  (code_list_new _ ⟨rfl,rfl⟩) fun obj s₁ h₁=>?_
 obtain ⟨rfl,rfl⟩:=h₁
 have hS:(s.heap.push { cls:=.type "list",data:=.seq #[] }).get? s.heap.objs.size=some { cls:=.type "list",data:=.seq #[] }:=Heap.get?_push_size _ rfl
 refine ⟨⟨_,hS,rfl⟩,F.args_list_init_2 _ _,nk (hn:=hn) W hT _ (W.frame 0 s _ s.toks hst (aK _) fun b _ o e=>Heap.get?_push_of_some _ e) hSf hI hS fun s' acc' c' hm hS' hacc=>?_⟩
 exact ⟨rfl,hQ s' acc' c' hm hS' hacc⟩
theorem items_rev {items acc:Array Value} (h:ItemsOf (fun i v=>items[items.size - 1 - i]? = some v) acc items.size):acc.toList=items.toList.reverse:=by
 have hs:acc.size=items.size:=h.1
 apply List.ext_getElem?
 intro i;by_cases c:i<items.size
 ·have hi:i<acc.size:=by omega
  have:=h.2 i acc[i] (dH hi)
  rw [List.getElem?_reverse (by rw [dB];exact c),cv,cv,dH hi,dB,←this]
 ·rw [fA (by rw [dB];omega),fA (by rw [dU,dB];omega)]
end
end HT
namespace L2
open PySem PySem.Spec PyProof.Rows
def xk (K:Fg_) (ta:TA):TE:=fun σ H Q=>ta σ H fun vs H1=>∃ (a:Addr) (xs:List V),vs=[.ref a]∧SqL K H1 a xs∧∀ x,H1 x=none→Q (.ref x) (upd H1 x (.lst xs.reverse))
section
variable {X:Cx}
theorem qY:bootBuiltins "list" = some (.type "list"):=by kernel_rfl
theorem qE {e:Expr} {ta:TA} {p p2 pos cpos:Pos} (hc:X.calm=true) (hgl:Gl X "list") (hml:X.mg "list" = none) (hg:Gl X "reversed") (hm:X.mg "reversed" = none) (ha:PA X [e] ta)
  (hs:starEach [e] X.env=[(false,eval e X.env)]:=by rfl)
  (hs2:starEach [Expr.Call (.Name "reversed" p) [e] [] pos] X.env=[(false,eval (.Call (.Name "reversed" p) [e] [] pos) X.env)]:=by rfl) :
  PE X (.Call (.Name "list" p2) [.Call (.Name "reversed" p) [e] [] pos] [] cpos) (xk X.K ta):=by
 intro pins s σ H Q I h;refine Call_ (jl I hgl hml qY (PyProof.Rows.callWith_type1 ?_ hs2 rfl))
 rw [hs2];refine Calls.spliced_cons ?_
 refine Call_ (jl I hg hm iT (PyProof.Rows.callWith_type1 (thn (ha pos pins s σ H _ I h) fun us s2 ⟨vs,H2,I2,r2,q2⟩=>?_) hs rfl))
 obtain ⟨a,xs,e1,hq,q⟩:=q2
 subst e1;cases r2 with
 | cons r rr =>
  cases rr;cases r;obtain ⟨its,rv,p',hz⟩:=I2.list hq
  refine call_reversed_list p'.isList ?_
  refine Calls.spliced_nil ?_
  have hlt:a<s2.heap.objs.size:=by
   obtain ⟨o,_,e1,_⟩:=p'
   exact Heap.lt_size e1
  have hne:s2.heap.objs.size≠a:=fg hlt
  have hln:its.toArray.size=its.length:=aM
  have hl3:(s2.heap.push (revObj a ((its.toArray.size:Int) - 1))).IsList a its.toArray:=by
   obtain ⟨o,ho,r⟩:=p'.isList
   exact ⟨o,Heap.get?_push_of_some _ ho,r⟩
  have hit0:(s2.heap.push (revObj a ((its.toArray.size:Int) - 1))).IsRevIter s2.heap.objs.size a ((its.toArray.size:Int) - 1 - ((0:Nat):Int)):=by
   rw [show (its.toArray.size:Int) - 1 - ((0:Nat):Int)=(its.toArray.size:Int) - 1 by omega]
   exact ⟨_,Heap.get?_push_size _ rfl,rfl,rfl⟩
  have lt:∀ b∈[s2.heap.objs.size,a],b<(s2.heap.push (revObj a ((its.toArray.size:Int) - 1))).objs.size:=fun b hb=>by
   have e:b=s2.heap.objs.size∨b=a:=by simpa using hb
   rcases e with rfl | rfl
   ·obtain ⟨o,ho,_⟩:=hit0;exact Heap.lt_size ho
   ·obtain ⟨o,ho,_⟩:=hl3;exact Heap.lt_size ho
  have hlen:=rv.length
  refine HT.call_list_rev (HT.walks_rev (I.ok.hd hc) hne) (fun i s st=>st.2.1.typeIs) (s:={ s2 with heap:=s2.heap.push (revObj a ((its.toArray.size:Int) - 1)) }) ⟨aW _,hit0,hl3⟩ lt (by simp) (fun s' acc c' hmv hS hacc=>?_) (by rw [hln];omega)
  generalize hh3:s2.heap.push (revObj a ((its.toArray.size:Int) - 1))=h3 at *;have hle:s2.heap.objs.size≤h3.objs.size:=by
   have:=lt s2.heap.objs.size (by simp)
   omega
  have hacc':acc=its.reverse.toArray:=by
   have:=HT.items_rev hacc
   rw [←Array.toArray_toList (xs:=acc),this]
  have hk:∀ b o,s2.heap.get? b=some o→s'.heap.get? b=some o:=fun b o e=>by
   have hb:b<s2.heap.objs.size:=Heap.lt_size e
   refine hmv.heap b o ?_ (Heap.get?_push_of_some _ ?_)
   ·intro z;rcases aB.mp z with z | z
    ·exact absurd z (bu (aT hb hle))
    ·exact absurd (aG.mp z) (bu hb)
   ·rw [←hh3];exact Heap.get?_push_of_some _ e
  refine ⟨.ref h3.objs.size,_,?_,rfl,q _ (I2.hok.fresh hle)⟩
  have I4:=I2.turnedNew (t':=s'.toks) (h':=s'.heap) (ch:=[]) (T:=h3.objs.size) (ob:=.lst xs.reverse) (fun b o _ e=>hk b o e) (fun b hb=>by simp at hb) hle ⟨by rw [dU];exact hz,its.reverse,c',rv.reverse,by rw [hS,hacc']⟩
  obtain ⟨_,m2,m3,m4,_⟩:=hmv
  cases s'
  simp only at m2 m3 m4;subst m2 m3 m4;exact I4
end
end L2
namespace Vm
open Sw
def val (l:Bytes):Nat:=l.foldr (fun (x:UInt8) (m:Nat)=>x.toNat % 128+128*m) 0
theorem val_snoc:∀ (l:Bytes) (c:UInt8),val (l++[c])=val l+c.toNat % 128*128 ^ l.length
 | [],c=>by simp [val]
 | x::l,c=>by
  have ih:=val_snoc l c
  show x.toNat % 128+128*val (l++[c])=x.toNat % 128+128*val l+c.toNat % 128*128 ^ (l.length+1)
  rw [ih,ff,Nat.mul_add,←Nat.mul_assoc (c.toNat % 128),Nat.mul_comm 128 (c.toNat % 128*128 ^ l.length)];omega
def High (l:Bytes):Prop:=∀ c∈l,128≤c.toNat
theorem qu:∀ {l:Bytes},High l→l.takeWhile (fun (c:UInt8)=>decide (128≤c.toNat))=l
 | [],_=>rfl
 | c::l,h=>by
  rw [eN,if_pos (ag (h c (by simp))),qu (l:=l) fun d hd=>h d (by simp [hd])]
theorem rA:∀ {l:Bytes} {c:UInt8} {r:Bytes},High l→c.toNat<128→(l++c::r).takeWhile (fun (c:UInt8)=>decide (128≤c.toNat))=l
 | [],c,r,_,h=>by
  rw [eO,eN,if_neg (by simp;omega)]
 | d::l,c,r,hl,h=>by
  rw [cu,eN,if_pos (ag (hl d (by simp))),rA (l:=l) (fun e he=>hl e (by simp [he])) h]
theorem vary_five {p:Nat} {l r:Bytes} (hl:High l) (h5:l.length=5):varyOf p (l++r) = .error ⟨3,p⟩:=by
 have e:(l++r).take 5=l:=by rw [←h5,gw]
 unfold varyOf;simp only [e,qu hl,h5,if_true]
theorem vary_end {p:Nat} {l:Bytes} (hl:High l) (h5:l.length<5):varyOf p l = .error ⟨1,p+l.length⟩:=by
 have e:l.take 5=l:=bT (by omega)
 unfold varyOf;simp only [e,qu hl,dX,if_neg (show ¬l.length=5 by omega)]
theorem vary_stop {p:Nat} {l r:Bytes} {c:UInt8} (hl:High l) (h5:l.length<5) (hc:c.toNat<128) :
  varyOf p (l++c::r)=(if l.length>0∧c=0 then .error ⟨3,p⟩ else if 2 ^ 32≤val (l++[c]) then .error ⟨3,p⟩ else .ok (val (l++[c]),l.length+1)):=by
 have e:(l++c::r).take 5=l++c::r.take (4 - l.length):=by
  rw [ig,bT (by omega),show 5 - l.length=(4 - l.length)+1 by omega,eK]
 unfold varyOf;simp only [e,rA hl hc,dG,if_neg (show ¬l.length=5 by omega)]
 rfl
theorem vary_used {p n l:Nat} {b:Bytes} (h:varyOf p b = .ok (n,l)):1≤l∧l≤b.length∧l≤5∧n<2 ^ 32:=by
 unfold varyOf at h;simp only at h;generalize hh:((b.take 5).takeWhile fun (c:UInt8)=>decide (128≤c.toNat))=t at h
 have ht:t.length≤5:=by
  rw [←hh];exact bF (List.takeWhile_sublist _).length_le (by rw [aH];exact Nat.min_le_left _ _)
 by_cases h5:t.length=5
 ·rw [if_pos h5] at h;cases h
 ·rw [if_neg h5] at h;split at h
  ·cases h
  ·rename_i c r hd
   have hlen:t.length<b.length:=by
    apply fF
    intro hle;rw [List.drop_eq_nil_of_le hle] at hd;cases hd
   split at h
   ·cases h
   ·split at h
    ·cases h
    ·rename_i hn
     injection h with h;injection h with h1 h2;subst h2;subst h1;exact ⟨by omega,by omega,by omega,by omega⟩
end Vm
namespace Um
open Sw
def cf (c:Nat):Nat:=if 194≤c∧c≤223 then 1 else if 224≤c∧c≤239 then 2 else if 240≤c∧c≤244 then 3 else 0
def ls (c:Nat):Nat:=if c=224 then 160 else if c=240 then 144 else 128
def hs (c:Nat):Nat:=if c=237 then 159 else if c=244 then 143 else 191
def urun:Nat→Nat→Nat→Nat→Bytes→Option Nat
 | k,_,_,p,[]=>if 0<k then some p else none
 | k,lo,hi,p,c::r=>if 0<k then (if c.toNat<lo∨hi<c.toNat then some p else urun (k - 1) 128 191 (p+1) r)
  else if 128≤c.toNat then (if cf c.toNat=0 then some p else urun (cf c.toNat) (ls c.toNat) (hs c.toNat) (p+1) r) else urun 0 lo hi (p+1) r
theorem j7:∀ (b:Bytes) (lo hi lo' hi' p:Nat),urun 0 lo hi p b=urun 0 lo' hi' p b
 | [],_,_,_,_,_=>rfl
 | c::r,lo,hi,lo',hi',p=>by
  unfold urun;rw [if_neg (bK 0),if_neg (bK 0)];by_cases h:128≤c.toNat
  ·rw [if_pos h,if_pos h]
  ·rw [if_neg h,if_neg h];exact j7 r lo hi lo' hi' (p+1)
theorem leads_eq:∀ c,c<256→leads c=if c<128 then some (0,0,0) else if cf c=0 then none else some (cf c,ls c,hs c):=by decide +kernel
theorem mL:∀ (k lo hi x p:Nat) (b:Bytes),match follow k lo hi x p b with
  | .error q=>urun k lo hi p b=some q
  | .ok (_,r)=>urun k lo hi p b=urun 0 128 191 (p+(b.length - r.length)) r∧r.length≤b.length
 | 0,lo,hi,x,p,b=>by
  unfold follow;refine ⟨?_,aK _⟩
  rw [Nat.sub_self,fk];exact j7 b lo hi 128 191 p
 | k+1,lo,hi,x,p,[]=>by
  unfold follow urun;rw [if_pos (fe k)]
 | k+1,lo,hi,x,p,c::b=>by
  unfold follow;by_cases h:lo≤c.toNat∧c.toNat≤hi
  ·rw [if_pos h];have ih:=mL k 0x80 0xBF (64*x+c.toNat % 64) (p+1) b
   have e:urun (k+1) lo hi p (c::b)=urun k 128 191 (p+1) b:=by
    conv=>lhs;unfold urun
    rw [if_pos (fe k),if_neg (by omega)]
    rfl
   rw [e];cases hf:follow k 0x80 0xBF (64*x+c.toNat % 64) (p+1) b with
   | error q=>rw [hf] at ih;exact ih
   | ok z =>
    obtain ⟨y,r⟩:=z
    rw [hf] at ih;obtain ⟨ih1,ih2⟩:=ih
    refine ⟨?_,by rw [aj];omega⟩
    rw [ih1,aj];congr 1
    omega
  ·rw [if_neg h];show urun (k+1) lo hi p (c::b)=some p
   unfold urun;rw [if_pos (fe k),if_pos (by omega)]
theorem lZ:∀ (f p:Nat) (b:Bytes),b.length≤f→match scalarsFrom f p b with
  | .error q=>urun 0 128 191 p b=some q
  | .ok _=>urun 0 128 191 p b=none
 | 0,p,[],_=>rfl
 | f+1,p,[],_=>rfl
 | 0,p,c::b,h=>by simp at h
 | f+1,p,c::b,h=>by
  have hlen:b.length≤f:=by rw [aj] at h;omega
  have hl:=leads_eq c.toNat c.toNat_lt
  have e0:urun 0 128 191 p (c::b)=if 128≤c.toNat then (if cf c.toNat=0 then some p else urun (cf c.toNat) (ls c.toNat) (hs c.toNat) (p+1) b) else urun 0 128 191 (p+1) b:=by
   conv=>lhs;unfold urun
   rw [if_neg (bK 0)]
  rw [e0];unfold scalarsFrom scalarAt;dsimp only;by_cases h1:c.toNat<128
  ·rw [if_pos h1] at hl;rw [hl,if_neg (by omega)]
   simp only [follow,aj];have ih:=lZ f (p+(b.length+1 - b.length)) b hlen
   rw [show b.length+1 - b.length=1 by omega] at ih ⊢
   cases hs':scalarsFrom f (p+1) b with
   | error q=>rw [hs'] at ih;exact ih
   | ok l=>rw [hs'] at ih;exact ih
  ·rw [if_neg h1] at hl;rw [if_pos (by omega)]
   by_cases h2:cf c.toNat=0
   ·rw [if_pos h2] at hl;rw [hl,if_pos h2]
   ·rw [if_neg h2] at hl;rw [hl,if_neg h2];have fr:=mL (cf c.toNat) (ls c.toNat) (hs c.toNat) (firstBits (cf c.toNat) c.toNat) (p+1) b
    simp only;cases hf:follow (cf c.toNat) (ls c.toNat) (hs c.toNat) (firstBits (cf c.toNat) c.toNat) (p+1) b with
    | error q=>rw [hf] at fr;exact fr
    | ok z =>
     obtain ⟨y,r⟩:=z
     rw [hf] at fr;obtain ⟨f1,f2⟩:=fr
     simp only [aj];have ih:=lZ f (p+(b.length+1 - r.length)) r (by omega)
     rw [f1,show p+1+(b.length - r.length)=p+(b.length+1 - r.length) by omega]
     cases hs':scalarsFrom f (p+(b.length+1 - r.length)) r with
     | error q=>rw [hs'] at ih;exact ih
     | ok l=>rw [hs'] at ih;exact ih
theorem text_run (p:Nat) (b:Bytes):match textOf p b with
  | .error e=>e.kind=5∧urun 0 128 191 p b=some e.place
  | .ok _=>urun 0 128 191 p b=none:=by
 have h:=lZ b.length p b (aK _)
 unfold textOf scalars;cases hs':scalarsFrom b.length p b with
 | error q=>rw [hs'] at h;exact ⟨rfl,h⟩
 | ok l=>rw [hs'] at h;exact h
def fbad:Nat→Nat→Nat→Bytes→Option Nat
 | _,_,_,[]=>none
 | lo,hi,p,c::r=>if c.toNat<lo∨hi<c.toNat then some p else fbad 128 191 (p+1) r
theorem urun_further:∀ (k lo hi p:Nat) (b:Bytes),urun k lo hi p b=match fbad lo hi p (b.take k) with
  | some q=>some q
  | none=>if b.length<k then some (p+b.length) else urun 0 128 191 (p+k) (b.drop k)
 | 0,lo,hi,p,b=>by
  rw [dF];show _=if b.length<0 then _ else _
  rw [if_neg (Nat.not_lt_zero _),dW];exact j7 b lo hi 128 191 p
 | k+1,lo,hi,p,[]=>by
  show (if 0<k+1 then some p else none)=if 0<k+1 then some (p+0) else _
  rw [if_pos (fe k),if_pos (fe k)];rfl
 | k+1,lo,hi,p,c::r=>by
  have ih:=urun_further k 128 191 (p+1) r
  show (if 0<k+1 then (if c.toNat<lo∨hi<c.toNat then some p else urun k 128 191 (p+1) r) else _)=_
  rw [if_pos (fe k),eK];show _=match (if c.toNat<lo∨hi<c.toNat then some p else fbad 128 191 (p+1) (r.take k)) with
   | some q=>some q
   | none=>_
  by_cases h:c.toNat<lo∨hi<c.toNat
  ·rw [if_pos h,if_pos h]
  ·rw [if_neg h,if_neg h,ih];cases fbad 128 191 (p+1) (r.take k) with
   | some q=>rfl
   | none =>
    simp only [aj,List.drop_succ_cons];by_cases hl:r.length<k
    ·rw [if_pos hl,if_pos (by omega)]
     congr 1
     omega
    ·rw [if_neg hl,if_neg (by omega),show p+1+k=p+(k+1) by omega]
end Um
namespace Hm
open Sw
def numAt (kp p:Nat) (b:Bytes):Except Fault (Nat×Nat):=match varyOf p b with
 | .error e=>.error e
 | .ok (z,l)=>if NUMBER<z / 2 then .error ⟨4,kp⟩ else match someOf (p+l) (z / 2) (b.drop l) with
  | .error e=>.error e
  | .ok m=>if m.getLast? = some 0∨z=1 then .error ⟨4,kp⟩ else .ok (l,z / 2)
def strAt (text:Bool) (p:Nat) (b:Bytes):Except Fault (Nat×Nat):=match varyOf p b with
 | .error e=>.error e
 | .ok (n,l)=>match someOf (p+l) n (b.drop l) with
  | .error e=>.error e
  | .ok m=>if text=true then (match textOf (p+l) m with
    | .error e=>.error e
    | .ok _=>.ok (n,l)) else .ok (n,l)
def nameAt (prev:Option Bytes) (p:Nat) (b:Bytes):Except Fault (Nat×Nat):=match varyOf p b with
 | .error e=>.error e
 | .ok (k,l)=>if k=0∨NAME<k then .error ⟨6,p⟩ else match someOf (p+l) k (b.drop l) with
  | .error e=>.error e
  | .ok m=>match textOf (p+l) m with
   | .error e=>.error e
   | .ok _=>if (match prev with
     | some q=>bytesBefore q m
     | none=>true)=false then .error ⟨6,p⟩ else .ok (k,l)
theorem d6 {p n:Nat} {b m:Bytes} (h:someOf p n b = .ok m):n≤b.length∧m=b.take n:=by
 unfold someOf at h;split at h
 ·cases h
 ·rename_i hl
  injection h with h;exact ⟨by omega,h.symm⟩
theorem some_of {p n:Nat} {b:Bytes} (h:n≤b.length):someOf p n b = .ok (b.take n):=by
 unfold someOf;rw [if_neg (by omega)]
theorem some_no {p n:Nat} {b:Bytes} (h:b.length<n):someOf p n b = .error ⟨1,p+b.length⟩:=by
 unfold someOf;rw [if_pos h]
theorem last_of {b:Bytes} {n:Nat} (h:n≤b.length) (hn:0<n):(b.take n).getLast? = b[n - 1]?:=by
 rw [b9,aH,bZ h,a6 (by omega)]
end Hm
namespace Pm
open Sw Hm
structure PD where
 kind:Nat
 place:Nat
 ins:Nat
 fin:Nat
 size:Nat
 depth:Nat
 np:Nat
 nl:Nat
inductive PT where
 | node (d:PD) (ms:List PT)
def PT.d:PT→PD
 | .node d _=>d
def PT.ms:PT→List PT
 | .node _ ms=>ms
def PT.nm (t:PT) (np nl:Nat):PT:=.node { t.d with np:=np,nl:=nl } t.ms
def headAt (lv p:Nat) (b:Bytes):Except Fault (Nat×Nat×Nat×Nat):=match b with
 | []=>.error ⟨1,p⟩
 | k::r=>if 8<k.toNat then .error ⟨2,p⟩ else if DEEP<lv then .error ⟨7,p⟩
  else if k.toNat=2 then (match numAt p (p+1) r with
   | .error e=>.error e
   | .ok (l,h)=>.ok (k.toNat,0,1+l,1+l+h))
  else if k.toNat=3∨k.toNat=4 then (match strAt (decide (k.toNat=4)) (p+1) r with
   | .error e=>.error e
   | .ok (n,l)=>.ok (k.toNat,n,1+l,1+l+n))
  else if k.toNat=5∨k.toNat=6 then (match varyOf (p+1) r with
   | .error e=>.error e
   | .ok (n,l)=>.ok (k.toNat,n,1+l,1+l))
  else if k.toNat=7 then (match someOf (p+1) 8 r with
   | .error e=>.error e
   | .ok _=>.ok (k.toNat,0,1,9))
  else if k.toNat=8 then (match someOf (p+1) 32 r with
   | .error e=>.error e
   | .ok _=>.ok (k.toNat,0,1,33))
  else .ok (k.toNat,0,1,1)
def nmAt (named:Bool) (prev:Option Bytes) (p:Nat) (b:Bytes):Except Fault (Nat×Nat):=if named=true then Hm.nameAt prev p b else .ok (0,0)
mutual
def vAt:Nat→Nat→Nat→Bytes→Except Fault (PT×Nat)
 | 0,_,p,b=>.error ⟨1,p+b.length⟩
 | f+1,lv,p,b=>match headAt lv p b with
  | .error e=>.error e
  | .ok (k,n,i,u)=>if k=5∨k=6 then (match rAt f lv (decide (k=6)) n none (p+u) (b.drop u) with
    | .error e=>.error e
    | .ok (ms,dp,used)=>.ok (.node ⟨k,p,p+i,p+u+used,n,dp+1,0,0⟩ ms,u+used))
   else .ok (.node ⟨k,p,p+i,p+u,n,1,0,0⟩ [],u)
def rAt:Nat→Nat→Bool→Nat→Option Bytes→Nat→Bytes→Except Fault (List PT×Nat×Nat)
 | 0,_,_,_,_,p,b=>.error ⟨1,p+b.length⟩
 | _+1,_,_,0,_,_,_=>.ok ([],0,0)
 | f+1,lv,named,n+1,prev,p,b=>match nmAt named prev p b with
  | .error e=>.error e
  | .ok (k,l)=>match vAt f (lv+1) (p+l+k) (b.drop (l+k)) with
   | .error e=>.error e
   | .ok (t,u)=>match rAt f lv named n (some ((b.drop l).take k)) (p+l+k+u) (b.drop (l+k+u)) with
    | .error e=>.error e
    | .ok (ms,dp,used)=>.ok (t.nm (if named=true then p+l else 0) k::ms,max t.d.depth dp,l+k+u+used)
end
theorem uJ {kp p l' u:Nat} {b:Bytes} (h:numAt kp p b = .ok (l',u)):1≤l'∧l'+u≤b.length:=by
 unfold numAt at h;cases ev:varyOf p b with
 | error e=>rw [ev] at h;cases h
 | ok x =>
  obtain ⟨z,l⟩:=x
  rw [ev] at h;obtain ⟨u1,u2,u3,u4⟩:=Vm.vary_used ev
  dsimp only at h;split at h
  ·cases h
  ·cases es:someOf (p+l) (z / 2) (b.drop l) with
   | error e=>rw [es] at h;cases h
   | ok m =>
    rw [es] at h;obtain ⟨s1,s2⟩:=d6 es
    rw [ay] at s1;dsimp only at h;split at h
    ·cases h
    ·injection h with h;injection h with h1 h2;omega
theorem um {t:Bool} {p n u:Nat} {b:Bytes} (h:strAt t p b = .ok (n,u)):1≤u∧u+n≤b.length:=by
 unfold strAt at h;cases ev:varyOf p b with
 | error e=>rw [ev] at h;cases h
 | ok x =>
  obtain ⟨z,l⟩:=x
  rw [ev] at h;obtain ⟨u1,u2,u3,u4⟩:=Vm.vary_used ev
  dsimp only at h;cases es:someOf (p+l) z (b.drop l) with
  | error e=>rw [es] at h;cases h
  | ok m =>
   rw [es] at h;obtain ⟨s1,s2⟩:=d6 es
   rw [ay] at s1;dsimp only at h;have fin:(Except.ok (z,l):Except Fault (Nat×Nat)) = .ok (n,u)→1≤u∧u+n≤b.length:=fun h=>by
    injection h with h;injection h with h1 h2;omega
   cases t with
   | false=>exact fin h
   | true =>
    rw [if_pos rfl] at h;cases et:textOf (p+l) m with
    | error e=>rw [et] at h;cases h
    | ok t=>rw [et] at h;exact fin h
theorem name_used {prev:Option Bytes} {p k l:Nat} {b:Bytes} (h:Hm.nameAt prev p b = .ok (k,l)):l+k≤b.length∧1≤k∧k≤255∧1≤l:=by
 unfold Hm.nameAt at h;cases ev:varyOf p b with
 | error e=>rw [ev] at h;cases h
 | ok x =>
  obtain ⟨z,l'⟩:=x
  rw [ev] at h;obtain ⟨u1,u2,u3,u4⟩:=Vm.vary_used ev
  dsimp only at h;split at h
  ·cases h
  ·rename_i hz
   have hz':¬(z=0∨255<z):=hz
   cases es:someOf (p+l') z (b.drop l') with
   | error e=>rw [es] at h;cases h
   | ok m =>
    rw [es] at h;obtain ⟨s1,s2⟩:=d6 es
    rw [ay] at s1;dsimp only at h;cases et:textOf (p+l') m with
    | error e=>rw [et] at h;cases h
    | ok t =>
     rw [et] at h;dsimp only at h;have fin:(Except.ok (z,l'):Except Fault (Nat×Nat)) = .ok (k,l)→l+k≤b.length∧1≤k∧k≤255∧1≤l:=fun h=>by
      injection h with h;injection h with h1 h2;omega
     cases prev with
     | none=>exact fin h
     | some q0 =>
      dsimp only at h;by_cases hb:bytesBefore q0 m=false
      ·rw [if_pos hb] at h;cases h
      ·rw [if_neg hb] at h;exact fin h
theorem nm_used {named:Bool} {prev:Option Bytes} {p k l:Nat} {b:Bytes} (h:nmAt named prev p b = .ok (k,l)):l+k≤b.length∧k≤255:=by
 unfold nmAt at h;cases named with
 | true =>
  rw [if_pos rfl] at h;have:=name_used h
  omega
 | false =>
  rw [if_neg aI] at h;injection h with h;injection h with h1 h2;omega
theorem head_used {lv p k n i u:Nat} {b:Bytes} (h:headAt lv p b = .ok (k,n,i,u)):1≤u∧u≤b.length∧k≤8:=by
 unfold headAt at h;cases b with
 | nil=>cases h
 | cons c r =>
  dsimp only at h;rw [aj];split at h
  ·cases h
  ·rename_i h8
   split at h
   ·cases h
   ·split at h
    ·cases e:numAt p (p+1) r with
     | error e'=>rw [e] at h;cases h
     | ok x =>
      obtain ⟨x1,x2⟩:=x
      rw [e] at h;have:=uJ e
      injection h with h;injection h with h1 h2;injection h2 with h2 h3;injection h3 with h3 h4;omega
    ·split at h
     ·cases e:strAt (decide (c.toNat=4)) (p+1) r with
      | error e'=>rw [e] at h;cases h
      | ok x =>
       obtain ⟨x1,x2⟩:=x
       rw [e] at h;have:=um e
       injection h with h;injection h with h1 h2;injection h2 with h2 h3;injection h3 with h3 h4;omega
     ·split at h
      ·cases e:varyOf (p+1) r with
       | error e'=>rw [e] at h;cases h
       | ok x =>
        obtain ⟨x1,x2⟩:=x
        rw [e] at h;have:=Vm.vary_used e
        injection h with h;injection h with h1 h2;injection h2 with h2 h3;injection h3 with h3 h4;omega
      ·split at h
       ·cases e:someOf (p+1) 8 r with
        | error e'=>rw [e] at h;cases h
        | ok x =>
         rw [e] at h;have:=(d6 e).1
         injection h with h;injection h with h1 h2;injection h2 with h2 h3;injection h3 with h3 h4;omega
       ·split at h
        ·cases e:someOf (p+1) 32 r with
         | error e'=>rw [e] at h;cases h
         | ok x =>
          rw [e] at h;have:=(d6 e).1
          injection h with h;injection h with h1 h2;injection h2 with h2 h3;injection h3 with h3 h4;omega
        ·injection h with h;injection h with h1 h2;injection h2 with h2 h3;injection h3 with h3 h4;omega
mutual
theorem lR:∀ (f lv p:Nat) (b:Bytes) {t:PT} {u:Nat},vAt f lv p b = .ok (t,u)→1≤u∧u≤b.length∧1≤t.d.depth
 | 0,_,p,b,_,_,h=>by unfold vAt at h;cases h
 | f+1,lv,p,b,t,u,h=>by
  unfold vAt at h;cases eh:headAt lv p b with
  | error e=>rw [eh] at h;cases h
  | ok x =>
   obtain ⟨k,n,i,u'⟩:=x
   rw [eh] at h;obtain ⟨h1,h2,h3⟩:=head_used eh
   dsimp only at h;by_cases hk:k=5∨k=6
   ·rw [if_pos hk] at h;cases er:rAt f lv (decide (k=6)) n none (p+u') (b.drop u') with
    | error e=>rw [er] at h;cases h
    | ok y =>
     obtain ⟨ms',dp,used⟩:=y
     rw [er] at h;have hr:=pK f lv _ _ _ _ _ er
     rw [ay] at hr;injection h with h;injection h with e1 e2;subst e1;dsimp only [PT.d];omega
   ·rw [if_neg hk] at h;injection h with h;injection h with e1 e2;subst e1;dsimp only [PT.d];omega
theorem pK:∀ (f lv:Nat) (named:Bool) (n:Nat) (prev:Option Bytes) (p:Nat) (b:Bytes) {ms:List PT} {dp u:Nat},rAt f lv named n prev p b = .ok (ms,dp,u)→u≤b.length
 | 0,_,_,_,_,p,b,_,_,_,h=>by unfold rAt at h;cases h
 | f+1,lv,named,0,prev,p,b,ms,dp,u,h=>by
  unfold rAt at h;injection h with h;injection h with e1 e2;injection e2 with e2 e3;omega
 | f+1,lv,named,n+1,prev,p,b,ms,dp,u,h=>by
  unfold rAt at h;cases en:nmAt named prev p b with
  | error e=>rw [en] at h;cases h
  | ok x =>
   obtain ⟨k,l⟩:=x
   rw [en] at h;have hn:=nm_used en
   dsimp only at h;cases ev:vAt f (lv+1) (p+l+k) (b.drop (l+k)) with
   | error e=>rw [ev] at h;cases h
   | ok y =>
    obtain ⟨t,u1⟩:=y
    rw [ev] at h;have hv:=lR f _ _ _ ev
    rw [ay] at hv;dsimp only at h;cases er:rAt f lv named n (some ((b.drop l).take k)) (p+l+k+u1) (b.drop (l+k+u1)) with
    | error e=>rw [er] at h;cases h
    | ok z =>
     obtain ⟨ms2,dp2,u2⟩:=z
     rw [er] at h;have hr:=pK f lv _ _ _ _ _ er
     rw [ay] at hr;injection h with h;injection h with e1 e2;injection e2 with e2 e3;omega
end
mutual
theorem lS:∀ (f g lv p:Nat) (b:Bytes),2*b.length+1≤f→2*b.length+1≤g→vAt f lv p b=vAt g lv p b
 | 0,_,_,_,_,h,_=>by omega
 | _+1,0,_,_,_,_,h=>by omega
 | f+1,g+1,lv,p,b,hf,hg=>by
  unfold vAt;cases eh:headAt lv p b with
  | error e=>rfl
  | ok x =>
   obtain ⟨k,n,i,u⟩:=x
   obtain ⟨h1,h2,_⟩:=head_used eh
   dsimp only;by_cases hk:k=5∨k=6
   ·rw [if_pos hk,if_pos hk,jB f g lv (decide (k=6)) n none (p+u) (b.drop u) (by rw [ay];omega) (by rw [ay];omega)]
   ·rw [if_neg hk,if_neg hk]
theorem jB:∀ (f g lv:Nat) (named:Bool) (n:Nat) (prev:Option Bytes) (p:Nat) (b:Bytes),2*b.length+2≤f→2*b.length+2≤g→rAt f lv named n prev p b=rAt g lv named n prev p b
 | 0,_,_,_,_,_,_,_,h,_=>by omega
 | _+1,0,_,_,_,_,_,_,_,h=>by omega
 | f+1,g+1,lv,named,0,prev,p,b,hf,hg=>by unfold rAt;rfl
 | f+1,g+1,lv,named,n+1,prev,p,b,hf,hg=>by
  unfold rAt;cases en:nmAt named prev p b with
  | error e=>rfl
  | ok x =>
   obtain ⟨k,l⟩:=x
   have hn:=nm_used en
   dsimp only;rw [lS f g (lv+1) (p+l+k) (b.drop (l+k)) (by rw [ay];omega) (by rw [ay];omega)]
   cases ev:vAt g (lv+1) (p+l+k) (b.drop (l+k)) with
   | error e=>rfl
   | ok y =>
    obtain ⟨t,u1⟩:=y
    have hv:=lR g _ _ _ ev
    rw [ay] at hv;dsimp only;rw [jB f g lv named n (some ((b.drop l).take k)) (p+l+k+u1) (b.drop (l+k+u1)) (by rw [ay];omega) (by rw [ay];omega)]
end
def Vw (lv p:Nat) (b:Bytes):Except Fault (PT×Nat):=vAt (2*b.length+1) lv p b
def Rw (lv:Nat) (named:Bool) (n:Nat) (prev:Option Bytes) (p:Nat) (b:Bytes):Except Fault (List PT×Nat×Nat):=rAt (2*b.length+2) lv named n prev p b
theorem wV (lv p:Nat) (b:Bytes):Vw lv p b=match headAt lv p b with
  | .error e=>.error e
  | .ok (k,n,i,u)=>if k=5∨k=6 then (match Rw lv (decide (k=6)) n none (p+u) (b.drop u) with
    | .error e=>.error e
    | .ok (ms,dp,used)=>.ok (.node ⟨k,p,p+i,p+u+used,n,dp+1,0,0⟩ ms,u+used))
   else .ok (.node ⟨k,p,p+i,p+u,n,1,0,0⟩ [],u):=by
 unfold Vw Rw;conv=>lhs;unfold vAt
 cases eh:headAt lv p b with
 | error e=>rfl
 | ok x =>
  obtain ⟨k,n,i,u⟩:=x
  obtain ⟨h1,h2,_⟩:=head_used eh
  dsimp only;rw [jB (2*b.length) (2*(b.drop u).length+2) lv (decide (k=6)) n none (p+u) (b.drop u) (by rw [ay];omega) (by omega)]
theorem oZ (lv:Nat) (named:Bool) (prev:Option Bytes) (p:Nat) (b:Bytes):Rw lv named 0 prev p b = .ok ([],0,0):=by
 unfold Rw rAt;rfl
theorem wF (lv:Nat) (named:Bool) (n:Nat) (prev:Option Bytes) (p:Nat) (b:Bytes):Rw lv named (n+1) prev p b=match nmAt named prev p b with
  | .error e=>.error e
  | .ok (k,l)=>match Vw (lv+1) (p+l+k) (b.drop (l+k)) with
   | .error e=>.error e
   | .ok (t,u)=>match Rw lv named n (some ((b.drop l).take k)) (p+l+k+u) (b.drop (l+k+u)) with
    | .error e=>.error e
    | .ok (ms,dp,used)=>.ok (t.nm (if named=true then p+l else 0) k::ms,max t.d.depth dp,l+k+u+used):=by
 unfold Vw Rw;conv=>lhs;unfold rAt
 cases en:nmAt named prev p b with
 | error e=>rfl
 | ok x =>
  obtain ⟨k,l⟩:=x
  have hn:=nm_used en
  dsimp only;rw [lS (2*b.length+1) (2*(b.drop (l+k)).length+1) (lv+1) (p+l+k) (b.drop (l+k)) (by rw [ay];omega) (by omega)]
  cases ev:vAt (2*(b.drop (l+k)).length+1) (lv+1) (p+l+k) (b.drop (l+k)) with
  | error e=>rfl
  | ok y =>
   obtain ⟨t,u1⟩:=y
   have hv:=lR _ _ _ _ ev
   rw [ay] at hv;dsimp only;rw [jB (2*b.length+1) (2*(b.drop (l+k+u1)).length+2) lv named n (some ((b.drop l).take k)) (p+l+k+u1) (b.drop (l+k+u1)) (by rw [ay];omega) (by omega)]
theorem gF {lo hi x p y:Nat} {b r:Bytes} (h:follow 0 lo hi x p b = .ok (y,r)):y=x∧r=b:=by
 unfold follow at h;injection h with h;injection h with h1 h2;exact ⟨h1.symm,h2.symm⟩
theorem eV {k lo hi x p y:Nat} {b r:Bytes} (h:follow (k+1) lo hi x p b = .ok (y,r)):∃ (c:UInt8) (b':Bytes),b=c::b'∧lo≤c.toNat∧c.toNat≤hi∧follow k 128 191 (64*x+c.toNat % 64) (p+1) b' = .ok (y,r):=by
 cases b with
 | nil=>unfold follow at h;cases h
 | cons c b =>
  unfold follow at h;by_cases hc:lo≤c.toNat∧c.toNat≤hi
  ·rw [if_pos hc] at h;exact ⟨c,b,rfl,hc.1,hc.2,h⟩
  ·rw [if_neg hc] at h;cases h
theorem u5 {c:Nat} (h:Um.cf c≠0):(Um.cf c=1∧194≤c∧c≤223)∨(Um.cf c=2∧224≤c∧c≤239)∨(Um.cf c=3∧240≤c∧c≤244):=by
 unfold Um.cf at h ⊢;by_cases h1:194≤c∧c≤223
 ·rw [if_pos h1];exact .inl ⟨rfl,h1⟩
 ·rw [if_neg h1] at h ⊢;by_cases h2:224≤c∧c≤239
  ·rw [if_pos h2];exact .inr (.inl ⟨rfl,h2⟩)
  ·rw [if_neg h2] at h ⊢;by_cases h3:240≤c∧c≤244
   ·rw [if_pos h3];exact .inr (.inr ⟨rfl,h3⟩)
   ·rw [if_neg h3] at h;exact absurd rfl h
theorem of_eq {n:Nat} {c:UInt8} (h:n=c.toNat):UInt8.ofNat n=c:=by rw [h,UInt8.ofNat_toNat]
theorem tR (x:Nat) {d:Nat} (h:d<64):(64*x+d) / 64=x∧(64*x+d) % 64=d:=by omega
theorem m64 {b:Nat} (h:128≤b∧b≤191):∃ d,d<64∧b=128+d∧b % 64=d:=⟨b - 128,by omega,by omega,by omega⟩
theorem se2 {y a b:Nat} (ha:194≤a∧a≤223) (hb:128≤b∧b≤191) (e:y=64*(a % 32)+b % 64):¬y<128∧y<2048∧0xC0+y / 64=a∧0x80+y % 64=b:=by
 obtain ⟨d,hd,rfl,ed⟩:=m64 hb
 obtain ⟨x,rfl,ex,h1,h2⟩:∃ x,a=192+x∧a % 32=x∧2≤x∧x<32:=⟨a - 192,by omega,by omega,by omega,by omega⟩
 rw [ed,ex] at e;obtain ⟨q1,q2⟩:=tR x hd
 subst e;rw [q1,q2];clear q1 q2 ed ex ha hb;exact ⟨by omega,by omega,rfl,rfl⟩
theorem se3 {y a b c:Nat} (ha:224≤a∧a≤239) (hb:128≤b∧b≤191) (hc:128≤c∧c≤191) (k1:a=224→160≤b) (k2:a=237→b≤159) (e:y=64*(64*(a % 16)+b % 64)+c % 64) :
  ¬y<2048∧y<65536∧0xE0+y / 4096=a∧0x80+y / 64 % 64=b∧0x80+y % 64=c∧(y<55296∨(57344≤y∧y≤1114111)):=by
 obtain ⟨d,hd,rfl,ed⟩:=m64 hb
 obtain ⟨g,hg,rfl,eg⟩:=m64 hc
 obtain ⟨x,rfl,ex,h2⟩:∃ x,a=224+x∧a % 16=x∧x<16:=⟨a - 224,by omega,by omega,by omega⟩
 rw [ed,eg,ex] at e;obtain ⟨q1,q2⟩:=tR (64*x+d) hg
 obtain ⟨q3,q4⟩:=tR x hd
 subst e;rw [show (64*(64*x+d)+g) / 4096=(64*(64*x+d)+g) / 64 / 64 from (cj _ 64 64).symm,q1,q2,q3,q4];clear q1 q2 q3 q4 ed eg ex ha hb hc;exact ⟨by omega,by omega,rfl,rfl,rfl,by omega⟩
theorem se4 {y a b c z:Nat} (ha:240≤a∧a≤244) (hb:128≤b∧b≤191) (hc:128≤c∧c≤191) (hz:128≤z∧z≤191) (k1:a=240→144≤b) (k2:a=244→b≤143) (e:y=64*(64*(64*(a % 8)+b % 64)+c % 64)+z % 64) :
  ¬y<65536∧0xF0+y / 262144=a∧0x80+y / 4096 % 64=b∧0x80+y / 64 % 64=c∧0x80+y % 64=z∧(y<55296∨(57344≤y∧y≤1114111)):=by
 obtain ⟨d,hd,rfl,ed⟩:=m64 hb
 obtain ⟨g,hg,rfl,eg⟩:=m64 hc
 obtain ⟨i,hi,rfl,ei⟩:=m64 hz
 obtain ⟨x,rfl,ex,h2⟩:∃ x,a=240+x∧a % 8=x∧x<5:=⟨a - 240,by omega,by omega,by omega⟩
 rw [ed,eg,ei,ex] at e;obtain ⟨q1,q2⟩:=tR (64*(64*x+d)+g) hi
 obtain ⟨q3,q4⟩:=tR (64*x+d) hg
 obtain ⟨q5,q6⟩:=tR x hd
 subst e;rw [show (64*(64*(64*x+d)+g)+i) / 262144=(64*(64*(64*x+d)+g)+i) / 64 / 64 / 64 by rw [cj,cj],show (64*(64*(64*x+d)+g)+i) / 4096=(64*(64*(64*x+d)+g)+i) / 64 / 64 from (cj _ 64 64).symm,q1,q2,q3,q4,q5,q6]
 clear q1 q2 q3 q4 q5 q6 ed eg ei ex ha hb hc hz;exact ⟨by omega,rfl,rfl,rfl,rfl,by omega⟩
theorem uP {y m n:Nat} (h:¬y<n) (k:m≤n):¬y<m:=fun z=>h (aT z k)
theorem qA {p y:Nat} {b r:Bytes} (h:scalarAt p b = .ok (y,r)):b=utf8One y++r∧isScalar y=true:=by
 unfold scalarAt at h;cases b with
 | nil=>cases h
 | cons c0 b =>
  dsimp only at h;have hl:=Um.leads_eq c0.toNat c0.toNat_lt
  by_cases h1:c0.toNat<128
  ·rw [if_pos h1] at hl;rw [hl] at h;obtain ⟨e1,e2⟩:=gF h
   have e1:y=c0.toNat:=e1
   subst e1 e2;unfold utf8One isScalar;rw [if_pos (by omega),of_eq rfl,ag (show c0.toNat<55296 by omega)]
   exact ⟨rfl,rfl⟩
  ·rw [if_neg h1] at hl;by_cases h2:Um.cf c0.toNat=0
   ·rw [if_pos h2] at hl;rw [hl] at h;cases h
   ·rw [if_neg h2] at hl;rw [hl] at h;dsimp only at h;have hsc:∀ {y:Nat},(y<55296∨(57344≤y∧y≤1114111))→isScalar y=true:=fun {y} q=>by
     unfold isScalar;rcases q with q | q
     ·rw [ag q];rfl
     ·rw [ag q.1,ag q.2];simp
    rcases u5 h2 with ⟨f1,f2,f3⟩ | ⟨f1,f2,f3⟩ | ⟨f1,f2,f3⟩
    ·rw [f1] at h;obtain ⟨c1,b1,rfl,l1,u1,h⟩:=eV h
     obtain ⟨e1,e2⟩:=gF h
     subst e2;have m1:128≤c1.toNat∧c1.toNat≤191:=by
      unfold Um.ls at l1;unfold Um.hs at u1;rw [if_neg (by omega),if_neg (by omega)] at l1 u1
      exact ⟨l1,u1⟩
     simp only [firstBits] at e1;obtain ⟨g1,g2,g3,g4⟩:=se2 ⟨f2,f3⟩ m1 e1
     refine ⟨?_,hsc (.inl (aT g2 (by decide)))⟩
     unfold utf8One;rw [if_neg g1,if_pos g2,of_eq g3,of_eq g4];rfl
    ·rw [f1] at h;obtain ⟨c1,b1,rfl,l1,u1,h⟩:=eV h
     obtain ⟨c2,b2,rfl,l2,u2,h⟩:=eV h
     obtain ⟨e1,e2⟩:=gF h
     subst e2;have m1:128≤c1.toNat∧c1.toNat≤191∧(c0.toNat=224→160≤c1.toNat)∧(c0.toNat=237→c1.toNat≤159):=by
      unfold Um.ls at l1;unfold Um.hs at u1;by_cases q1:c0.toNat=224
      ·rw [if_pos q1] at l1;rw [if_neg (by omega),if_neg (by omega)] at u1
       omega
      ·rw [if_neg q1,if_neg (by omega)] at l1
       by_cases q2:c0.toNat=237
       ·rw [if_pos q2] at u1;omega
       ·rw [if_neg q2,if_neg (by omega)] at u1
        omega
     simp only [firstBits] at e1;obtain ⟨g1,g2,g3,g4,g5,g6⟩:=se3 ⟨f2,f3⟩ ⟨m1.1,m1.2.1⟩ ⟨l2,u2⟩ m1.2.2.1 m1.2.2.2 e1
     refine ⟨?_,hsc g6⟩
     unfold utf8One;rw [if_neg (uP g1 (by decide)),if_neg g1,if_pos g2,of_eq g3,of_eq g4,of_eq g5]
     rfl
    ·rw [f1] at h;obtain ⟨c1,b1,rfl,l1,u1,h⟩:=eV h
     obtain ⟨c2,b2,rfl,l2,u2,h⟩:=eV h
     obtain ⟨c3,b3,rfl,l3,u3,h⟩:=eV h
     obtain ⟨e1,e2⟩:=gF h
     subst e2;have m1:128≤c1.toNat∧c1.toNat≤191∧(c0.toNat=240→144≤c1.toNat)∧(c0.toNat=244→c1.toNat≤143):=by
      unfold Um.ls at l1;unfold Um.hs at u1;rw [if_neg (by omega)] at l1 u1
      by_cases q1:c0.toNat=240
      ·rw [if_pos q1] at l1;rw [if_neg (by omega)] at u1
       omega
      ·rw [if_neg q1] at l1;by_cases q2:c0.toNat=244
       ·rw [if_pos q2] at u1;omega
       ·rw [if_neg q2] at u1;omega
     simp only [firstBits] at e1;obtain ⟨g1,g2,g3,g4,g5,g6⟩:=se4 ⟨f2,f3⟩ ⟨m1.1,m1.2.1⟩ ⟨l2,u2⟩ ⟨l3,u3⟩ m1.2.2.1 m1.2.2.2 e1
     refine ⟨?_,hsc g6⟩
     unfold utf8One;rw [if_neg (uP g1 (by decide)),if_neg (uP g1 (by decide)),if_neg g1,of_eq g2,of_eq g3,of_eq g4,of_eq g5]
     rfl
theorem kT:∀ (f p:Nat) (b:Bytes) {t:List Nat},scalarsFrom f p b = .ok t→utf8 t=b∧t.all isScalar=true
 | 0,p,[],t,h=>by
  unfold scalarsFrom at h;injection h with h;subst h;exact ⟨rfl,rfl⟩
 | f+1,p,[],t,h=>by
  unfold scalarsFrom at h;injection h with h;subst h;exact ⟨rfl,rfl⟩
 | 0,p,c::b,t,h=>by unfold scalarsFrom at h;cases h
 | f+1,p,c::b,t,h=>by
  unfold scalarsFrom at h;cases e:scalarAt p (c::b) with
  | error q=>rw [e] at h;cases h
  | ok x =>
   obtain ⟨y,r⟩:=x
   rw [e] at h;dsimp only at h;obtain ⟨s1,s2⟩:=qA e
   cases e2:scalarsFrom f (p+((c::b).length - r.length)) r with
   | error q=>rw [e2] at h;cases h
   | ok l =>
    rw [e2] at h;have h':(Except.ok (y::l):Except Nat (List Nat)) = .ok t:=h
    injection h' with h'
    subst h'
    obtain ⟨i1,i2⟩:=kT f _ r e2
    refine ⟨?_,by rw [fM,s2,i2];rfl⟩
    unfold utf8 at i1 ⊢;rw [List.flatMap_cons,i1,←s1]
theorem pC {p:Nat} {b:Bytes} {t:List Nat} (h:textOf p b = .ok t):utf8 t=b∧t.all isScalar=true:=by
 unfold textOf scalars at h;cases e:scalarsFrom b.length p b with
 | error q=>rw [e] at h;cases h
 | ok l =>
  rw [e] at h;injection h with h;subst h;exact kT _ _ _ e
theorem jP:∀ (k lo hi x p p':Nat) (b:Bytes) {z:Nat×Bytes},follow k lo hi x p b = .ok z→follow k lo hi x p' b = .ok z
 | 0,_,_,_,_,_,_,z,h=>by unfold follow at h ⊢;exact h
 | k+1,_,_,_,_,_,[],z,h=>by unfold follow at h;cases h
 | k+1,lo,hi,x,p,p',c::b,z,h=>by
  unfold follow at h ⊢;by_cases hc:lo≤c.toNat∧c.toNat≤hi
  ·rw [if_pos hc] at h ⊢;exact jP k _ _ _ _ _ b h
  ·rw [if_neg hc] at h;cases h
theorem l4:∀ (f p p':Nat) (b:Bytes) {t:List Nat},scalarsFrom f p b = .ok t→scalarsFrom f p' b = .ok t
 | 0,p,p',[],t,h=>by unfold scalarsFrom at h ⊢;exact h
 | f+1,p,p',[],t,h=>by unfold scalarsFrom at h ⊢;exact h
 | 0,p,p',c::b,t,h=>by unfold scalarsFrom at h;cases h
 | f+1,p,p',c::b,t,h=>by
  unfold scalarsFrom at h ⊢;cases e:scalarAt p (c::b) with
  | error q=>rw [e] at h;cases h
  | ok x =>
   have e':scalarAt p' (c::b) = .ok x:=by
    unfold scalarAt at e ⊢;dsimp only at e ⊢;cases hl:leads c.toNat with
    | none=>rw [hl] at e;cases e
    | some y =>
     obtain ⟨k,lo,hi⟩:=y
     rw [hl] at e;exact jP _ _ _ _ _ _ _ e
   obtain ⟨y,r⟩:=x
   rw [e] at h;rw [e'];dsimp only at h ⊢;cases e2:scalarsFrom f (p+((c::b).length - r.length)) r with
   | error q=>rw [e2] at h;cases h
   | ok l =>
    rw [e2] at h;rw [l4 f _ (p'+((c::b).length - r.length)) r e2];exact h
theorem sQ {p:Nat} {b:Bytes} {t:List Nat} (h:textOf p b = .ok t):scalars 0 b = .ok t:=by
 unfold textOf scalars at h;unfold scalars;cases e:scalarsFrom b.length p b with
 | error q=>rw [e] at h;cases h
 | ok l =>
  rw [e] at h;injection h with h;subst h;exact l4 _ _ _ _ e
theorem pk:∀ (h:Bytes) (c:UInt8),Vm.High h→c.toNat<128→(0<h.length→c≠0)→vary (Vm.val (h++[c]))=h++[c]
 | [],c,_,hc,_=>by
  have e:Vm.val ([]++[c])=c.toNat:=by
   show c.toNat % 128+128*0=c.toNat
   omega
  rw [e];unfold vary;rw [if_pos hc,of_eq rfl];rfl
 | x::h,c,hh,hc,hz=>by
  have ih:=pk h c (fun d hd=>hh d (by simp [hd])) hc fun _=>hz (by rw [aj];omega)
  have hx0:=hh x (by simp)
  have e:Vm.val (x::h++[c])=x.toNat % 128+128*Vm.val (h++[c]):=rfl
  have c0:c≠0:=hz (by rw [aj];omega)
  have c1:0<c.toNat:=by
   apply Nat.pos_of_ne_zero
   intro z;exact c0 (UInt8.toNat_inj.mp z)
  have pos:0<Vm.val (h++[c]):=by
   rw [Vm.val_snoc];have:0<c.toNat % 128*128 ^ h.length:=Nat.mul_pos (by omega) (Nat.pow_pos (by decide))
   omega
  have hx:x.toNat % 128<128:=Nat.mod_lt _ (by decide)
  have hx2:=x.toNat_lt
  rw [e];unfold vary;rw [if_neg (by omega)]
  have d:(x.toNat % 128+128*Vm.val (h++[c])) / 128=Vm.val (h++[c]):=by omega
  rw [d,ih,of_eq (show 128+(x.toNat % 128+128*Vm.val (h++[c])) % 128=x.toNat by omega)]
  rfl
theorem gf {p n l:Nat} {b:Bytes} (h:varyOf p b = .ok (n,l)):vary n=b.take l:=by
 unfold varyOf at h;simp only at h;generalize hh:((b.take 5).takeWhile fun (c:UInt8)=>decide (128≤c.toNat))=t at h
 by_cases h5:t.length=5
 ·rw [if_pos h5] at h;cases h
 ·rw [if_neg h5] at h;split at h
  ·cases h
  ·rename_i c r hd
   split at h
   ·cases h
   ·rename_i hn
    split at h
    ·cases h
    ·injection h with h;injection h with h1 h2;subst h1 h2;have ht:t.length≤5:=by
      rw [←hh];exact bF (List.takeWhile_sublist _).length_le (by rw [aH];exact Nat.min_le_left _ _)
     have hb:b=t++c::r:=by
      have p1:t <+: b.take 5:=by rw [←hh];exact List.takeWhile_prefix _
      have p2:t <+: b:=p1.trans (List.take_prefix _ _)
      obtain ⟨s,hs⟩:=p2
      rw [←hs,dG] at hd;rw [←hs,hd]
     have hhigh:Vm.High t:=fun d hd=>by
      rw [←hh] at hd;exact of_decide_eq_true (df.mp List.all_takeWhile d hd)
     have hc:c.toNat<128:=by
      apply fF
      intro hle;have e:b.take 5=t++c::r.take (4 - t.length):=by
       rw [hb,ig,bT (by omega),show 5 - t.length=(4 - t.length)+1 by omega,eK]
      rw [e,List.takeWhile_append] at hh;split at hh
      ·rename_i q
       rw [eN,if_pos (ag hle)] at hh;have:=congrArg List.length hh
       simp at this
      ·rename_i q
       apply q
       rw [hh]
     have e2:b.take (t.length+1)=t++[c]:=by
      rw [hb,ig,bT (by omega),show t.length+1 - t.length=1 by omega]
      rfl
     rw [e2];exact pk t c hhigh hc fun z=>fun z2=>hn ⟨z,z2⟩
theorem eU {p n l:Nat} {b:Bytes} (h:varyOf p b = .ok (n,l)):(vary n).length=l:=by
 have u:=Vm.vary_used h
 rw [gf h,aH];omega
theorem le_succ (k n:Nat):le (k+1) n=UInt8.ofNat (n % 256)::le k (n / 256):=by
 unfold le;rw [List.range_succ_eq_map,aY,dN];congr 1
 ·rw [Nat.pow_zero,Nat.div_one]
 ·apply List.map_congr_left
  intro i _;show UInt8.ofNat (n / 256 ^ (i+1) % 256)=UInt8.ofNat (n / 256 / 256 ^ i % 256)
  rw [ff,Nat.mul_comm,←cj]
theorem oM:∀ (m:Bytes),le m.length (ofLe m)=m
 | []=>rfl
 | c::m=>by
  have e:ofLe (c::m)=c.toNat+256*ofLe m:=rfl
  have c2:=c.toNat_lt
  rw [aj,le_succ,e,of_eq (show (c.toNat+256*ofLe m) % 256=c.toNat by omega),show (c.toNat+256*ofLe m) / 256=ofLe m by omega,oM m]
theorem oF:∀ (m:Bytes),ofLe m<256 ^ m.length
 | []=>by decide
 | c::m=>by
  have e:ofLe (c::m)=c.toNat+256*ofLe m:=rfl
  have c2:=c.toNat_lt
  have ih:=oF m
  rw [e,aj,ff];omega
theorem mZ:∀ (m:Bytes),m.getLast?≠some 0→amountLength (ofLe m)=m.length∧(m≠[]→0<ofLe m)
 | [],_=>by
  refine ⟨?_,fun z=>absurd rfl z⟩
  show amountLength 0=0
  unfold amountLength;rfl
 | [c],h=>by
  have c0:c≠0:=fun z=>h (by rw [z];rfl)
  have c1:0<c.toNat:=Nat.pos_of_ne_zero fun z=>c0 (UInt8.toNat_inj.mp z)
  have c2:=c.toNat_lt
  have e:ofLe [c]=c.toNat:=by
   show c.toNat+256*0=c.toNat
   omega
  rw [e];refine ⟨?_,fun _=>c1⟩
  unfold amountLength;rw [if_neg (by omega),show c.toNat / 256=0 by omega]
  unfold amountLength;rfl
 | c::d::m,h=>by
  have ih:=mZ (d::m) (by rw [eW] at h;exact h)
  have e:ofLe (c::d::m)=c.toNat+256*ofLe (d::m):=rfl
  have pos:=ih.2 (by simp)
  have c2:=c.toNat_lt
  rw [e];refine ⟨?_,fun _=>by omega⟩
  unfold amountLength;rw [if_neg (by omega),show (c.toNat+256*ofLe (d::m)) / 256=ofLe (d::m) by omega,ih.1]
  rfl
def oj (z:Int):Nat:=2*amountLength z.natAbs+if z<0 then 1 else 0
theorem pS {z:Nat} {m:Bytes} (hm:m.length=z / 2) (h0:¬(m.getLast? = some 0∨z=1)) :
  oj (if z % 2=1 then -(ofLe m:Int) else (ofLe m:Int))=z∧(if z % 2=1 then -(ofLe m:Int) else (ofLe m:Int)).natAbs=ofLe m∧amountLength (ofLe m)=m.length:=by
 have a:=mZ m fun q=>h0 (.inl q)
 have na:(if z % 2=1 then -(ofLe m:Int) else (ofLe m:Int)).natAbs=ofLe m:=by split<;>omega
 refine ⟨?_,na,a.1⟩
 unfold oj;rw [na,a.1,hm];by_cases hz:z % 2=1
 ·have hne:m≠[]:=fun q=>by
   rw [q] at hm;have:z / 2=0:=hm.symm
   exact h0 (.inr (by omega))
  have:=a.2 hne
  rw [if_pos hz,if_pos (by omega)]
  omega
 ·rw [if_neg hz,if_neg (by omega)]
  omega
theorem uB (f lv:Nat) (named:Bool) (n:Nat) (prev:Option Bytes) (p:Nat) (b:Bytes):rowAt (f+1) lv named (n+1) prev p b=match nmAt named prev p b with
  | .error e=>.error e
  | .ok (k,l)=>match valueAt f (lv+1) (p+l+k) (b.drop (l+k)) with
   | .error e=>.error e
   | .ok (v,u)=>match rowAt f lv named n (some ((b.drop l).take k)) (p+l+k+u) (b.drop (l+k+u)) with
    | .error e=>.error e
    | .ok (m,u2)=>.ok (.cons ((b.drop l).take k) v m,l+k+u+u2):=by
 have tail:∀ (name:Bytes) (l:Nat),(Except.bind (valueAt f (lv+1) (p+l) (b.drop l)) fun x=>Except.bind (rowAt f lv named n (some name) (p+l+x.2) (b.drop (l+x.2))) fun y=>(Except.ok (Row.cons name x.1 y.1,l+x.2+y.2):Except Fault (Row×Nat)))
   = match valueAt f (lv+1) (p+l) (b.drop l) with
   | .error e=>.error e
   | .ok (v,u)=>match rowAt f lv named n (some name) (p+l+u) (b.drop (l+u)) with
    | .error e=>.error e
    | .ok (m,u2)=>.ok (.cons name v m,l+u+u2):=fun name l=>by
  cases ev:valueAt f (lv+1) (p+l) (b.drop l) with
  | error e=>rfl
  | ok x =>
   obtain ⟨v,u⟩:=x
   simp only [Except.bind];cases er:rowAt f lv named n (some name) (p+l+u) (b.drop (l+u)) with
   | error e=>rfl
   | ok y=>rfl
 conv=>lhs;unfold rowAt
 unfold nmAt;cases named with
 | false =>
  have t0:=tail [] 0
  exact t0
 | true =>
  unfold Hm.nameAt;cases ev:varyOf p b with
  | error e=>rfl
  | ok x =>
   obtain ⟨k,l⟩:=x
   simp only [bind,Except.bind,if_true];by_cases hk:k=0∨NAME<k
   ·simp only [if_pos hk]
   ·simp only [if_neg hk];cases es:someOf (p+l) k (b.drop l) with
    | error e=>rfl
    | ok m =>
     simp only;obtain ⟨_,em⟩:=d6 es
     subst em;cases et:textOf (p+l) ((b.drop l).take k) with
     | error e=>rfl
     | ok t =>
      have t0:=tail ((b.drop l).take k) (l+k)
      have e:p+l+k=p+(l+k):=bg ..
      cases prev with
      | none =>
       simp only [Bool.true_eq_false,if_false];rw [e];exact t0
      | some q0 =>
       simp only;by_cases hb:bytesBefore q0 ((b.drop l).take k)=false
       ·simp only [if_pos hb]
       ·simp only [if_neg hb];rw [e];exact t0
def VG (lv:Nat) (b:Bytes) (v:Value) (n:Nat):Prop:=v.enc=b.take n∧n≤b.length∧v.plain=true∧v.deep+lv≤65
def l8 (prev:Option Bytes) (l:List Bytes):Bool:=match prev with
 | some q=>rising (q::l)
 | none=>rising l
def RG (lv:Nat) (named:Bool) (n:Nat) (prev:Option Bytes) (b:Bytes) (m:Row) (u:Nat):Prop:=m.enc named=b.take u∧u≤b.length∧m.length=n∧m.plain=true∧(lv≤64→m.deep+lv≤64) ∧
 (named=false→m.names.all (fun (x:Bytes)=>x==[])=true)∧(named=true→m.names.all nameOk=true∧l8 prev m.names=true)
theorem eQ {k:UInt8} {r:Bytes} {n:Nat}:(k::r).take (1+n)=k::r.take n:=by rw [iD 1 n];rfl
theorem uL {named:Bool} {prev:Option Bytes} {p k l:Nat} {b:Bytes} (h:nmAt named prev p b = .ok (k,l)) :
  ((b.drop l).take k).length=k∧l+k≤b.length∧(if named=true then vary ((b.drop l).take k).length++(b.drop l).take k else [])=b.take (l+k)∧(named=true→l=(vary k).length∧1≤k∧nameOk ((b.drop l).take k)=true∧(∀ q,prev=some q→bytesBefore q ((b.drop l).take k)=true))∧(named=false→k=0∧l=0):=by
 have u:=nm_used h
 have hl:((b.drop l).take k).length=k:=by rw [aH,ay];omega
 refine ⟨hl,u.1,?_⟩
 unfold nmAt at h;cases named with
 | false =>
  rw [if_neg aI] at h;injection h with h;injection h with h1 h2;subst h1 h2;exact ⟨rfl,fun z=>Bool.noConfusion z,fun _=>⟨rfl,rfl⟩⟩
 | true =>
  rw [if_pos rfl] at h;have nu:=name_used h
  unfold Hm.nameAt at h;cases ev:varyOf p b with
  | error e=>rw [ev] at h;cases h
  | ok x =>
   obtain ⟨z,l'⟩:=x
   rw [ev] at h;dsimp only at h;split at h
   ·cases h
   ·cases es:someOf (p+l') z (b.drop l') with
    | error e=>rw [es] at h;cases h
    | ok m =>
     rw [es] at h;obtain ⟨s1,s2⟩:=d6 es
     dsimp only at h;cases et:textOf (p+l') m with
     | error e=>rw [et] at h;cases h
     | ok t =>
      rw [et] at h;dsimp only at h;have fin:(Except.ok (z,l'):Except Fault (Nat×Nat)) = .ok (k,l)→(∀ q,prev=some q→bytesBefore q m=true)→(if true=true then vary ((b.drop l).take k).length++(b.drop l).take k else [])=b.take (l+k)∧(true=true→l=(vary k).length∧1≤k∧nameOk ((b.drop l).take k)=true∧(∀ q,prev=some q→bytesBefore q ((b.drop l).take k)=true))∧(true=false→k=0∧l=0):=fun h hq=>by
       injection h with h;injection h with h1 h2;subst h1 h2;subst s2;refine ⟨?_,fun _=>⟨(eU ev).symm,nu.2.1,?_,hq⟩,fun z=>Bool.noConfusion z⟩
       ·rw [if_pos rfl,hl,gf ev,dQ]
       ·unfold nameOk;rw [hl,sQ et,ag nu.2.1,ag (show z≤NAME from nu.2.2.1)];rfl
      cases prev with
      | none=>exact fin h fun q z=>by cases z
      | some q0 =>
       dsimp only at h;by_cases hb:bytesBefore q0 m=false
       ·rw [if_pos hb] at h;cases h
       ·rw [if_neg hb] at h;refine fin h fun q z=>?_
        injection z with z;subst z;cases hq:bytesBefore q0 m with
        | true=>rfl
        | false=>exact absurd hq hb
def gK (f deep p:Nat) (r:Bytes):Nat→Except Fault (Value×Nat)
 | 0=>.ok (.no,1)
 | 1=>.ok (.yes,1)
 | 2=>do
  let (z,l) ←varyOf (p+1) r
  if NUMBER<z / 2 then .error ⟨4,p⟩ else do
  let m ←someOf (p+1+l) (z / 2) (r.drop l)
  if m.getLast? = some 0∨z=1 then .error ⟨4,p⟩ else .ok (.num (if z % 2=1 then -(ofLe m:Int) else (ofLe m:Int)),1+l+z / 2)
 | 3=>do
  let (n,l) ←varyOf (p+1) r
  let m ←someOf (p+1+l) n (r.drop l)
  .ok (.bytes m,1+l+n)
 | 4=>do
  let (n,l) ←varyOf (p+1) r
  let m ←someOf (p+1+l) n (r.drop l)
  let t ←textOf (p+1+l) m
  .ok (.text t,1+l+n)
 | 5=>do
  let (n,l) ←varyOf (p+1) r
  let (m,used) ←rowAt f deep false n none (p+1+l) (r.drop l)
  .ok (.list m,1+l+used)
 | 6=>do
  let (n,l) ←varyOf (p+1) r
  let (m,used) ←rowAt f deep true n none (p+1+l) (r.drop l)
  .ok (.rec_ m,1+l+used)
 | 7=>do
  let m ←someOf (p+1) 8 r
  .ok (.moment (signed64 (ofLe m)),9)
 | _=>do
  let m ←someOf (p+1) 32 r
  .ok (.id m,33)
theorem wY (f deep p:Nat) (k:UInt8) (r:Bytes):valueAt (f+1) deep p (k::r)=if 8<k.toNat then .error ⟨2,p⟩ else if DEEP<deep then .error ⟨7,p⟩ else gK f deep p r k.toNat:=by
 rw [valueAt];dsimp only;generalize k.toNat=c;match c with
 | 0 | 1 | 2 | 3 | 4 | 5 | 6 | 7=>rfl
 | _+8=>rfl
mutual
theorem rq:∀ (f lv p:Nat) (b:Bytes) {v:Value} {n:Nat},valueAt f lv p b = .ok (v,n)→VG lv b v n
 | 0,lv,p,b,v,n,h=>by unfold valueAt at h;cases h
 | f+1,lv,p,[],v,n,h=>by unfold valueAt at h;cases h
 | f+1,lv,p,k::r,v,n,h=>by
  rw [wY] at h;by_cases h8:8<k.toNat
  ·rw [if_pos h8] at h;cases h
  ·rw [if_neg h8] at h;by_cases hd:DEEP<lv
   ·rw [if_pos hd] at h;cases h
   ·rw [if_neg hd] at h;have hd':lv≤64:=fG hd
    have hk:k.toNat=0∨k.toNat=1∨k.toNat=2∨k.toNat=3∨k.toNat=4∨k.toNat=5∨k.toNat=6∨k.toNat=7∨k.toNat=8:=by omega
    have ke:∀ {c:Nat},k.toNat=c→UInt8.ofNat c=k:=fun q=>of_eq q.symm
    have d1:∀ {w:Value},w.deep=1→w.deep+lv≤65:=fun q=>by rw [q];omega
    rcases hk with hk | hk | hk | hk | hk | hk | hk | hk | hk
    ·rw [hk] at h;simp only [gK] at h;cases h;rw [←ke hk];exact ⟨rfl,by rw [aj];omega,rfl,d1 rfl⟩
    ·rw [hk] at h;simp only [gK] at h;cases h;rw [←ke hk];exact ⟨rfl,by rw [aj];omega,rfl,d1 rfl⟩
    ·rw [hk] at h;simp only [gK] at h;cases ev:varyOf (p+1) r with
     | error e=>rw [ev] at h;cases h
     | ok x =>
      obtain ⟨z,l⟩:=x
      rw [ev] at h;have vu:=Vm.vary_used ev
      simp only [bind,Except.bind] at h;by_cases hz:NUMBER<z / 2
      ·rw [if_pos hz] at h;cases h
      ·rw [if_neg hz] at h;cases es:someOf (p+1+l) (z / 2) (r.drop l) with
       | error e=>rw [es] at h;cases h
       | ok m =>
        rw [es] at h;simp only at h;obtain ⟨s1,s2⟩:=d6 es
        rw [ay] at s1;by_cases hm:m.getLast? = some 0∨z=1
        ·rw [if_pos hm] at h;cases h
        ·rw [if_neg hm] at h;injection h with h;injection h with h1 h2;subst h1 h2;have ml:m.length=z / 2:=by rw [s2,aH,ay];omega
         obtain ⟨t1,t2,t3⟩:=pS ml hm
         refine ⟨?_,by rw [aj];omega,?_,d1 rfl⟩
         ·show 2::(vary (oj _)++le (amountLength (Int.natAbs _)) (Int.natAbs _))=_
          rw [t1,t2,t3,oM,gf ev,bg,eQ,dQ,←s2,←ke hk];rfl
         ·have key:∀ N:Nat,m.length≤N→ofLe m<256 ^ N:=fun N q=>aT (oF m) (Nat.pow_le_pow_right (by decide) q)
          unfold Value.plain;rw [t2];exact ag (key NUMBER (by rw [ml];exact fG hz))
    ·rw [hk] at h;simp only [gK] at h;cases ev:varyOf (p+1) r with
     | error e=>rw [ev] at h;cases h
     | ok x =>
      obtain ⟨z,l⟩:=x
      rw [ev] at h;have vu:=Vm.vary_used ev
      simp only [bind,Except.bind] at h;cases es:someOf (p+1+l) z (r.drop l) with
      | error e=>rw [es] at h;cases h
      | ok m =>
       rw [es] at h;obtain ⟨s1,s2⟩:=d6 es
       rw [ay] at s1;injection h with h;injection h with h1 h2;subst h1 h2;have hl:m.length=z:=by rw [s2,aH,ay];omega
       refine ⟨?_,by rw [aj];omega,rfl,d1 rfl⟩
       show 3::(vary m.length++m)=_
       rw [hl,gf ev,bg,eQ,dQ,←s2,←ke hk];rfl
    ·rw [hk] at h;simp only [gK] at h;cases ev:varyOf (p+1) r with
     | error e=>rw [ev] at h;cases h
     | ok x =>
      obtain ⟨z,l⟩:=x
      rw [ev] at h;have vu:=Vm.vary_used ev
      simp only [bind,Except.bind] at h;cases es:someOf (p+1+l) z (r.drop l) with
      | error e=>rw [es] at h;cases h
      | ok m =>
       rw [es] at h;simp only at h;obtain ⟨s1,s2⟩:=d6 es
       rw [ay] at s1;cases et:textOf (p+1+l) m with
       | error e=>rw [et] at h;cases h
       | ok t =>
        rw [et] at h;injection h with h;injection h with h1 h2;subst h1 h2;have hl:m.length=z:=by rw [s2,aH,ay];omega
        obtain ⟨t1,t2⟩:=pC et
        refine ⟨?_,by rw [aj];omega,t2,d1 rfl⟩
        show 4::(vary (utf8 t).length++utf8 t)=_
        rw [t1,hl,gf ev,bg,eQ,dQ,←s2,←ke hk];rfl
    ·rw [hk] at h;simp only [gK] at h;cases ev:varyOf (p+1) r with
     | error e=>rw [ev] at h;cases h
     | ok x =>
      obtain ⟨z,l⟩:=x
      rw [ev] at h;have vu:=Vm.vary_used ev
      simp only [bind,Except.bind] at h;cases er:rowAt f lv false z none (p+1+l) (r.drop l) with
      | error e=>rw [er] at h;cases h
      | ok y =>
       obtain ⟨m,u⟩:=y
       rw [er] at h;injection h with h;injection h with h1 h2;subst h1 h2;obtain ⟨e1,e2,e3,e4,e5,e6,e7⟩:=pJ f lv false z none _ _ er
       rw [ay] at e2;refine ⟨?_,by rw [aj];omega,?_,by have:=e5 hd';show m.deep+1+lv≤65;omega⟩
       ·show 5::(vary m.length++m.enc false)=_
        rw [e3,e1,gf ev,bg,eQ,dQ,←ke hk];rfl
       ·show (m.plain&&m.names.all _)=true
        rw [e4,e6 rfl];rfl
    ·rw [hk] at h;simp only [gK] at h;cases ev:varyOf (p+1) r with
     | error e=>rw [ev] at h;cases h
     | ok x =>
      obtain ⟨z,l⟩:=x
      rw [ev] at h;have vu:=Vm.vary_used ev
      simp only [bind,Except.bind] at h;cases er:rowAt f lv true z none (p+1+l) (r.drop l) with
      | error e=>rw [er] at h;cases h
      | ok y =>
       obtain ⟨m,u⟩:=y
       rw [er] at h;injection h with h;injection h with h1 h2;subst h1 h2;obtain ⟨e1,e2,e3,e4,e5,e6,e7⟩:=pJ f lv true z none _ _ er
       rw [ay] at e2;refine ⟨?_,by rw [aj];omega,?_,by have:=e5 hd';show m.deep+1+lv≤65;omega⟩
       ·show 6::(vary m.length++m.enc true)=_
        rw [e3,e1,gf ev,bg,eQ,dQ,←ke hk];rfl
       ·show (m.plain&&(m.names.all _&&rising m.names))=true
        rw [e4,(e7 rfl).1,show rising m.names=true from (e7 rfl).2];rfl
    ·rw [hk] at h;simp only [gK] at h;cases es:someOf (p+1) 8 r with
     | error e=>rw [es] at h;cases h
     | ok m =>
      rw [es] at h;obtain ⟨s1,s2⟩:=d6 es
      injection h with h;injection h with h1 h2;subst h1 h2;have ml:m.length=8:=by rw [s2,aH];omega
      have lt:=oF m
      rw [ml] at lt;have lt:ofLe m<18446744073709551616:=lt
      have e1:(signed64 (ofLe m) % ((2 ^ 64:Nat):Int)).toNat=ofLe m:=by
       show (signed64 (ofLe m) % 18446744073709551616).toNat=ofLe m
       unfold signed64;by_cases q:ofLe m<2 ^ 63
       ·rw [if_pos q];omega
       ·rw [if_neg q];show (((ofLe m:Int) - 18446744073709551616) % 18446744073709551616).toNat=ofLe m
        omega
      refine ⟨?_,by rw [aj];omega,?_,d1 rfl⟩
      ·show 7::le 8 _=_
       rw [e1,←ml,oM,show (9:Nat)=1+8 from rfl,eQ,←s2,←ke hk];rfl
      ·show (decide _&&decide _)=true
       unfold signed64;have p63:(2 ^ 63:Nat)=9223372036854775808:=rfl
       have p64:(2 ^ 64:Nat)=18446744073709551616:=rfl
       by_cases q:ofLe m<2 ^ 63
       ·rw [if_pos q,ag (by omega),ag (by omega)]
        rfl
       ·rw [if_neg q,ag (by omega),ag (by omega)]
        rfl
    ·rw [hk] at h;simp only [gK] at h;cases es:someOf (p+1) 32 r with
     | error e=>rw [es] at h;cases h
     | ok m =>
      rw [es] at h;obtain ⟨s1,s2⟩:=d6 es
      injection h with h;injection h with h1 h2;subst h1 h2;have ml:m.length=32:=by rw [s2,aH];omega
      refine ⟨?_,by rw [aj];omega,?_,d1 rfl⟩
      ·show 8::m=_
       rw [show (33:Nat)=1+32 from rfl,eQ,←s2,←ke hk];rfl
      ·show (m.length==32)=true
       rw [ml];rfl
theorem pJ:∀ (f lv:Nat) (named:Bool) (n:Nat) (prev:Option Bytes) (p:Nat) (b:Bytes) {m:Row} {u:Nat},rowAt f lv named n prev p b = .ok (m,u)→RG lv named n prev b m u
 | 0,lv,named,n,prev,p,b,m,u,h=>by unfold rowAt at h;cases h
 | f+1,lv,named,0,prev,p,b,m,u,h=>by
  unfold rowAt at h;cases h;refine ⟨by rw [dF];rfl,aW _,rfl,rfl,fun z=>by show 0+lv≤64;omega,fun _=>rfl,fun _=>⟨rfl,?_⟩⟩
  cases prev<;>rfl
 | f+1,lv,named,n+1,prev,p,b,m,u,h=>by
  rw [uB] at h;cases en:nmAt named prev p b with
  | error e=>rw [en] at h;cases h
  | ok x =>
   obtain ⟨k,l⟩:=x
   rw [en] at h;simp only at h;obtain ⟨n1,n2,n3,n4,n5⟩:=uL en
   cases ev:valueAt f (lv+1) (p+l+k) (b.drop (l+k)) with
   | error e=>rw [ev] at h;cases h
   | ok y =>
    obtain ⟨v,u1⟩:=y
    rw [ev] at h;simp only at h;obtain ⟨e1,e2,e3,e4⟩:=rq f _ _ _ ev
    rw [ay] at e2;cases er:rowAt f lv named n (some ((b.drop l).take k)) (p+l+k+u1) (b.drop (l+k+u1)) with
    | error e=>rw [er] at h;cases h
    | ok z =>
     obtain ⟨m',u2⟩:=z
     rw [er] at h;injection h with h;injection h with h1 h2;subst h1 h2;obtain ⟨r1,r2,r3,r4,r5,r6,r7⟩:=pJ f lv named n _ _ _ er
     rw [ay] at r2;refine ⟨?_,by omega,by show m'.length+1=n+1;rw [r3],by show (v.plain&&m'.plain)=true;rw [e3,r4];rfl,fun z=>?_,fun z=>?_,fun z=>?_⟩
     ·show (if named=true then vary ((b.drop l).take k).length++(b.drop l).take k else [])++(v.enc++m'.enc named)=_
      rw [n3,e1,r1,bg (l+k),dQ (i:=l+k),dQ (i:=u1),bO]
     ·have:=r5 z
      show max v.deep m'.deep+lv≤64
      omega
     ·show ((b.drop l).take k::m'.names).all _=true
      rw [fM,r6 z,(n5 z).1,dF];rfl
     ·obtain ⟨a1,a2,a3,a4⟩:=n4 z
      obtain ⟨b1,b2⟩:=r7 z
      refine ⟨?_,?_⟩
      ·show ((b.drop l).take k::m'.names).all _=true
       rw [fM,b1,a3];rfl
      ·show l8 prev ((b.drop l).take k::m'.names)=true
       cases prev with
       | none=>exact b2
       | some q =>
        show (bytesBefore q ((b.drop l).take k)&&rising ((b.drop l).take k::m'.names))=true
        rw [a4 q rfl];exact b2
end
def ioff:Value→Nat
 | .num z=>1+(vary (oj z)).length
 | .bytes b=>1+(vary b.length).length
 | .text t=>1+(vary (utf8 t).length).length
 | .list m=>1+(vary m.length).length
 | .rec_ m=>1+(vary m.length).length
 | _=>1
def kC (named:Bool) (n:Bytes):Nat:=if named=true then (vary n.length).length+n.length else 0
def pdOf (v:Value) (p np nl:Nat):PD:=⟨v.kind,p,p+ioff v,p+v.enc.length,Values.countOf v,v.deep,np,nl⟩
mutual
def trV:Value→Nat→Nat→Nat→PT
 | .list m,p,np,nl=>.node (pdOf (.list m) p np nl) (trR m false (p+ioff (.list m)))
 | .rec_ m,p,np,nl=>.node (pdOf (.rec_ m) p np nl) (trR m true (p+ioff (.rec_ m)))
 | .no,p,np,nl=>.node (pdOf .no p np nl) []
 | .yes,p,np,nl=>.node (pdOf .yes p np nl) []
 | .num z,p,np,nl=>.node (pdOf (.num z) p np nl) []
 | .bytes b,p,np,nl=>.node (pdOf (.bytes b) p np nl) []
 | .text t,p,np,nl=>.node (pdOf (.text t) p np nl) []
 | .moment z,p,np,nl=>.node (pdOf (.moment z) p np nl) []
 | .id b,p,np,nl=>.node (pdOf (.id b) p np nl) []
def trR:Row→Bool→Nat→List PT
 | .nil,_,_=>[]
 | .cons n v r,named,p=>trV v (p+kC named n) (if named=true then p+(vary n.length).length else 0) n.length::trR r named (p+kC named n+v.enc.length)
end
def trM:Value→Nat→List PT
 | .list m,p=>trR m false (p+ioff (.list m))
 | .rec_ m,p=>trR m true (p+ioff (.rec_ m))
 | _,_=>[]
theorem trV_eq (v:Value) (p np nl:Nat):trV v p np nl = .node (pdOf v p np nl) (trM v p):=by
 cases v<;>(unfold trV;rfl)
theorem jy (n:Bytes) (v:Value) (r:Row) (named:Bool) (p:Nat):trR (.cons n v r) named p=trV v (p+kC named n) (if named=true then p+(vary n.length).length else 0) n.length::trR r named (p+kC named n+v.enc.length):=by
 rw [trR]
theorem oi (named:Bool) (p:Nat):trR .nil named p=[]:=by
 rw [trR]
theorem xg (v:Value) (p np nl np' nl':Nat):(trV v p np nl).nm np' nl'=trV v p np' nl':=by
 rw [trV_eq,trV_eq];rfl
mutual
theorem wK:∀ (f lv p:Nat) (b:Bytes),match valueAt f lv p b with
  | .error e=>vAt f lv p b = .error e
  | .ok (v,n)=>vAt f lv p b = .ok (trV v p 0 0,n)
 | 0,lv,p,b=>by
  unfold valueAt vAt;rfl
 | f+1,lv,p,[]=>by
  unfold valueAt vAt headAt;rfl
 | f+1,lv,p,k::r=>by
  have hve:=@rq (f+1) lv p (k::r)
  revert hve
  unfold valueAt vAt headAt;simp only;by_cases h8:8<k.toNat
  ·rw [if_pos h8,if_pos h8];intro _;rfl
  ·rw [if_neg h8,if_neg h8];by_cases hd:DEEP<lv
   ·rw [if_pos hd,if_pos hd];intro _;rfl
   ·rw [if_neg hd,if_neg hd];have hk:k.toNat=0∨k.toNat=1∨k.toNat=2∨k.toNat=3∨k.toNat=4∨k.toNat=5∨k.toNat=6∨k.toNat=7∨k.toNat=8:=by omega
    rcases hk with hk | hk | hk | hk | hk | hk | hk | hk | hk
    ·simp only [hk];intro _;rfl
    ·simp only [hk];intro _;rfl
    ·simp only [hk];unfold numAt;cases ev:varyOf (p+1) r with
     | error e=>intro _;rfl
     | ok x =>
      obtain ⟨z,l⟩:=x
      simp only [bind,Except.bind];by_cases hz:NUMBER<z / 2
      ·rw [if_pos hz,if_pos hz];intro _;rfl
      ·rw [if_neg hz,if_neg hz];cases es:someOf (p+1+l) (z / 2) (r.drop l) with
       | error e=>intro _;rfl
       | ok m =>
        simp only;obtain ⟨s1,s2⟩:=d6 es
        by_cases hm:m.getLast? = some 0∨z=1
        ·rw [if_pos hm,if_pos hm];intro _;rfl
        ·rw [if_neg hm,if_neg hm];intro hve;obtain ⟨v1,v2,_⟩:=hve rfl
         have ml:m.length=z / 2:=by rw [s2,aH];omega
         obtain ⟨t1,t2,t3⟩:=pS ml hm
         have el:=congrArg List.length v1
         rw [aH,bZ v2] at el;have hpd:pdOf (.num (if z % 2=1 then -(ofLe m:Int) else (ofLe m:Int))) p 0 0=⟨2,p,p+(1+l),p+(1+l+z / 2),0,1,0,0⟩:=by
          show (⟨2,p,p+(1+(vary (oj _)).length),p+(Value.enc _).length,0,1,0,0⟩:PD)=_
          rw [t1,eU ev,el]
         simp only;rw [trV_eq,hpd];rfl
    ·simp only [hk];unfold strAt;cases ev:varyOf (p+1) r with
     | error e=>intro _;rfl
     | ok x =>
      obtain ⟨z,l⟩:=x
      simp only [bind,Except.bind];cases es:someOf (p+1+l) z (r.drop l) with
      | error e=>intro _;rfl
      | ok m =>
       obtain ⟨s1,s2⟩:=d6 es
       intro hve;obtain ⟨v1,v2,_⟩:=hve rfl
       have el:=congrArg List.length v1
       rw [aH,bZ v2] at el;have ml:m.length=z:=by rw [s2,aH];omega
       have hpd:pdOf (.bytes m) p 0 0=⟨3,p,p+(1+l),p+(1+l+z),z,1,0,0⟩:=by
        show (⟨3,p,p+(1+(vary m.length).length),p+(Value.enc _).length,m.length,1,0,0⟩:PD)=_
        rw [el,ml,eU ev]
       simp only;rw [trV_eq,hpd];rfl
    ·simp only [hk];unfold strAt;cases ev:varyOf (p+1) r with
     | error e=>intro _;rfl
     | ok x =>
      obtain ⟨z,l⟩:=x
      simp only [bind,Except.bind];cases es:someOf (p+1+l) z (r.drop l) with
      | error e=>intro _;rfl
      | ok m =>
       obtain ⟨s1,s2⟩:=d6 es
       simp only;cases et:textOf (p+1+l) m with
       | error e=>simp only [et];intro _;rfl
       | ok t =>
        obtain ⟨t1,_⟩:=pC et
        simp only [et];intro hve;obtain ⟨v1,v2,_⟩:=hve rfl
        have el:=congrArg List.length v1
        rw [aH,bZ v2] at el;have ml:(utf8 t).length=z:=by rw [t1,s2,aH];omega
        have hpd:pdOf (.text t) p 0 0=⟨4,p,p+(1+l),p+(1+l+z),z,1,0,0⟩:=by
         show (⟨4,p,p+(1+(vary (utf8 t).length).length),p+(Value.enc _).length,(utf8 t).length,1,0,0⟩:PD)=_
         rw [el,ml,eU ev]
        rw [trV_eq,hpd];rfl
    ·simp only [hk];cases ev:varyOf (p+1) r with
     | error e=>intro _;rfl
     | ok x =>
      obtain ⟨z,l⟩:=x
      simp only [bind,Except.bind];have ih:=uG f lv false z none (p+1+l) (r.drop l)
      have ed:(k::r).drop (1+l)=r.drop l:=by rw [iD 1 l];rfl
      cases er:rowAt f lv false z none (p+1+l) (r.drop l) with
      | error e =>
       rw [er] at ih;have ih:rAt f lv false z none (p+1+l) (r.drop l) = .error e:=ih
       intro _;show (match rAt f lv false z none (p+(1+l)) ((k::r).drop (1+l)) with
        | .error e=>.error e
        | .ok (ms,dp,used)=>.ok (.node ⟨5,p,p+(1+l),p+(1+l)+used,z,dp+1,0,0⟩ ms,1+l+used):Except Fault (PT×Nat))=_
       rw [ed,←bg,ih]
      | ok y =>
       obtain ⟨m,u⟩:=y
       rw [er] at ih;have ih:rAt f lv false z none (p+1+l) (r.drop l) = .ok (trR m false (p+1+l),m.deep,u):=ih
       intro hve;obtain ⟨v1,v2,_⟩:=hve rfl
       have el:=congrArg List.length v1
       rw [aH,bZ v2] at el;obtain ⟨_,_,e3,_⟩:=pJ f lv false z none _ _ er
       show (match rAt f lv false z none (p+(1+l)) ((k::r).drop (1+l)) with
        | .error e=>.error e
        | .ok (ms,dp,used)=>.ok (.node ⟨5,p,p+(1+l),p+(1+l)+used,z,dp+1,0,0⟩ ms,1+l+used):Except Fault (PT×Nat))=_
       have hpd:pdOf (.list m) p 0 0=⟨5,p,p+1+l,p+1+l+u,z,m.deep+1,0,0⟩:=by
        show (⟨5,p,p+(1+(vary m.length).length),p+(Value.enc _).length,m.length,m.deep+1,0,0⟩:PD)=_
        rw [el,e3,eU ev,←bg,←bg,←bg]
       have htm:trM (.list m) p=trR m false (p+1+l):=by
        show trR m false (p+(1+(vary m.length).length))=_
        rw [e3,eU ev,←bg]
       rw [ed,←bg,ih,trV_eq,hpd,htm]
    ·simp only [hk];cases ev:varyOf (p+1) r with
     | error e=>intro _;rfl
     | ok x =>
      obtain ⟨z,l⟩:=x
      simp only [bind,Except.bind];have ih:=uG f lv true z none (p+1+l) (r.drop l)
      have ed:(k::r).drop (1+l)=r.drop l:=by rw [iD 1 l];rfl
      cases er:rowAt f lv true z none (p+1+l) (r.drop l) with
      | error e =>
       rw [er] at ih;have ih:rAt f lv true z none (p+1+l) (r.drop l) = .error e:=ih
       intro _;show (match rAt f lv true z none (p+(1+l)) ((k::r).drop (1+l)) with
        | .error e=>.error e
        | .ok (ms,dp,used)=>.ok (.node ⟨6,p,p+(1+l),p+(1+l)+used,z,dp+1,0,0⟩ ms,1+l+used):Except Fault (PT×Nat))=_
       rw [ed,←bg,ih]
      | ok y =>
       obtain ⟨m,u⟩:=y
       rw [er] at ih;have ih:rAt f lv true z none (p+1+l) (r.drop l) = .ok (trR m true (p+1+l),m.deep,u):=ih
       intro hve;obtain ⟨v1,v2,_⟩:=hve rfl
       have el:=congrArg List.length v1
       rw [aH,bZ v2] at el;obtain ⟨_,_,e3,_⟩:=pJ f lv true z none _ _ er
       show (match rAt f lv true z none (p+(1+l)) ((k::r).drop (1+l)) with
        | .error e=>.error e
        | .ok (ms,dp,used)=>.ok (.node ⟨6,p,p+(1+l),p+(1+l)+used,z,dp+1,0,0⟩ ms,1+l+used):Except Fault (PT×Nat))=_
       have hpd:pdOf (.rec_ m) p 0 0=⟨6,p,p+1+l,p+1+l+u,z,m.deep+1,0,0⟩:=by
        show (⟨6,p,p+(1+(vary m.length).length),p+(Value.enc _).length,m.length,m.deep+1,0,0⟩:PD)=_
        rw [el,e3,eU ev,←bg,←bg,←bg]
       have htm:trM (.rec_ m) p=trR m true (p+1+l):=by
        show trR m true (p+(1+(vary m.length).length))=_
        rw [e3,eU ev,←bg]
       rw [ed,←bg,ih,trV_eq,hpd,htm]
    ·simp only [hk];cases es:someOf (p+1) 8 r with
     | error e=>intro _;rfl
     | ok m =>
      intro hve;obtain ⟨v1,v2,_⟩:=hve rfl
      have el:=congrArg List.length v1
      rw [aH,bZ v2] at el;have hpd:pdOf (.moment (signed64 (ofLe m))) p 0 0=⟨7,p,p+1,p+9,0,1,0,0⟩:=by
       show (⟨7,p,p+1,p+(Value.enc _).length,0,1,0,0⟩:PD)=_
       rw [el]
      show _=Except.ok (trV (.moment (signed64 (ofLe m))) p 0 0,9)
      rw [trV_eq,hpd];rfl
    ·simp only [hk];cases es:someOf (p+1) 32 r with
     | error e=>intro _;rfl
     | ok m =>
      intro hve;obtain ⟨v1,v2,_⟩:=hve rfl
      have el:=congrArg List.length v1
      rw [aH,bZ v2] at el;have hpd:pdOf (.id m) p 0 0=⟨8,p,p+1,p+33,0,1,0,0⟩:=by
       show (⟨8,p,p+1,p+(Value.enc _).length,0,1,0,0⟩:PD)=_
       rw [el]
      show _=Except.ok (trV (.id m) p 0 0,33)
      rw [trV_eq,hpd];rfl
theorem uG:∀ (f lv:Nat) (named:Bool) (n:Nat) (prev:Option Bytes) (p:Nat) (b:Bytes),match rowAt f lv named n prev p b with
  | .error e=>rAt f lv named n prev p b = .error e
  | .ok (m,u)=>rAt f lv named n prev p b = .ok (trR m named p,m.deep,u)
 | 0,lv,named,n,prev,p,b=>by
  unfold rowAt rAt;rfl
 | f+1,lv,named,0,prev,p,b=>by
  unfold rowAt rAt;rfl
 | f+1,lv,named,n+1,prev,p,b=>by
  rw [uB];unfold rAt;cases en:nmAt named prev p b with
  | error e=>rfl
  | ok x =>
   obtain ⟨k,l⟩:=x
   simp only;obtain ⟨n1,n2,n3,n4,n5⟩:=uL en
   have ih:=wK f (lv+1) (p+l+k) (b.drop (l+k))
   cases ev:valueAt f (lv+1) (p+l+k) (b.drop (l+k)) with
   | error e =>
    rw [ev] at ih;have ih:vAt f (lv+1) (p+l+k) (b.drop (l+k)) = .error e:=ih
    simp only [ih]
   | ok y =>
    obtain ⟨v,u⟩:=y
    rw [ev] at ih;have ih:vAt f (lv+1) (p+l+k) (b.drop (l+k)) = .ok (trV v (p+l+k) 0 0,u):=ih
    simp only [ih];obtain ⟨e1,e2,_⟩:=rq f _ _ _ ev
    have el:=congrArg List.length e1
    rw [aH,bZ e2] at el;have ih2:=uG f lv named n (some ((b.drop l).take k)) (p+l+k+u) (b.drop (l+k+u))
    cases er:rowAt f lv named n (some ((b.drop l).take k)) (p+l+k+u) (b.drop (l+k+u)) with
    | error e =>
     rw [er] at ih2;have ih2:rAt f lv named n (some ((b.drop l).take k)) (p+l+k+u) (b.drop (l+k+u)) = .error e:=ih2
     simp only [ih2]
    | ok z =>
     obtain ⟨m,u2⟩:=z
     rw [er] at ih2;have ih2:rAt f lv named n (some ((b.drop l).take k)) (p+l+k+u) (b.drop (l+k+u)) = .ok (trR m named (p+l+k+u),m.deep,u2):=ih2
     simp only [ih2];have hd:(trV v (p+l+k) 0 0).d.depth=v.deep:=by rw [trV_eq];rfl
     have no:kC named ((b.drop l).take k)=l+k:=by
      unfold kC;cases named with
      | true=>rw [if_pos rfl,n1,←(n4 rfl).1]
      | false =>
       obtain ⟨q1,q2⟩:=n5 rfl
       rw [if_neg aI,q1,q2]
     have np:(if named=true then p+l else 0)=(if named=true then p+(vary k).length else 0):=by
      cases named with
      | true=>rw [if_pos rfl,if_pos rfl,(n4 rfl).1]
      | false=>rfl
     rw [xg,hd,jy,n1,el,no,np,←bg p l k];rfl
end
def isRec (d:PD):Bool:=decide (d.kind=6)
def need (d:PD):Nat:=if d.kind=5∨d.kind=6 then d.size else 0
def prevOf (bs:Bytes) (mem:List PT):Option Bytes:=match mem.getLast? with
 | none=>none
 | some m=>some ((bs.drop m.d.np).take m.d.nl)
def fin (bs:Bytes):List (PD×List PT)→PD→List PT→Nat→Except Fault (PT×Nat)
 | [],d,mem,p=>match Rw 1 (isRec d) (need d - mem.length) (prevOf bs mem) p (bs.drop p) with
  | .error e=>.error e
  | .ok (ms,dp,u)=>.ok (.node { d with fin:=p+u,depth:=max d.depth (dp+1) } (mem++ms),p+u)
 | (dh,mh)::rest,d,mem,p=>match Rw (rest.length+2) (isRec d) (need d - mem.length) (prevOf bs mem) p (bs.drop p) with
  | .error e=>.error e
  | .ok (ms,dp,u)=>fin bs rest { dh with depth:=max dh.depth (max d.depth (dp+1)+1) } (mh++[.node { d with fin:=p+u,depth:=max d.depth (dp+1) } (mem++ms)]) (p+u)
def up (bs:Bytes) (rest:List (PD×List PT)) (d:PD) (mem:List PT) (p:Nat):Except Fault (PT×Nat):=match rest with
 | []=>.ok (.node d mem,p)
 | (dh,mh)::r=>fin bs r { dh with depth:=max dh.depth (d.depth+1) } (mh++[.node d mem]) p
theorem mM (bs:Bytes) (rest:List (PD×List PT)) (d:PD) (mem:List PT) (p:Nat):fin bs rest d mem p=match Rw (rest.length+1) (isRec d) (need d - mem.length) (prevOf bs mem) p (bs.drop p) with
  | .error e=>.error e
  | .ok (ms,dp,u)=>up bs rest { d with fin:=p+u,depth:=max d.depth (dp+1) } (mem++ms) (p+u):=by
 cases rest with
 | nil=>rfl
 | cons x r =>
  obtain ⟨dh,mh⟩:=x
  rfl
theorem fin_pop (bs:Bytes) (rest:List (PD×List PT)) (d:PD) (mem:List PT) (p:Nat) (h:need d≤mem.length) (hd:1≤d.depth):fin bs rest d mem p=up bs rest { d with fin:=p } mem p:=by
 rw [mM,show need d - mem.length=0 by omega,oZ]
 have e:max d.depth (0+1)=d.depth:=by omega
 simp only [fk,bC,e]
def memAt (named:Bool) (prev:Option Bytes) (lv p:Nat) (b:Bytes):Except Fault (Nat×Nat×Nat×Nat×Nat×Nat):=match nmAt named prev p b with
 | .error e=>.error e
 | .ok (k,l)=>match headAt lv (p+l+k) (b.drop (l+k)) with
  | .error e=>.error e
  | .ok (kd,n,i,u)=>.ok (k,l,kd,n,i,u)
def newD (named:Bool) (p:Nat) (x:Nat×Nat×Nat×Nat×Nat×Nat):PD:=⟨x.2.2.1,p+x.2.1+x.1,p+x.2.1+x.1+x.2.2.2.2.1,p+x.2.1+x.1,x.2.2.2.1,1,if named=true then p+x.2.1 else 0,x.1⟩
theorem fin_push (bs:Bytes) (rest:List (PD×List PT)) (d:PD) (mem:List PT) (p:Nat) (h:mem.length<need d):fin bs rest d mem p=match memAt (isRec d) (prevOf bs mem) (rest.length+2) p (bs.drop p) with
  | .error e=>.error e
  | .ok x=>fin bs ((d,mem)::rest) (newD (isRec d) p x) [] (p+x.2.1+x.1+x.2.2.2.2.2):=by
 obtain ⟨n,hn⟩:∃ n,need d - mem.length=n+1:=⟨need d - mem.length - 1,by omega⟩
 rw [mM,hn,wF];unfold memAt;cases en:nmAt (isRec d) (prevOf bs mem) p (bs.drop p) with
 | error e=>rfl
 | ok x =>
  obtain ⟨k,l⟩:=x
  dsimp only;rw [wV];cases eh:headAt (rest.length+1+1) (p+l+k) ((bs.drop p).drop (l+k)) with
  | error e=>rfl
  | ok y =>
   obtain ⟨kd,sz,io,u⟩:=y
   dsimp only;have hd2:(bs.drop p).drop (l+k)=bs.drop (p+l+k):=by rw [bO,bg]
   have hd3:∀ z,(bs.drop p).drop (l+k+z)=bs.drop (p+l+k+z):=fun z=>by
    rw [bO];congr 1
    omega
   have hprev:∀ c:PT,c.d.np=(if isRec d=true then p+l else 0)→c.d.nl=k→prevOf bs (mem++[c])=some (((bs.drop p).drop l).take k):=fun c h1 h2=>by
    unfold prevOf;rw [List.getLast?_append];simp only [List.getLast?_singleton,Option.some_or];rw [h1,h2];cases hr:isRec d with
    | true=>rw [if_pos rfl,bO]
    | false =>
     unfold nmAt at en;rw [hr,if_neg aI] at en;injection en with en;injection en with en1 en2;rw [←en1];simp
   have upeq:∀ (c:PD) (cm:List PT) (used:Nat),c.np=(if isRec d=true then p+l else 0)→c.nl=k→1≤c.depth →
     (match (match Rw (rest.length+1) (isRec d) n (some (((bs.drop p).drop l).take k)) (p+l+k+used) ((bs.drop p).drop (l+k+used)) with
      | .error e=>.error e
      | .ok (ms,dp,u2)=>.ok (.node c cm::ms,max c.depth dp,l+k+used+u2):Except Fault (List PT×Nat×Nat)) with
     | .error e=>.error e
     | .ok (ms,dp,u)=>up bs rest { d with fin:=p+u,depth:=max d.depth (dp+1) } (mem++ms) (p+u))=up bs ((d,mem)::rest) c cm (p+l+k+used):=fun c cm used h1 h2 h3=>by
    show _=fin bs rest { d with depth:=max d.depth (c.depth+1) } (mem++[.node c cm]) (p+l+k+used)
    rw [mM,hd3,hprev (.node c cm) h1 h2];have e1:need { d with depth:=max d.depth (c.depth+1) } - (mem++[PT.node c cm]).length=n:=by
     rw [aa,aP];show need d - (mem.length+1)=n
     omega
    have e2:isRec { d with depth:=max d.depth (c.depth+1) }=isRec d:=rfl
    rw [e1,e2];cases er:Rw (rest.length+1) (isRec d) n (some (((bs.drop p).drop l).take k)) (p+l+k+used) (bs.drop (p+l+k+used)) with
    | error e=>rfl
    | ok z =>
     obtain ⟨ms,dp,u2⟩:=z
     dsimp only;have a1:p+(l+k+used+u2)=p+l+k+used+u2:=by omega
     have a2:max d.depth (max c.depth dp+1)=max (max d.depth (c.depth+1)) (dp+1):=by omega
     have a3:mem++PT.node c cm::ms=mem++[PT.node c cm]++ms:=by simp
     rw [a1,a2,a3]
   rw [mM];have e1:need (newD (isRec d) p (k,l,kd,sz,io,u)) - ([]:List PT).length=if kd=5∨kd=6 then sz else 0:=rfl
   have e2:isRec (newD (isRec d) p (k,l,kd,sz,io,u))=decide (kd=6):=rfl
   have e3:((d,mem)::rest).length+1=rest.length+2:=rfl
   have e4:prevOf bs []=none:=rfl
   rw [e1,e2,e3,e4];by_cases hk:kd=5∨kd=6
   ·rw [if_pos hk,if_pos hk,hd2,bO];cases er:Rw (rest.length+2) (decide (kd=6)) sz none (p+l+k+u) (bs.drop (p+l+k+u)) with
    | error e=>rfl
    | ok z =>
     obtain ⟨ms,dp,used⟩:=z
     dsimp only;refine (upeq { (⟨kd,p+l+k,p+l+k+io,p+l+k+u+used,sz,dp+1,0,0⟩:PD) with np:=if isRec d=true then p+l else 0,nl:=k } ms (u+used) rfl rfl (by show 1≤dp+1;omega)).trans ?_
     have a1:p+l+k+(u+used)=p+l+k+u+used:=by omega
     have a2:dp+1=max 1 (dp+1):=by omega
     show up bs ((d,mem)::rest) ⟨kd,p+l+k,p+l+k+io,p+l+k+u+used,sz,dp+1,if isRec d=true then p+l else 0,k⟩ ms (p+l+k+(u+used)) =
      up bs ((d,mem)::rest) ⟨kd,p+l+k,p+l+k+io,p+l+k+u+used,sz,max 1 (dp+1),if isRec d=true then p+l else 0,k⟩ ([]++ms) (p+l+k+u+used)
     rw [←a2,a1];rfl
   ·rw [if_neg hk,if_neg hk,oZ];dsimp only;exact upeq { (⟨kd,p+l+k,p+l+k+io,p+l+k+u,sz,1,0,0⟩:PD) with np:=if isRec d=true then p+l else 0,nl:=k } [] u rfl rfl (aK 1)
def wholeAt (bs:Bytes):Except Fault PT:=match headAt 1 0 bs with
 | .error e=>.error e
 | .ok (k,n,i,u)=>match fin bs [] ⟨k,0,i,0,n,1,0,0⟩ [] u with
  | .error e=>.error e
  | .ok (t,p)=>if p<bs.length then .error ⟨8,p⟩ else .ok t
theorem ua (bs:Bytes):wholeAt bs=match Vw 1 0 bs with
  | .error e=>.error e
  | .ok (t,n)=>if n<bs.length then .error ⟨8,n⟩ else .ok t:=by
 unfold wholeAt;rw [wV];cases eh:headAt 1 0 bs with
 | error e=>rfl
 | ok x =>
  obtain ⟨k,n,i,u⟩:=x
  dsimp only;rw [mM];have e1:need (⟨k,0,i,0,n,1,0,0⟩:PD) - ([]:List PT).length=if k=5∨k=6 then n else 0:=rfl
  have e2:isRec (⟨k,0,i,0,n,1,0,0⟩:PD)=decide (k=6):=rfl
  have e4:prevOf bs []=none:=rfl
  rw [e1,e2,e4];by_cases hk:k=5∨k=6
  ·rw [if_pos hk,if_pos hk];simp only [f9,c9];cases er:Rw 1 (decide (k=6)) n none u (bs.drop u) with
   | error e=>rfl
   | ok z =>
    obtain ⟨ms,dp,used⟩:=z
    have a2:max 1 (dp+1)=dp+1:=by omega
    simp only [up,a2,eO]
  ·rw [if_neg hk,if_neg hk,oZ];simp only [up,f9,fk,bC,Nat.max_self]
theorem whole_rel (bs:Bytes):match decode bs with
  | .error e=>wholeAt bs = .error e
  | .ok v=>wholeAt bs = .ok (trV v 0 0 0)∧v.enc=bs∧v.plain=true∧v.deep≤64:=by
 have h:=wK (2*bs.length+4) 1 0 bs
 have hf:=lS (2*bs.length+4) (2*bs.length+1) 1 0 bs (by omega) (by omega)
 rw [hf] at h;rw [ua];unfold Vw decode;cases ev:valueAt (2*bs.length+4) 1 0 bs with
 | error e =>
  rw [ev] at h;have h:vAt (2*bs.length+1) 1 0 bs = .error e:=h
  rw [h]
 | ok x =>
  obtain ⟨v,n⟩:=x
  rw [ev] at h;have h:vAt (2*bs.length+1) 1 0 bs = .ok (trV v 0 0 0,n):=h
  obtain ⟨g1,g2,g3,g4⟩:=rq _ _ _ _ ev
  rw [h];dsimp only;by_cases hn:n<bs.length
  ·rw [if_pos hn,if_pos hn]
  ·rw [if_neg hn,if_neg hn];refine ⟨rfl,?_,g3,by omega⟩
   rw [g1,bT (by omega)]
theorem rC:∀ (m:Row) (named:Bool) (p i:Nat),(trR m named p)[i]? = (m.get? i).map fun (x:Bytes×Value)=>trV x.2 (p+m.before named i) (if named=true then p+m.before named i - x.1.length else 0) x.1.length
 | .nil,named,p,i=>by
  rw [oi];rfl
 | .cons n v r,named,p,0=>by
  rw [jy];show some (trV v (p+kC named n) (if named=true then p+(vary n.length).length else 0) n.length)=some (trV v (p+kC named n) (if named=true then p+kC named n - n.length else 0) n.length)
  congr 2
  cases named with
  | false=>rfl
  | true =>
   unfold kC;rw [if_pos rfl,if_pos rfl,if_pos rfl];omega
 | .cons n v r,named,p,i+1=>by
  rw [jy];show (trR r named (p+kC named n+v.enc.length))[i]? = (r.get? i).map _
  rw [rC r named _ i];have e:∀ z:Nat,p+kC named n+v.enc.length+z=p+(kC named n+v.enc.length+z):=fun z=>by omega
  rw [e];rfl
theorem rB:∀ (m:Row) (named:Bool) (p:Nat),(trR m named p).length=m.length
 | .nil,named,p=>by rw [oi];rfl
 | .cons n v r,named,p=>by
  rw [jy,aj,rB r];rfl
def rowOf:Value→Row
 | .list m=>m
 | .rec_ m=>m
 | _=>.nil
def namedOf:Value→Bool
 | .rec_ _=>true
 | _=>false
theorem ug (v:Value) (p:Nat):trM v p=trR (rowOf v) (namedOf v) (p+ioff v):=by
 cases v<;>first | rfl | (show []=trR .nil _ _;rw [oi])
theorem member_eq (v:Value) (i:Nat):v.member i=(rowOf v).get? i:=by
 cases v<;>rfl
def mplace (v:Value) (p i:Nat):Nat:=p+ioff v+(rowOf v).before (namedOf v) i
theorem trM_get (v:Value) (p i:Nat):(trM v p)[i]? = (v.member i).map fun (x:Bytes×Value)=>trV x.2 (mplace v p i) (if namedOf v=true then mplace v p i - x.1.length else 0) x.1.length:=by
 rw [ug,rC,member_eq];rfl
theorem trM_len (v:Value) (p:Nat):(trM v p).length=(rowOf v).length:=by
 rw [ug,rB]
theorem mJ:∀ (m:Row) (i:Nat),m.get? i=none↔m.length≤i
 | .nil,i=>⟨fun _=>aW i,fun _=>rfl⟩
 | .cons n v r,0=>⟨(fun h=>by cases h),fun h=>absurd h (by show ¬r.length+1≤0;omega)⟩
 | .cons n v r,i+1=>by
  have ih:=mJ r i
  constructor
  ·intro h;have:=ih.mp h
   show r.length+1≤i+1
   omega
  ·intro h;have h:r.length+1≤i+1:=h
   exact ih.mpr (by omega)
theorem kE:∀ (m:Row) (i:Nat) {n:Bytes} {v:Value},m.get? i=some (n,v)→n∈m.names
 | .nil,i,n,v,h=>by cases h
 | .cons n0 v0 r,0,n,v,h=>by
  have h:some (n0,v0)=some (n,v):=h
  injection h with h;injection h with h1 h2;subst h1;exact aR
 | .cons n0 v0 r,i+1,n,v,h=>ax _ (kE r i h)
theorem name_of {v:Value} (hp:v.plain=true) {i:Nat} {n:Bytes} {w:Value} (h:v.member i=some (n,w)):(namedOf v=false→n=[])∧(namedOf v=true→n≠[]):=by
 cases v with
 | list m =>
  refine ⟨fun _=>?_,fun z=>Bool.noConfusion z⟩
  have hp:(m.plain&&m.names.all fun (n:Bytes)=>n==[])=true:=hp
  rw [aC] at hp;have:=df.mp hp.2 n (kE m i h)
  simpa using this
 | rec_ m =>
  refine ⟨fun z=>Bool.noConfusion z,fun _=>?_⟩
  have hp:(m.plain&&(m.names.all nameOk&&rising m.names))=true:=hp
  rw [aC,aC] at hp;have:=df.mp hp.2.1 n (kE m i h)
  intro z;rw [z] at this;simp [nameOk] at this
 | _=>cases h
def At (bs:Bytes) (p:Nat) (v:Value):Prop:=v.enc <+: bs.drop p
theorem fX (v:Value):1≤v.enc.length:=by
 cases v<;>(unfold Value.enc;simp)
theorem At.le {bs:Bytes} {p:Nat} {v:Value} (h:At bs p v):p+v.enc.length≤bs.length:=by
 have h1:=List.IsPrefix.length_le h
 rw [ay] at h1;have:=fX v
 omega
theorem At.take {bs:Bytes} {p:Nat} {v:Value} (h:At bs p v):(bs.drop p).take v.enc.length=v.enc:=(List.prefix_iff_eq_take.mp h).symm
def inner:Value→Bytes
 | .no=>[]
 | .yes=>[]
 | .num z=>le (amountLength z.natAbs) z.natAbs
 | .bytes b=>b
 | .text t=>utf8 t
 | .list m=>m.enc false
 | .rec_ m=>m.enc true
 | .moment z=>le 8 (z % ((2 ^ 64:Nat):Int)).toNat
 | .id b=>b
def rp:Value→Bytes
 | .no=>[0]
 | .yes=>[1]
 | .num z=>2::vary (oj z)
 | .bytes b=>3::vary b.length
 | .text t=>4::vary (utf8 t).length
 | .list m=>5::vary m.length
 | .rec_ m=>6::vary m.length
 | .moment _=>[7]
 | .id _=>[8]
theorem kJ (v:Value):v.enc=rp v++inner v:=by
 cases v<;>(unfold Value.enc;rfl)
theorem p4 (v:Value):(rp v).length=ioff v:=by
 cases v<;>(unfold rp ioff;simp [iD])
theorem At.inner {bs:Bytes} {p:Nat} {v:Value} (h:At bs p v):(bs.drop (p+ioff v)).take (p+v.enc.length - (p+ioff v))=Pm.inner v∧ioff v≤v.enc.length:=by
 obtain ⟨r,hr⟩:=h
 have hs:=kJ v
 have hl:=p4 v
 have hlen:v.enc.length=ioff v+(Pm.inner v).length:=by rw [hs,aa,hl]
 refine ⟨?_,by omega⟩
 rw [←bO,←hr,hs,aO,←hl,dG,←hs,show p+v.enc.length - (p+(rp v).length)=(Pm.inner v).length by omega,gw]
theorem sj:∀ (m:Row) (named:Bool) (i:Nat) {n:Bytes} {w:Value},m.get? i=some (n,w)→∃ pre post,m.enc named=pre++(w.enc++post)∧pre.length=m.before named i∧(named=true→∃ pre',pre=pre'++n)
 | .nil,named,i,n,w,h=>by cases h
 | .cons n0 v r,named,0,n,w,h=>by
  have h:some (n0,v)=some (n,w):=h
  injection h with h;injection h with h1 h2;subst h1 h2;refine ⟨if named=true then vary n0.length++n0 else [],r.enc named,rfl,?_,fun z=>⟨vary n0.length,by rw [if_pos z]⟩⟩
  show _=if named=true then (vary n0.length).length+n0.length else 0
  cases named with
  | true=>rw [if_pos rfl,if_pos rfl,aa]
  | false=>rfl
 | .cons n0 v r,named,i+1,n,w,h=>by
  obtain ⟨pre,post,e1,e2,e3⟩:=sj r named i h
  refine ⟨(if named=true then vary n0.length++n0 else [])++v.enc++pre,post,?_,?_,fun z=>?_⟩
  ·show (if named=true then vary n0.length++n0 else [])++(v.enc++r.enc named)=_
   rw [e1];simp only [aO]
  ·show _=(if named=true then (vary n0.length).length+n0.length else 0)+v.enc.length+r.before named i
   rw [aa,aa,e2];cases named with
   | true=>rw [if_pos rfl,if_pos rfl,aa]
   | false=>rfl
  ·obtain ⟨pre',e⟩:=e3 z
   exact ⟨(if named=true then vary n0.length++n0 else [])++v.enc++pre',by rw [e];simp only [aO]⟩
theorem At.mem {bs:Bytes} {p:Nat} {v:Value} (h:At bs p v) {i:Nat} {n:Bytes} {w:Value} (hm:v.member i=some (n,w)) :
  At bs (mplace v p i) w∧(namedOf v=true→n.length≤mplace v p i∧(bs.drop (mplace v p i - n.length)).take n.length=n):=by
 rw [member_eq] at hm;obtain ⟨pre,post,e1,e2,e3⟩:=sj (rowOf v) (namedOf v) i hm
 have hi:Pm.inner v=(rowOf v).enc (namedOf v):=by
  cases v<;>first | rfl | (cases hm)
 obtain ⟨r,hr⟩:=h
 have hs:=kJ v
 have hl:=p4 v
 have key:bs.drop (p+ioff v)=pre++(w.enc++post)++r:=by
  rw [←bO,←hr,hs,aO,←hl,dG,hi,e1]
 have k2:bs.drop (mplace v p i)=w.enc++(post++r):=by
  unfold mplace;rw [←bO,key,←e2,aO,dG,aO]
 refine ⟨⟨post++r,k2.symm⟩,fun z=>?_⟩
 obtain ⟨pre',e⟩:=e3 z
 have e2':pre'.length+n.length=(rowOf v).before (namedOf v) i:=by rw [←e2,e,aa]
 refine ⟨by unfold mplace;omega,?_⟩
 have k3:mplace v p i - n.length=p+ioff v+pre'.length:=by unfold mplace;omega
 rw [k3,←bO,key,e,aO,aO,dG,gw]
theorem ku:∀ (m:Row) (i:Nat) {n:Bytes} {w:Value},m.plain=true→m.get? i=some (n,w)→w.plain=true
 | .nil,i,n,w,_,h=>by cases h
 | .cons n0 v r,0,n,w,hp,h=>by
  have h:some (n0,v)=some (n,w):=h
  injection h with h;injection h with h1 h2;subst h2;have hp:(v.plain&&r.plain)=true:=hp
  rw [aC] at hp;exact hp.1
 | .cons n0 v r,i+1,n,w,hp,h=>by
  have hp:(v.plain&&r.plain)=true:=hp
  rw [aC] at hp;exact ku r i hp.2 h
theorem plain_mem {v:Value} (hp:v.plain=true) {i:Nat} {n:Bytes} {w:Value} (h:v.member i=some (n,w)):w.plain=true:=by
 cases v with
 | list m =>
  have hp:(m.plain&&m.names.all fun (n:Bytes)=>n==[])=true:=hp
  rw [aC] at hp;exact ku m i hp.1 h
 | rec_ m =>
  have hp:(m.plain&&(m.names.all nameOk&&rising m.names))=true:=hp
  rw [aC] at hp;exact ku m i hp.1 h
 | _=>cases h
theorem rQ:∀ (k n:Nat),n<256 ^ k→ofLe (le k n)=n
 | 0,n,h=>by
  have:n=0:=by simpa using h
  subst this;rfl
 | k+1,n,h=>by
  rw [le_succ];show (UInt8.ofNat (n % 256)).toNat+256*ofLe (le k (n / 256))=n
  rw [ff] at h;rw [rQ k (n / 256) (by omega),UInt8.toNat_ofNat']
  omega
theorem tZ:∀ n:Nat,n<256 ^ amountLength n:=fun n=>by
 induction n using Nat.strongRecOn with
 | ind n ih =>
  unfold amountLength;by_cases h:n=0
  ·rw [if_pos h,h];decide
  ·rw [if_neg h,ff];have:=ih (n / 256) (by omega)
   omega
theorem num_of (z:Int):ofLe (inner (.num z))=z.natAbs:=rQ _ _ (tZ _)
theorem sJ (n:Nat):∃ c r,vary n=c::r∧c.toNat % 2=n % 2:=by
 unfold vary;by_cases h:n<128
 ·rw [if_pos h];refine ⟨_,_,rfl,?_⟩
  rw [UInt8.toNat_ofNat'];omega
 ·rw [if_neg h];refine ⟨_,_,rfl,?_⟩
  rw [UInt8.toNat_ofNat'];omega
theorem At.sign {bs:Bytes} {p:Nat} {z:Int} (h:At bs p (.num z)):∃ c,bs[p+1]? = some c∧c.toNat % 2=if z<0 then 1 else 0:=by
 obtain ⟨c,r,e1,e2⟩:=sJ (oj z)
 refine ⟨c,?_,?_⟩
 ·obtain ⟨s,hs⟩:=h
  have e:(Value.num z).enc=2::c::(r++Sw.le (amountLength z.natAbs) z.natAbs):=by
   rw [kJ];show 2::vary (oj z)++_=_
   rw [e1];rfl
  have:(bs.drop p)[1]? = some c:=by rw [←hs,e];rfl
  rw [eT] at this;exact this
 ·rw [e2];unfold oj;split<;>omega
theorem fZ:∀ a b:Bytes,bytesBefore a b=false→bytesBefore b a=false→a=b
 | [],[],_,_=>rfl
 | [],_::_,h,_=>by cases h
 | _::_,[],_,h=>by cases h
 | c::a,d::b,h1,h2=>by
  have h1:(decide (c.toNat<d.toNat)||(c==d&&bytesBefore a b))=false:=h1
  have h2:(decide (d.toNat<c.toNat)||(d==c&&bytesBefore b a))=false:=h2
  rw [Bool.or_eq_false_iff,decide_eq_false_iff_not] at h1 h2;have e:c=d:=UInt8.toNat_inj.mp (by omega)
  subst e;have g1:=h1.2
  have g2:=h2.2
  rw [beq_self_eq_true,Bool.true_and] at g1 g2;rw [fZ a b g1 g2]
theorem iA:∀ a b:Bytes,bytesBefore a b=true→bytesBefore b a=false
 | [],[],h=>by cases h
 | [],_::_,_=>rfl
 | _::_,[],h=>by cases h
 | c::a,d::b,h=>by
  have h:(decide (c.toNat<d.toNat)||(c==d&&bytesBefore a b))=true:=h
  show (decide (d.toNat<c.toNat)||(d==c&&bytesBefore b a))=false
  rw [dc,bo,aC,beq_iff_eq] at h;rcases h with h | ⟨h,h'⟩
  ·rw [af (by omega),beq_eq_false_iff_ne.mpr (fun z=>by rw [z] at h;omega)]
   rfl
  ·subst h;rw [af (bK _),iA a b h',gA];rfl
mutual
def cntV:Value→Nat
 | .list m=>cntR m
 | .rec_ m=>cntR m
 | .no=>0
 | .yes=>0
 | .num _=>0
 | .bytes _=>0
 | .text _=>0
 | .moment _=>0
 | .id _=>0
def cntR:Row→Nat
 | .nil=>0
 | .cons _ v r=>1+cntV v+cntR r
end
theorem cnt_row (v:Value):cntV v=cntR (rowOf v):=by
 cases v<;>first | rfl | (show cntV _=cntR .nil;unfold cntV cntR;rfl)
theorem cntR_cons (n:Bytes) (v:Value) (r:Row):cntR (.cons n v r)=1+cntV v+cntR r:=by rw [cntR]
theorem cntR_nil:cntR .nil=0:=by rw [cntR]
mutual
theorem cntV_le:∀ v:Value,cntV v+1≤v.enc.length
 | .list m=>by
  have:=oV m false
  have e:(Value.list m).enc=5::(vary m.length++m.enc false):=rfl
  rw [e,aj,aa];unfold cntV;omega
 | .rec_ m=>by
  have:=oV m true
  have e:(Value.rec_ m).enc=6::(vary m.length++m.enc true):=rfl
  rw [e,aj,aa];unfold cntV;omega
 | .no=>by unfold cntV;exact fX _
 | .yes=>by unfold cntV;exact fX _
 | .num z=>by unfold cntV;exact fX _
 | .bytes b=>by unfold cntV;exact fX _
 | .text t=>by unfold cntV;exact fX _
 | .moment z=>by unfold cntV;exact fX _
 | .id b=>by unfold cntV;exact fX _
theorem oV:∀ (m:Row) (named:Bool),cntR m≤(m.enc named).length
 | .nil,named=>by rw [cntR_nil];exact aW _
 | .cons n v r,named=>by
  have h1:=cntV_le v
  have h2:=oV r named
  have e:(Row.cons n v r).enc named=(if named=true then vary n.length++n else [])++(v.enc++r.enc named):=rfl
  rw [e,aa,aa,cntR_cons];omega
end
theorem qI (v:Value) (p i:Nat):mplace v p i=p+mplace v 0 i:=by
 unfold mplace;omega
theorem names_len:∀ m:Row,m.names.length=m.length
 | .nil=>rfl
 | .cons n v r=>by
  show r.names.length+1=r.length+1
  rw [names_len r]
theorem memberOf_lt {v:Value} {s:Sw.Step} {i:Nat} (h:v.memberOf s=some i):i<(rowOf v).length:=by
 cases v<;>cases s<;>first
  | (cases h;done)
  | skip
 case list.index m z =>
  have h:(if 0≤z∧z<(m.length:Int) then some z.toNat else none)=some i:=h
  by_cases q:0≤z∧z<(m.length:Int)
  ·rw [if_pos q] at h;injection h with h;subst h;show z.toNat<m.length
   omega
  ·rw [if_neg q] at h;cases h
 case rec_.name m n =>
  have h:m.names.findIdx? (fun (x:Bytes)=>x==n)=some i:=h
  obtain ⟨h1,_⟩:=List.findIdx?_eq_some_iff_findIdx_eq.mp h
  rw [names_len] at h1;exact h1
theorem member_some {v:Value} {i:Nat} (h:i<(rowOf v).length):∃ x,v.member i=some x:=by
 cases e:v.member i with
 | some x=>exact ⟨x,rfl⟩
 | none =>
  rw [member_eq,mJ] at e;omega
def go (x:Value×Nat) (s:Sw.Step):Option (Value×Nat):=(x.1.memberOf s).bind fun (i:Nat)=>(x.1.member i).map fun (y:Bytes×Value)=>(y.2,mplace x.1 x.2 i)
def trail (x:Value×Nat):List Sw.Step→List (Value×Nat)
 | []=>[x]
 | s::l=>x::(match go x s with
  | none=>[]
  | some y=>trail y l)
theorem jO {x y:Value×Nat} {s:Sw.Step} (h:go x s=some y):∃ i n,x.1.memberOf s=some i∧x.1.member i=some (n,y.1)∧y.2=mplace x.1 x.2 i:=by
 unfold go at h;cases e1:x.1.memberOf s with
 | none=>rw [e1] at h;cases h
 | some i =>
  rw [e1] at h;have h:(x.1.member i).map (fun (y:Bytes×Value)=>(y.2,mplace x.1 x.2 i))=some y:=h
  cases e2:x.1.member i with
  | none=>rw [e2] at h;cases h
  | some z =>
   obtain ⟨n,w⟩:=z
   rw [e2] at h;have h:some (w,mplace x.1 x.2 i)=some y:=h
   injection h with h;subst h;exact ⟨i,n,rfl,e2,rfl⟩
theorem go_none {x:Value×Nat} {s:Sw.Step} (h:go x s=none):x.1.memberOf s=none:=by
 cases e1:x.1.memberOf s with
 | none=>rfl
 | some i =>
  obtain ⟨z,e2⟩:=member_some (memberOf_lt e1)
  unfold go at h;rw [e1] at h;have h:(x.1.member i).map (fun (y:Bytes×Value)=>(y.2,mplace x.1 x.2 i))=none:=h
  rw [e2] at h;cases h
theorem go_of {x:Value×Nat} {s:Sw.Step} {i:Nat} {n:Bytes} {w:Value} (h1:x.1.memberOf s=some i) (h2:x.1.member i=some (n,w)):go x s=some (w,mplace x.1 x.2 i):=by
 unfold go;rw [h1];show (x.1.member i).map _=_
 rw [h2];rfl
theorem go_no {x:Value×Nat} {s:Sw.Step} (h1:x.1.memberOf s=none):go x s=none:=by
 unfold go;rw [h1];rfl
theorem trail_ne (x:Value×Nat) (l:List Sw.Step):trail x l≠[]:=by
 cases l<;>(unfold trail;exact List.cons_ne_nil _ _)
theorem trail_head (x:Value×Nat) (l:List Sw.Step):(trail x l)[0]? = some x:=by
 cases l<;>(unfold trail;rfl)
theorem trail_len:∀ (l:List Sw.Step) (x:Value×Nat),(trail x l).length=(x.1.leads l).length+1
 | [],x=>by unfold trail;rfl
 | s::l,x=>by
  unfold trail Value.leads;cases e:go x s with
  | none =>
   rw [go_none e];rfl
  | some y =>
   obtain ⟨i,n,e1,e2,e3⟩:=jO e
   rw [e1];show (trail y l).length+1=_
   rw [trail_len l y];show _=(match x.1.member i with
    | none=>[]
    | some (_,w)=>i::w.leads l).length+1
   rw [e2];rfl
theorem leads_le:∀ (l:List Sw.Step) (v:Value),(v.leads l).length≤l.length
 | [],v=>by unfold Value.leads;exact aK 0
 | s::l,v=>by
  unfold Value.leads;cases v.memberOf s with
  | none=>exact aW _
  | some i =>
   show (match v.member i with
    | none=>[]
    | some (_,w)=>i::w.leads l).length≤_
   cases v.member i with
   | none=>exact aW _
   | some z =>
    have:=leads_le l z.2
    show (z.2.leads l).length+1≤l.length+1
    omega
theorem trail_snoc:∀ (a:List Sw.Step) (x y:Value×Nat) (s:Sw.Step) (r:List Sw.Step),(trail x a).length=a.length+1→(trail x a).getLast? = some y →
  trail x (a++s::r)=trail x a++(match go y s with
   | none=>[]
   | some z=>trail z r)
 | [],x,y,s,r,_,h2=>by
  have h2:some x=some y:=by unfold trail at h2;exact h2
  injection h2 with h2;subst h2;show trail x (s::r)=trail x []++_
  conv=>lhs;unfold trail
  conv=>rhs;arg 1;unfold trail
  rfl
 | t::a,x,y,s,r,h1,h2=>by
  unfold trail at h1 h2;show trail x (t::(a++s::r))=trail x (t::a)++_
  conv=>lhs;unfold trail
  conv=>rhs;arg 1;unfold trail
  cases e:go x t with
  | none=>rw [e] at h1;simp at h1
  | some z =>
   rw [e] at h1 h2;have h1:(trail z a).length+1=a.length+1+1:=h1
   have h2:(x::trail z a).getLast? = some y:=h2
   rw [List.getLast?_cons] at h2;have h2':(trail z a).getLast? = some y:=by
    cases q:(trail z a).getLast? with
    | none=>exact absurd (a9.mp q) (trail_ne z a)
    | some u =>
     rw [q] at h2;exact h2
   show x::trail z (a++s::r)=x::(trail z a++_)
   rw [trail_snoc a z y s r (by omega) h2']
def stepV:Value→Option Sw.Step
 | .num z=>some (.index z)
 | .text t=>some (.name (utf8 t))
 | _=>none
def rowVals:Row→List Value
 | .nil=>[]
 | .cons _ v r=>v::rowVals r
theorem rowVals_get:∀ (m:Row) (i:Nat),(rowVals m)[i]? = (m.get? i).map fun (x:Bytes×Value)=>x.2
 | .nil,i=>rfl
 | .cons n v r,0=>rfl
 | .cons n v r,i+1=>rowVals_get r i
theorem rowVals_len:∀ (m:Row),(rowVals m).length=m.length
 | .nil=>rfl
 | .cons n v r=>by
  show (rowVals r).length+1=r.length+1
  rw [rowVals_len r]
theorem steps_eq:∀ m:Row,stepsOf m=(rowVals m).mapM stepV
 | .nil=>by unfold stepsOf rowVals;rfl
 | .cons n v r=>by
  unfold rowVals;rw [gy,←steps_eq r];cases v<;>(conv=>lhs;unfold stepsOf)<;>first
   | rfl
   | (unfold stepV;cases stepsOf r<;>rfl)
theorem r9 {n k:Bytes} {v w:Value} (h:some (n,v)=some (k,w)):n=k∧v=w:=by
 injection h with h;injection h with h1 h2;exact ⟨h1,h2⟩
theorem oq:∀ (m:Row) (i:Nat) (x:Value),(m.set i x).length=m.length
 | .nil,i,x=>by unfold Row.set;rfl
 | .cons n v r,0,x=>by unfold Row.set;rfl
 | .cons n v r,i+1,x=>by
  unfold Row.set;show (r.set i x).length+1=r.length+1
  rw [oq r]
theorem kl:∀ (m:Row) (i:Nat) (x:Value),(m.set i x).names=m.names
 | .nil,i,x=>by unfold Row.set;rfl
 | .cons n v r,0,x=>by unfold Row.set;rfl
 | .cons n v r,i+1,x=>by
  unfold Row.set;show n::(r.set i x).names=n::r.names
  rw [kl r]
theorem set_plain:∀ (m:Row) (i:Nat) (x:Value),m.plain=true→x.plain=true→(m.set i x).plain=true
 | .nil,i,x,h,hx=>by unfold Row.set;exact h
 | .cons n v r,0,x,h,hx=>by
  have h:(v.plain&&r.plain)=true:=h
  rw [aC] at h;unfold Row.set;show (x.plain&&r.plain)=true
  rw [hx,h.2];rfl
 | .cons n v r,i+1,x,h,hx=>by
  have h:(v.plain&&r.plain)=true:=h
  rw [aC] at h;unfold Row.set;show (v.plain&&(r.set i x).plain)=true
  rw [h.1,set_plain r i x h.2 hx];rfl
theorem cH (n:Bytes) (v:Value) (r:Row):(Row.cons n v r).deep=max v.deep r.deep:=by
 rw [Row.deep]
theorem mX:Row.nil.deep=0:=by rw [Row.deep]
theorem lY:∀ (m:Row) (i:Nat) (x:Value),(m.set i x).deep≤max m.deep x.deep∧(i<m.length→x.deep≤(m.set i x).deep)
 | .nil,i,x=>by
  unfold Row.set;exact ⟨by omega,fun h=>absurd h (by show ¬i<0;omega)⟩
 | .cons n v r,0,x=>by
  unfold Row.set;rw [cH,cH];exact ⟨by omega,fun _=>by omega⟩
 | .cons n v r,i+1,x=>by
  unfold Row.set;obtain ⟨k1,k2⟩:=lY r i x
  rw [cH,cH];refine ⟨by omega,fun h=>?_⟩
  have h:i+1<r.length+1:=h
  have:=k2 (by omega)
  omega
theorem mK:∀ (m:Row) (i:Nat) {n:Bytes} {w:Value},m.get? i=some (n,w)→w.deep≤m.deep
 | .nil,i,n,w,h=>by cases h
 | .cons n0 v r,0,n,w,h=>by
  obtain ⟨_,rfl⟩:=r9 h
  rw [cH];omega
 | .cons n0 v r,i+1,n,w,h=>by
  have:=mK r i h
  rw [cH];omega
def nmB (named:Bool) (n:Bytes):Bytes:=if named=true then vary n.length++n else []
theorem enc_cons (n:Bytes) (v:Value) (r:Row) (named:Bool):(Row.cons n v r).enc named=nmB named n++(v.enc++r.enc named):=by
 rw [Row.enc];rfl
theorem enc_nil (named:Bool):Row.nil.enc named=[]:=by rw [Row.enc]
theorem rR (named:Bool) (n:Bytes):(nmB named n).length=if named=true then (vary n.length).length+n.length else 0:=by
 cases named with
 | true=>show (vary n.length++n).length=_;rw [aa];rfl
 | false=>rfl
theorem oS:∀ (m:Row) (named:Bool) (i:Nat) {n:Bytes} {w:Value},m.get? i=some (n,w)→∃ pre post,m.enc named=pre++(w.enc++post)∧pre.length=m.before named i∧∀ x,(m.set i x).enc named=pre++(x.enc++post)
 | .nil,named,i,n,w,h=>by cases h
 | .cons n0 v r,named,0,n,w,h=>by
  obtain ⟨rfl,rfl⟩:=r9 h
  refine ⟨nmB named n0,r.enc named,enc_cons ..,?_,fun x=>?_⟩
  ·rw [rR];rfl
  ·unfold Row.set;exact enc_cons ..
 | .cons n0 v r,named,i+1,n,w,h=>by
  obtain ⟨pre,post,e1,e2,e3⟩:=oS r named i h
  refine ⟨nmB named n0++(v.enc++pre),post,?_,?_,fun x=>?_⟩
  ·rw [enc_cons,e1];simp only [aO]
  ·rw [aa,aa,e2,rR];show _=(if named=true then (vary n0.length).length+n0.length else 0)+v.enc.length+r.before named i
   omega
  ·unfold Row.set;rw [enc_cons,e3];simp only [aO]
theorem j6 (m:Row) (i:Nat) (x:Value):(Value.list m).with_ i x = .list (m.set i x):=rfl
theorem lM (m:Row) (i:Nat) (x:Value):(Value.rec_ m).with_ i x = .rec_ (m.set i x):=rfl
theorem gn (m:Row):(Value.list m).enc=5::(vary m.length++m.enc false):=by rw [Value.enc]
theorem iq (m:Row):(Value.rec_ m).enc=6::(vary m.length++m.enc true):=by rw [Value.enc]
theorem gd (m:Row):(Value.list m).deep=m.deep+1:=by rw [Value.deep]
theorem gU (m:Row):(Value.rec_ m).deep=m.deep+1:=by rw [Value.deep]
theorem with_enc {v:Value} {i:Nat} {n:Bytes} {w:Value} (h:v.member i=some (n,w)):∃ pre post,v.enc=pre++(w.enc++post)∧pre.length=mplace v 0 i∧∀ x,(v.with_ i x).enc=pre++(x.enc++post):=by
 cases v with
 | list m =>
  obtain ⟨pre,post,e1,e2,e3⟩:=oS m false i h
  refine ⟨5::(vary m.length++pre),post,?_,?_,fun x=>?_⟩
  ·rw [gn,e1];simp only [cu,aO]
  ·rw [aj,aa,e2];show _=0+(1+(vary m.length).length)+m.before false i
   omega
  ·rw [j6,gn,oq,e3];simp only [cu,aO]
 | rec_ m =>
  obtain ⟨pre,post,e1,e2,e3⟩:=oS m true i h
  refine ⟨6::(vary m.length++pre),post,?_,?_,fun x=>?_⟩
  ·rw [iq,e1];simp only [cu,aO]
  ·rw [aj,aa,e2];show _=0+(1+(vary m.length).length)+m.before true i
   omega
  ·rw [lM,iq,oq,e3];simp only [cu,aO]
 | _=>cases h
theorem with_plain {v:Value} {i:Nat} {x:Value} (h:v.plain=true) (hx:x.plain=true):(v.with_ i x).plain=true:=by
 cases v with
 | list m =>
  have h:(m.plain&&m.names.all fun (n:Bytes)=>n==[])=true:=h
  rw [aC] at h;rw [j6];show ((m.set i x).plain&&(m.set i x).names.all fun (n:Bytes)=>n==[])=true
  rw [kl,set_plain m i x h.1 hx,h.2];rfl
 | rec_ m =>
  have h:(m.plain&&(m.names.all nameOk&&rising m.names))=true:=h
  rw [aC] at h;rw [lM];show ((m.set i x).plain&&((m.set i x).names.all nameOk&&rising (m.set i x).names))=true
  rw [kl,set_plain m i x h.1 hx,h.2];rfl
 | _=>exact h
theorem with_deep {v:Value} {i:Nat} {n:Bytes} {w:Value} (h:v.member i=some (n,w)) (x:Value):(v.with_ i x).deep≤max v.deep (x.deep+1)∧x.deep+1≤(v.with_ i x).deep∧w.deep+1≤v.deep:=by
 have hl:i<(rowOf v).length:=fF fun z=>by
  rw [member_eq,(mJ _ _).mpr z] at h;cases h
 cases v with
 | list m =>
  obtain ⟨k1,k2⟩:=lY m i x
  have k3:=mK m i h
  have k2:=k2 hl
  rw [j6,gd,gd];omega
 | rec_ m =>
  obtain ⟨k1,k2⟩:=lY m i x
  have k3:=mK m i h
  have k2:=k2 hl
  rw [lM,gU,gU];omega
 | _=>cases h
def repl (v:Value):List Sw.Step→Value→Value
 | [],x=>x
 | s::l,x=>match v.memberOf s with
  | none=>v
  | some i=>match v.member i with
   | none=>v
   | some (_,w)=>v.with_ i (repl w l x)
theorem repl_cons {v:Value} {s:Sw.Step} {i:Nat} {n:Bytes} {w:Value} (h1:v.memberOf s=some i) (h2:v.member i=some (n,w)) (l:List Sw.Step) (x:Value):repl v (s::l) x=v.with_ i (repl w l x):=by
 conv=>lhs;unfold repl
 rw [h1];show (match v.member i with
   | none=>v
   | some (_,w)=>v.with_ i (repl w l x))=_
 rw [h2]
theorem trail_cons {x y:Value×Nat} {t:Sw.Step} {a:List Sw.Step} (h1:(trail x (t::a)).length=(t::a).length+1) (h2:(trail x (t::a)).getLast? = some y) :
  ∃ i n w,x.1.memberOf t=some i∧x.1.member i=some (n,w)∧(trail (w,mplace x.1 x.2 i) a).length=a.length+1∧(trail (w,mplace x.1 x.2 i) a).getLast? = some y:=by
 unfold trail at h1 h2;cases e:go x t with
 | none=>rw [e] at h1;simp at h1
 | some z =>
  rw [e] at h1 h2;have h1:(trail z a).length+1=a.length+1+1:=h1
  have h2:(x::trail z a).getLast? = some y:=h2
  rw [List.getLast?_cons] at h2;have h2':(trail z a).getLast? = some y:=by
   cases q:(trail z a).getLast? with
   | none=>exact absurd (a9.mp q) (trail_ne z a)
   | some u =>
    rw [q] at h2;exact h2
  obtain ⟨i,n,e1,e2,e3⟩:=jO e
  have ez:z=(z.1,mplace x.1 x.2 i):=by rw [←e3]
  rw [ez] at h1 h2'
  exact ⟨i,n,z.1,e1,e2,by omega,h2'⟩
theorem repl_enc:∀ (a:List Sw.Step) (v:Value) (p:Nat) (u:Value) (q:Nat),(trail (v,p) a).length=a.length+1→(trail (v,p) a).getLast? = some (u,q) →
  ∃ pre post,v.enc=pre++(u.enc++post)∧p+pre.length=q∧∀ x,(repl v a x).enc=pre++(x.enc++post)
 | [],v,p,u,q,_,h2=>by
  have h2:some (v,p)=some (u,q):=by unfold trail at h2;exact h2
  injection h2 with h2;injection h2 with h2 h3;subst h2 h3;exact ⟨[],[],by simp,by simp,fun x=>by unfold repl;simp⟩
 | t::a,v,p,u,q,h1,h2=>by
  obtain ⟨i,n,w,e1,e2,e3,e4⟩:=trail_cons h1 h2
  have e2:v.member i=some (n,w):=e2
  obtain ⟨pre,post,k1,k2,k3⟩:=repl_enc a w _ u q e3 e4
  obtain ⟨pre',post',j1,j2,j3⟩:=with_enc e2
  refine ⟨pre'++pre,post++post',?_,?_,fun x=>?_⟩
  ·rw [j1,k1];simp only [aO]
  ·have k2:mplace v p i+pre.length=q:=k2
   rw [qI] at k2;rw [aa,j2];omega
  ·rw [repl_cons e1 e2,j3,k3];simp only [aO]
theorem repl_plain:∀ (a:List Sw.Step) (v:Value) (x:Value),v.plain=true→x.plain=true→(repl v a x).plain=true
 | [],v,x,hv,hx=>by unfold repl;exact hx
 | t::a,v,x,hv,hx=>by
  unfold repl;cases e1:v.memberOf t with
  | none=>exact hv
  | some i =>
   show (match v.member i with
    | none=>v
    | some (_,w)=>v.with_ i (repl w a x)).plain=true
   cases e2:v.member i with
   | none=>exact hv
   | some z =>
    obtain ⟨n,w⟩:=z
    exact with_plain hv (repl_plain a w x (plain_mem hv e2) hx)
theorem repl_deep:∀ (a:List Sw.Step) (v:Value) (p:Nat) (u:Value) (q:Nat) (x:Value),(trail (v,p) a).length=a.length+1→(trail (v,p) a).getLast? = some (u,q) →
  (repl v a x).deep≤max v.deep (a.length+x.deep)∧a.length+x.deep≤(repl v a x).deep∧a.length+u.deep≤v.deep
 | [],v,p,u,q,x,_,h2=>by
  have h2:some (v,p)=some (u,q):=by unfold trail at h2;exact h2
  injection h2 with h2;injection h2 with h2 h3;subst h2 h3;unfold repl;simp
  omega
 | t::a,v,p,u,q,x,h1,h2=>by
  obtain ⟨i,n,w,e1,e2,e3,e4⟩:=trail_cons h1 h2
  have e1:v.memberOf t=some i:=e1
  have e2:v.member i=some (n,w):=e2
  obtain ⟨k1,k2,k3⟩:=repl_deep a w _ u q x e3 e4
  obtain ⟨j1,j2,j3⟩:=with_deep e2 (repl w a x)
  rw [repl_cons e1 e2];show _≤max _ (a.length+1+x.deep)∧a.length+1+x.deep≤_∧a.length+1+u.deep≤_
  omega
theorem doneAt_snoc:∀ (a:List Sw.Step) (v:Value) (p:Nat) (u:Value) (q:Nat) (s:Sw.Step) (d:Deed),(trail (v,p) a).length=a.length+1→(trail (v,p) a).getLast? = some (u,q) →
  v.doneAt (a++[s]) d=(u.done s d).map (repl v a)
 | [],v,p,u,q,s,d,_,h2=>by
  have h2:some (v,p)=some (u,q):=by unfold trail at h2;exact h2
  injection h2 with h2;injection h2 with h2 h3;subst h2 h3;show v.doneAt [s] d=_
  unfold Value.doneAt;cases v.done s d with
  | none=>rfl
  | some z=>rfl
 | t::a,v,p,u,q,s,d,h1,h2=>by
  obtain ⟨i,n,w,e1,e2,e3,e4⟩:=trail_cons h1 h2
  have ih:=doneAt_snoc a w _ u q s d e3 e4
  obtain ⟨b,l,hb⟩:∃ b l,a++[s]=b::l:=by cases a<;>exact ⟨_,_,rfl⟩
  show v.doneAt (t::(a++[s])) d=_
  rw [hb] at ih ⊢;have:v.doneAt (t::b::l) d=(v.memberOf t).bind fun (i:Nat)=>(v.member i).bind fun (x:Bytes×Value)=>(x.2.doneAt (b::l) d).map (v.with_ i):=by
   conv=>lhs;unfold Value.doneAt
  rw [this,e1];show (v.member i).bind _=_
  rw [e2];show (w.doneAt (b::l) d).map (v.with_ i)=_
  rw [ih];cases u.done s d with
  | none=>rfl
  | some z =>
   show some (v.with_ i (repl w a z))=some (repl v (t::a) z)
   rw [repl_cons e1 e2]
theorem doneAt_no:∀ (a:List Sw.Step) (v:Value) (p:Nat) (s:Sw.Step) (d:Deed),(trail (v,p) a).length≤a.length→v.doneAt (a++[s]) d=none
 | [],v,p,s,d,h=>by
  unfold trail at h;exact absurd h (by simp)
 | t::a,v,p,s,d,h=>by
  obtain ⟨b,l,hb⟩:∃ b l,a++[s]=b::l:=by cases a<;>exact ⟨_,_,rfl⟩
  show v.doneAt (t::(a++[s])) d=_
  have ih:=fun w p'=>doneAt_no a w p' s d
  rw [hb] at ih ⊢;have:v.doneAt (t::b::l) d=(v.memberOf t).bind fun (i:Nat)=>(v.member i).bind fun (x:Bytes×Value)=>(x.2.doneAt (b::l) d).map (v.with_ i):=by
   conv=>lhs;unfold Value.doneAt
  rw [this];unfold trail at h;cases e:go (v,p) t with
  | none =>
   have:=go_none e
   have this:v.memberOf t=none:=this
   rw [this];rfl
  | some z =>
   rw [e] at h;have h:(trail z a).length+1≤a.length+1:=h
   obtain ⟨i,n,e1,e2,e3⟩:=jO e
   have e1:v.memberOf t=some i:=e1
   have e2:v.member i=some (n,z.1):=e2
   rw [e1];show (v.member i).bind _=_
   rw [e2];show (z.1.doneAt (b::l) d).map (v.with_ i)=_
   rw [ih z.1 z.2 (by show (trail z a).length≤_;omega)]
   rfl
def l6:Row→Bool→Nat→Nat
 | _,_,0=>0
 | .nil,_,_+1=>0
 | .cons n v r,named,i+1=>(nmB named n).length+v.enc.length+l6 r named i
def eI:Row→Bool→Nat→Bytes×Bytes
 | m,named,0=>([],m.enc named)
 | .nil,_,_+1=>([],[])
 | .cons n v r,named,i+1=>(nmB named n++(v.enc++(eI r named i).1),(eI r named i).2)
theorem ou:∀ (m:Row) (named:Bool) (i:Nat),m.enc named=(eI m named i).1++(eI m named i).2∧(eI m named i).1.length=l6 m named i
 | m,named,0=>by
  unfold eI l6;cases m<;>simp
 | .nil,named,i+1=>by
  unfold eI l6;rw [enc_nil];exact ⟨rfl,rfl⟩
 | .cons n v r,named,i+1=>by
  obtain ⟨k1,k2⟩:=ou r named i
  unfold eI l6;refine ⟨?_,?_⟩
  ·rw [enc_cons];conv=>lhs;rw [k1]
   simp only [aO]
  ·show (nmB named n++(v.enc++(eI r named i).1)).length=_
   rw [aa,aa,k2];omega
theorem mW:∀ (m:Row) (i:Nat),i<m.length→(m.drop_ i).length+1=m.length
 | .nil,i,h=>absurd h (by show ¬i<0;omega)
 | .cons n v r,0,h=>by unfold Row.drop_;rfl
 | .cons n v r,i+1,h=>by
  have h:i+1<r.length+1:=h
  unfold Row.drop_;show (r.drop_ i).length+1+1=r.length+1
  rw [mW r i (by omega)]
theorem jR:∀ (m:Row) (named:Bool) (i:Nat),i<m.length→(m.drop_ i).enc named=(eI m named i).1++(eI m named (i+1)).2
 | .nil,named,i,h=>absurd h (by show ¬i<0;omega)
 | .cons n v r,named,0,h=>by
  unfold Row.drop_ eI eI;simp
 | .cons n v r,named,i+1,h=>by
  have h:i+1<r.length+1:=h
  have ih:=jR r named i (by omega)
  unfold Row.drop_;rw [enc_cons,ih];conv=>rhs;arg 1;unfold eI
  conv=>rhs;arg 2;unfold eI
  simp only [aO]
theorem jr:∀ (m:Row) (i:Nat),m.plain=true→(m.drop_ i).plain=true
 | .nil,i,h=>by unfold Row.drop_;exact h
 | .cons n v r,0,h=>by
  have h:(v.plain&&r.plain)=true:=h
  rw [aC] at h;unfold Row.drop_;exact h.2
 | .cons n v r,i+1,h=>by
  have h:(v.plain&&r.plain)=true:=h
  rw [aC] at h;unfold Row.drop_;show (v.plain&&(r.drop_ i).plain)=true
  rw [h.1,jr r i h.2];rfl
theorem kK:∀ (m:Row) (i:Nat),(m.drop_ i).deep≤m.deep
 | .nil,i=>by unfold Row.drop_;exact aK _
 | .cons n v r,0=>by
  unfold Row.drop_;rw [cH];omega
 | .cons n v r,i+1=>by
  unfold Row.drop_;have:=kK r i
  rw [cH,cH];omega
theorem js:∀ (m:Row) (i:Nat) (f:Bytes→Bool),m.names.all f=true→(m.drop_ i).names.all f=true
 | .nil,i,f,h=>by unfold Row.drop_;exact h
 | .cons n v r,0,f,h=>by
  have h:(f n&&r.names.all f)=true:=h
  rw [aC] at h;unfold Row.drop_;exact h.2
 | .cons n v r,i+1,f,h=>by
  have h:(f n&&r.names.all f)=true:=h
  rw [aC] at h;unfold Row.drop_;show (f n&&(r.drop_ i).names.all f)=true
  rw [h.1,js r i f h.2];rfl
theorem fY:∀ a b c:Bytes,bytesBefore a b=true→bytesBefore b c=true→bytesBefore a c=true
 | [],[],c,h,_=>by cases h
 | _::_,[],c,h,_=>by cases h
 | [],_::_,[],_,h=>by cases h
 | [],_::_,_::_,_,_=>rfl
 | x::a,y::b,[],_,h=>by cases h
 | x::a,y::b,z::c,h1,h2=>by
  have g1:(decide (x.toNat<y.toNat)||(x==y&&bytesBefore a b))=true:=h1
  have g2:(decide (y.toNat<z.toNat)||(y==z&&bytesBefore b c))=true:=h2
  show (decide (x.toNat<z.toNat)||(x==z&&bytesBefore a c))=true
  rw [dc,bo,aC,beq_iff_eq] at g1 g2 ⊢;rcases g1 with g1 | ⟨e1,g1⟩
  ·rcases g2 with g2 | ⟨e2,g2⟩
   ·exact .inl (by omega)
   ·exact .inl (by rw [←e2];exact g1)
  ·rcases g2 with g2 | ⟨e2,g2⟩
   ·exact .inl (by rw [e1];exact g2)
   ·exact .inr ⟨e1.trans e2,fY a b c g1 g2⟩
theorem ef:∀ (n:Bytes) (l:List Bytes),rising (n::l)=true↔(∀ k∈l,bytesBefore n k=true)∧rising l=true
 | n,[]=>⟨fun _=>⟨fun _ h=>(by cases h),rfl⟩,fun _=>rfl⟩
 | n,k::l=>by
  have e:rising (n::k::l)=(bytesBefore n k&&rising (k::l)):=rfl
  rw [e,aC];have ih:=ef k l
  constructor
  ·rintro ⟨h1,h2⟩
   refine ⟨fun x hx=>?_,h2⟩
   rcases aB.mp hx with rfl | hx
   ·exact h1
   ·exact fY _ _ _ h1 ((ih.mp h2).1 x hx)
  ·rintro ⟨h1,h2⟩
   exact ⟨h1 k aR,h2⟩
theorem p8:∀ (m:Row) (i:Nat) (k:Bytes),k∈(m.drop_ i).names→k∈m.names
 | .nil,i,k,h=>by unfold Row.drop_ at h;exact h
 | .cons n v r,0,k,h=>by
  unfold Row.drop_ at h;exact ax _ h
 | .cons n v r,i+1,k,h=>by
  unfold Row.drop_ at h;have h:k∈n::(r.drop_ i).names:=h
  rcases aB.mp h with rfl | h
  ·exact aR
  ·exact ax _ (p8 r i k h)
theorem lr:∀ (m:Row) (i:Nat),rising m.names=true→rising (m.drop_ i).names=true
 | .nil,i,h=>by unfold Row.drop_;exact h
 | .cons n v r,0,h=>by
  unfold Row.drop_;exact ((ef n r.names).mp h).2
 | .cons n v r,i+1,h=>by
  obtain ⟨h1,h2⟩:=(ef n r.names).mp h
  unfold Row.drop_;exact (ef n (r.drop_ i).names).mpr ⟨fun k hk=>h1 k (p8 r i k hk),lr r i h2⟩
theorem sI:∀ (n k:Nat),n≤k→(vary n).length≤(vary k).length:=fun n=>by
 induction n using Nat.strongRecOn with
 | ind n ih =>
  intro k h;unfold vary;by_cases h1:n<128
  ·rw [if_pos h1];by_cases h2:k<128
   ·rw [if_pos h2];exact aK 1
   ·rw [if_neg h2];show 1≤(vary (k / 128)).length+1
    omega
  ·rw [if_neg h1,if_neg (show ¬k<128 by omega)]
   have:=ih (n / 128) (by omega) (k / 128) (by omega)
   show (vary (n / 128)).length+1≤(vary (k / 128)).length+1
   omega
theorem done_take {u:Value} {s:Sw.Step} {i:Nat} (h:u.memberOf s=some i) (hp:u.plain=true) :
  ∃ u',u.done s .take=some u'∧u'.plain=true∧u'.deep≤u.deep ∧
   u'.enc=UInt8.ofNat u.kind::(vary ((rowOf u).length - 1)++((eI (rowOf u) (namedOf u) i).1++(eI (rowOf u) (namedOf u) (i+1)).2)):=by
 have hl:=memberOf_lt h
 cases u with
 | list m =>
  have hl:i<m.length:=hl
  have hp:(m.plain&&m.names.all fun (n:Bytes)=>n==[])=true:=hp
  rw [aC] at hp;refine ⟨.list (m.drop_ i),?_,?_,?_,?_⟩
  ·unfold Value.done;rw [h]
  ·show ((m.drop_ i).plain&&(m.drop_ i).names.all fun (n:Bytes)=>n==[])=true
   rw [jr m i hp.1,js m i _ hp.2];rfl
  ·rw [gd,gd];have:=kK m i
   omega
  ·have:=mW m i hl
   rw [gn,jR m false i hl];show _=_::(vary (m.length - 1)++_)
   rw [←this];rfl
 | rec_ m =>
  have hl:i<m.length:=hl
  have hp:(m.plain&&(m.names.all nameOk&&rising m.names))=true:=hp
  rw [aC,aC] at hp;refine ⟨.rec_ (m.drop_ i),?_,?_,?_,?_⟩
  ·unfold Value.done;rw [h]
  ·show ((m.drop_ i).plain&&((m.drop_ i).names.all nameOk&&rising (m.drop_ i).names))=true
   rw [jr m i hp.1,js m i _ hp.2.1,lr m i hp.2.2];rfl
  ·rw [gU,gU];have:=kK m i
   omega
  ·have:=mW m i hl
   rw [iq,jR m true i hl];show _=_::(vary (m.length - 1)++_)
   rw [←this];rfl
 | _=>cases s<;>cases h
theorem jS {u:Value} {s:Sw.Step} (h:u.memberOf s=none):u.done s .take=none:=by
 unfold Value.done;rw [h];cases u<;>rfl
theorem jn:∀ (m:Row) (i:Nat) (x:Value),i≤m.length→(m.insert i x).length=m.length+1
 | .nil,0,x,_=>by unfold Row.insert;rfl
 | .cons n v r,0,x,_=>by unfold Row.insert;rfl
 | .nil,i+1,x,h=>absurd h (by show ¬i+1≤0;omega)
 | .cons n v r,i+1,x,h=>by
  have h:i+1≤r.length+1:=h
  unfold Row.insert;show (r.insert i x).length+1=r.length+1+1
  rw [jn r i x (by omega)]
theorem jo:∀ (m:Row) (i:Nat) (x:Value),i≤m.length→(m.insert i x).enc false=(eI m false i).1++(x.enc++(eI m false i).2)
 | .nil,0,x,_=>by unfold Row.insert eI;rw [enc_cons];rfl
 | .cons n v r,0,x,_=>by unfold Row.insert eI;rw [enc_cons];rfl
 | .nil,i+1,x,h=>absurd h (by show ¬i+1≤0;omega)
 | .cons n v r,i+1,x,h=>by
  have h:i+1≤r.length+1:=h
  unfold Row.insert;rw [enc_cons,jo r i x (by omega)]
  conv=>rhs;unfold eI
  simp only [aO]
theorem jL:∀ (m:Row) (i:Nat) (x:Value),m.plain=true→x.plain=true→(m.insert i x).plain=true
 | .nil,0,x,h,hx=>by
  unfold Row.insert;show (x.plain&&Row.nil.plain)=true
  rw [hx,h];rfl
 | .cons n v r,0,x,h,hx=>by
  unfold Row.insert;show (x.plain&&(Row.cons n v r).plain)=true
  rw [hx,h];rfl
 | .nil,i+1,x,h,hx=>by
  unfold Row.insert;show (x.plain&&Row.nil.plain)=true
  rw [hx,h];rfl
 | .cons n v r,i+1,x,h,hx=>by
  have h:(v.plain&&r.plain)=true:=h
  rw [aC] at h;unfold Row.insert;show (v.plain&&(r.insert i x).plain)=true
  rw [h.1,jL r i x h.2 hx];rfl
theorem jM:∀ (m:Row) (i:Nat) (x:Value),(m.names.all fun (n:Bytes)=>n==[])=true→((m.insert i x).names.all fun (n:Bytes)=>n==[])=true
 | .nil,0,x,h=>by unfold Row.insert;rfl
 | .cons n v r,0,x,h=>by
  unfold Row.insert;show (true&&(Row.cons n v r).names.all fun (n:Bytes)=>n==[])=true
  rw [h];rfl
 | .nil,i+1,x,h=>by unfold Row.insert;rfl
 | .cons n v r,i+1,x,h=>by
  have h:((n==[])&&r.names.all fun (n:Bytes)=>n==[])=true:=h
  rw [aC] at h;unfold Row.insert;show ((n==[])&&(r.insert i x).names.all fun (n:Bytes)=>n==[])=true
  rw [h.1,jM r i x h.2];rfl
theorem lp:∀ (m:Row) (i:Nat) (x:Value),(m.insert i x).deep=max m.deep x.deep
 | .nil,0,x=>by
  unfold Row.insert;rw [cH,mX];omega
 | .cons n v r,0,x=>by
  unfold Row.insert;rw [cH];omega
 | .nil,i+1,x=>by
  unfold Row.insert;rw [cH,mX];omega
 | .cons n v r,i+1,x=>by
  unfold Row.insert;have:=lp r i x
  rw [cH,cH];omega
theorem ee (k:Bytes) (v:Value) (r:Row) (n:Bytes) (x:Value):(Row.cons k v r).under n x=if bytesBefore n k=true then .cons n x (.cons k v r) else .cons k v (r.under n x):=by
 conv=>lhs;unfold Row.under
theorem fB (n:Bytes) (x:Value):Row.nil.under n x = .cons n x .nil:=by
 unfold Row.under;rfl
theorem j9:∀ (m:Row) (n:Bytes) (x:Value),(m.under n x).length=m.length+1
 | .nil,n,x=>by rw [fB];rfl
 | .cons k v r,n,x=>by
  rw [ee];by_cases h:bytesBefore n k=true
  ·rw [if_pos h];rfl
  ·rw [if_neg h];show (r.under n x).length+1=r.length+1+1
   rw [j9 r]
theorem kR:∀ (m:Row) (n:Bytes) (x:Value),m.plain=true→x.plain=true→(m.under n x).plain=true
 | .nil,n,x,h,hx=>by
  rw [fB];show (x.plain&&Row.nil.plain)=true
  rw [hx,h];rfl
 | .cons k v r,n,x,h,hx=>by
  rw [ee];by_cases q:bytesBefore n k=true
  ·rw [if_pos q];show (x.plain&&(Row.cons k v r).plain)=true
   rw [hx,h];rfl
  ·rw [if_neg q];have h:(v.plain&&r.plain)=true:=h
   rw [aC] at h;show (v.plain&&(r.under n x).plain)=true
   rw [h.1,kR r n x h.2 hx];rfl
theorem lT:∀ (m:Row) (n:Bytes) (x:Value),(m.under n x).deep=max m.deep x.deep
 | .nil,n,x=>by
  rw [fB,cH,mX];omega
 | .cons k v r,n,x=>by
  rw [ee];by_cases q:bytesBefore n k=true
  ·rw [if_pos q,cH];omega
  ·rw [if_neg q,cH,cH,lT r];omega
theorem j8:∀ (m:Row) (n:Bytes) (x:Value) (k:Bytes),k∈(m.under n x).names→k=n∨k∈m.names
 | .nil,n,x,k,h=>by
  rw [fB] at h;exact .inl (aG.mp h)
 | .cons k0 v r,n,x,k,h=>by
  rw [ee] at h;by_cases q:bytesBefore n k0=true
  ·rw [if_pos q] at h;exact (aB.mp h)
  ·rw [if_neg q] at h;have h:k∈k0::(r.under n x).names:=h
   rcases aB.mp h with rfl | h
   ·exact .inr aR
   ·exact (j8 r n x k h).imp id (ax _)
theorem jx:∀ (m:Row) (n:Bytes) (x:Value),rising m.names=true→n∉m.names→rising (m.under n x).names=true
 | .nil,n,x,_,_=>by rw [fB];rfl
 | .cons k v r,n,x,h,hn=>by
  obtain ⟨h1,h2⟩:=(ef k r.names).mp h
  rw [ee];by_cases q:bytesBefore n k=true
  ·rw [if_pos q];refine (ef n (k::r.names)).mpr ⟨fun z hz=>?_,h⟩
   rcases aB.mp hz with rfl | hz
   ·exact q
   ·exact fY _ _ _ q (h1 z hz)
  ·rw [if_neg q];have ne:n≠k:=fun e=>hn (by rw [e];exact aR)
   have kn:bytesBefore k n=true:=by
    cases e:bytesBefore k n with
    | true=>rfl
    | false=>exact absurd (fZ _ _ (by simpa using q) e) ne
   refine (ef k (r.under n x).names).mpr ⟨fun z hz=>?_,jx r n x h2 fun e=>hn (ax _ e)⟩
   rcases j8 r n x z hz with rfl | hz
   ·exact kn
   ·exact h1 z hz
def cntB (m:Row) (n:Bytes):Nat:=(m.names.filter fun (k:Bytes)=>bytesBefore k n).length
theorem kb:∀ (m:Row) (n:Bytes) (x:Value),rising m.names=true→n∉m.names→(m.under n x).enc true=(eI m true (cntB m n)).1++(vary n.length++(n++(x.enc++(eI m true (cntB m n)).2)))
 | .nil,n,x,_,_=>by
  rw [fB,enc_cons];show _=(eI .nil true 0).1++(_++(_++(_++(eI .nil true 0).2)))
  unfold eI;show (vary n.length++n)++_=_
  simp only [aO,eO]
 | .cons k v r,n,x,h,hn=>by
  obtain ⟨h1,h2⟩:=(ef k r.names).mp h
  rw [ee];by_cases q:bytesBefore n k=true
  ·rw [if_pos q];have e:cntB (.cons k v r) n=0:=by
    unfold cntB;rw [cy,fq];intro z hz hb;have hz:z∈k::r.names:=hz
    have:bytesBefore n z=true:=by
     rcases aB.mp hz with rfl | hz
     ·exact q
     ·exact fY _ _ _ q (h1 z hz)
    rw [iA _ _ this] at hb;cases hb
   rw [e,enc_cons];unfold eI;show (vary n.length++n)++_=_
   simp only [aO,eO]
  ·rw [if_neg q];have ne:n≠k:=fun e=>hn (by rw [e];exact aR)
   have kn:bytesBefore k n=true:=by
    cases e:bytesBefore k n with
    | true=>rfl
    | false=>exact absurd (fZ _ _ (by simpa using q) e) ne
   have e:cntB (.cons k v r) n=cntB r n+1:=by
    unfold cntB;show ((k::r.names).filter _).length=_
    rw [fJ,if_pos kn];rfl
   rw [e,enc_cons,kb r n x h2 fun e=>hn (ax _ e)]
   conv=>rhs;unfold eI
   simp only [aO]
theorem indexOf_none {m:Row} {n:Bytes}:m.indexOf n=none↔n∉m.names:=by
 unfold Row.indexOf;rw [List.findIdx?_eq_none_iff];constructor
 ·intro h hm;have:=h n hm
  simp at this
 ·intro h z hz;cases e:(z==n) with
  | false=>rfl
  | true =>
   have e:=eq_of_beq e
   subst e;exact absurd hz h
theorem cntB_le (m:Row) (n:Bytes):cntB m n≤m.length:=by
 rw [←names_len];exact List.length_filter_le _ _
def isHold (u:Value):Prop:=u.kind=5∨u.kind=6
theorem hold_enc {u:Value} (hu:isHold u):u.enc=UInt8.ofNat u.kind::(vary (rowOf u).length++(rowOf u).enc (namedOf u))∧ioff u=1+(vary (rowOf u).length).length:=by
 cases u with
 | list m=>exact ⟨gn m,rfl⟩
 | rec_ m=>exact ⟨iq m,rfl⟩
 | _=>rcases hu with hu | hu<;>cases hu
theorem ok_of {w:Value} (hp:w.plain=true):w.ok=(decide (w.deep≤DEEP)&&decide (w.enc.length≤MOST)):=by
 unfold Value.ok;rw [hp,Bool.true_and]
theorem memberOf_hold {u:Value} {s:Sw.Step} {i:Nat} (h:u.memberOf s=some i):isHold u:=by
 cases u<;>first
  | exact .inl rfl
  | exact .inr rfl
  | (cases s<;>cases h)
theorem pB:∀ (a:List Sw.Step) (v:Value) (p:Nat) (u:Value) (q:Nat),v.plain=true→(u,q)∈trail (v,p) a→u.plain=true
 | [],v,p,u,q,hv,h=>by
  unfold trail at h;have h:=aG.mp h
  injection h with h1 h2;rw [h1];exact hv
 | t::a,v,p,u,q,hv,h=>by
  unfold trail at h;rcases aB.mp h with h | h
  ·injection h with h1 h2;rw [h1];exact hv
  ·cases e:go (v,p) t with
   | none=>rw [e] at h;cases h
   | some z =>
    rw [e] at h;have h:(u,q)∈trail z a:=h
    obtain ⟨i,n,e1,e2,e3⟩:=jO e
    exact pB a z.1 z.2 u q (plain_mem hv e2) h
theorem trail_last_pl {a:List Sw.Step} {v:Value} {p:Nat} {u:Value} {q:Nat} (hv:v.plain=true) (h:(trail (v,p) a).getLast? = some (u,q)):u.plain=true :=
 pB a v p u q hv (List.mem_of_getLast? h)
theorem take_none {v:Value} {l:List Sw.Step} (h:l=[]∨(trail (v,0) l).length≤l.length):v.doneAt l .take=none:=by
 rcases bX l with rfl | ⟨a,s,rfl⟩
 ·rfl
 ·rw [bY] at h ⊢;have h:(trail (v,0) (a++[s])).length≤(a++[s]).length:=h.resolve_left (by simp)
  by_cases q:(trail (v,0) a).length≤a.length
  ·exact doneAt_no a v 0 s _ q
  ·have hle:=leads_le a v
   have hl:=trail_len a (v,0)
   have h1:(trail (v,0) a).length=a.length+1:=by
    have:(trail (v,0) a).length=(v.leads a).length+1:=hl
    omega
   cases e:(trail (v,0) a).getLast? with
   | none=>exact absurd (a9.mp e) (trail_ne _ _)
   | some y =>
    obtain ⟨u,q'⟩:=y
    rw [doneAt_snoc a v 0 u q' s _ h1 e];rw [trail_snoc a (v,0) (u,q') s [] h1 e] at h;cases g:go (u,q') s with
    | none=>rw [jS (go_none g)];rfl
    | some z =>
     rw [g] at h;have h:(trail (v,0) a++trail z []).length≤(a++[s]).length:=h
     have kz:(trail z []).length=1:=by unfold trail;rfl
     rw [aa,aa,kz] at h;have:([s]:List Sw.Step).length=1:=rfl
     omega
theorem done_put {u:Value} {s:Sw.Step} {i:Nat} (h:u.memberOf s=some i) (x:Value):u.done s (.put x)=some (u.with_ i x):=by
 cases u with
 | list m =>
  cases s with
  | index z =>
   have h:(if 0≤z∧z<(m.length:Int) then some z.toNat else none)=some i:=h
   unfold Value.done;by_cases q:0≤z∧z<(m.length:Int)
   ·rw [if_pos q] at h;injection h with h;show (if 0≤z∧z<(m.length:Int) then some (Value.list (m.set z.toNat x)) else _)=_
    rw [if_pos q,h];rfl
   ·rw [if_neg q] at h;cases h
  | name n=>cases h
 | rec_ m =>
  cases s with
  | index z=>cases h
  | name n =>
   have h:m.indexOf n=some i:=h
   unfold Value.done;show (match m.indexOf n with
    | some i=>some (Value.rec_ (m.set i x))
    | none=>if nameOk n=true then some (.rec_ (m.under n x)) else none)=_
   rw [h];rfl
 | _=>cases s<;>cases h
theorem nG:∀ (a:List Sw.Step) (v:Value) (p:Nat) (u:Value) (q:Nat) (s:Sw.Step) (i:Nat) (n:Bytes) (w x:Value),(trail (v,p) a).length=a.length+1→(trail (v,p) a).getLast? = some (u,q)→u.memberOf s=some i→u.member i=some (n,w) →
  repl v (a++[s]) x=repl v a (u.with_ i x)
 | [],v,p,u,q,s,i,n,w,x,_,h2,h3,h4=>by
  have h2:some (v,p)=some (u,q):=by unfold trail at h2;exact h2
  injection h2 with h2;injection h2 with h2 h5;subst h2 h5;show repl v [s] x=_
  rw [repl_cons h3 h4];unfold repl;rfl
 | t::a,v,p,u,q,s,i,n,w,x,h1,h2,h3,h4=>by
  obtain ⟨j,k,y,e1,e2,e3,e4⟩:=trail_cons h1 h2
  have e1:v.memberOf t=some j:=e1
  have e2:v.member j=some (k,y):=e2
  show repl v (t::(a++[s])) x=_
  rw [repl_cons e1 e2,repl_cons e1 e2,nG a y _ u q s i n w x e3 e4 h3 h4]
theorem trail_front {v:Value} {p:Nat} {a:List Sw.Step} {s:Sw.Step} {y:Value×Nat} (h1:(trail (v,p) (a++[s])).length=(a++[s]).length+1) (h2:(trail (v,p) (a++[s])).getLast? = some y) :
  ∃ u q i n,(trail (v,p) a).length=a.length+1∧(trail (v,p) a).getLast? = some (u,q)∧u.memberOf s=some i∧u.member i=some (n,y.1)∧y.2=mplace u q i∧trail (v,p) (a++[s])=trail (v,p) a++[y]:=by
 have hg:∀ (a:List Sw.Step) (x:Value×Nat),(trail x (a++[s])).length=(a++[s]).length+1→(trail x a).length=a.length+1:=by
  intro a;induction a with
  | nil=>intro x _;unfold trail;rfl
  | cons t a ih =>
   intro x h;have h:(trail x (t::(a++[s]))).length=(a++[s]).length+1+1:=h
   unfold trail at h ⊢;cases e:go x t with
   | none=>rw [e] at h;simp at h
   | some z =>
    rw [e] at h;have h:(trail z (a++[s])).length+1=(a++[s]).length+1+1:=h
    show (trail z a).length+1=a.length+1+1
    rw [ih z (by omega)]
 have k1:=hg a (v,p) h1
 cases e:(trail (v,p) a).getLast? with
 | none=>exact absurd (a9.mp e) (trail_ne _ _)
 | some z =>
  obtain ⟨u,q⟩:=z
  have k2:=trail_snoc a (v,p) (u,q) s [] k1 e
  cases g:go (u,q) s with
  | none =>
   rw [g] at k2;rw [k2] at h1;simp only [bC,aa,aj,c9] at h1;omega
  | some z =>
   rw [g] at k2;have k2:trail (v,p) (a++[s])=trail (v,p) a++trail z []:=k2
   have kz:trail z []=[z]:=by unfold trail;rfl
   rw [kz] at k2;rw [k2,List.getLast?_concat] at h2;injection h2 with h2;subst h2;obtain ⟨i,n,g1,g2,g3⟩:=jO g
   exact ⟨u,q,i,n,k1,rfl,g1,g2,g3,k2⟩
theorem put_old {v:Value} {l:List Sw.Step} {u:Value} {q:Nat} (x:Value) (hv:v.plain=true) (hd:v.deep≤64) (hx:x.plain=true)
  (h1:(trail (v,0) l).length=l.length+1) (h2:(trail (v,0) l).getLast? = some (u,q)) :
  ∃ w,v.doneAt l (.put x)=some w∧w.ok=(decide (l.length+x.deep≤64)&&decide (w.enc.length≤MOST))∧w.enc=v.enc.take q++(x.enc++v.enc.drop (q+u.enc.length)):=by
 obtain ⟨pre,post,e1,e2,e3⟩:=repl_enc l v 0 u q h1 h2
 obtain ⟨r1,r2,r3⟩:=repl_deep l v 0 u q x h1 h2
 refine ⟨repl v l x,?_,?_,?_⟩
 ·rcases bX l with rfl | ⟨a,s,rfl⟩
  ·rfl
  ·rw [bY] at h1 h2 ⊢;obtain ⟨u0,q0,i,n,k1,k2,k3,k4,k5,k6⟩:=trail_front h1 h2
   rw [doneAt_snoc a v 0 u0 q0 s _ k1 k2,done_put k3 x,nG a v 0 u0 q0 s i n _ x k1 k2 k3 k4];rfl
 ·rw [ok_of (repl_plain l v x hv hx)];congr 1
  unfold DEEP;exact decide_eq_decide.mpr (by omega)
 ·have hq:pre.length=q:=by omega
  rw [e3,e1,←hq,gw,←bO,dG,dG]
theorem list_put {m:Row} {x:Value} (hp:(Value.list m).plain=true) (hx:x.plain=true) (i:Nat) (hi:i≤m.length) :
  (Value.list (m.insert i x)).plain=true∧(Value.list (m.insert i x)).deep=max (Value.list m).deep (x.deep+1)∧(Value.list (m.insert i x)).enc=UInt8.ofNat (Value.list m).kind::(vary (m.length+1)++((eI m false i).1++(x.enc++(eI m false i).2))):=by
 have hp:(m.plain&&m.names.all fun (n:Bytes)=>n==[])=true:=hp
 rw [aC] at hp;refine ⟨?_,?_,?_⟩
 ·show ((m.insert i x).plain&&(m.insert i x).names.all fun (n:Bytes)=>n==[])=true
  rw [jL m i x hp.1 hx,jM m i x hp.2];rfl
 ·rw [gd,gd,lp];omega
 ·rw [gn,jn m i x hi,jo m i x hi];rfl
theorem rec_put {m:Row} {x:Value} {n:Bytes} (hp:(Value.rec_ m).plain=true) (hx:x.plain=true) (hn:m.indexOf n=none) (ho:nameOk n=true) :
  (Value.rec_ (m.under n x)).plain=true∧(Value.rec_ (m.under n x)).deep=max (Value.rec_ m).deep (x.deep+1)∧(Value.rec_ (m.under n x)).enc=UInt8.ofNat (Value.rec_ m).kind::(vary (m.length+1)++((eI m true (cntB m n)).1++((vary n.length++(n++x.enc))++(eI m true (cntB m n)).2))):=by
 have hp:(m.plain&&(m.names.all nameOk&&rising m.names))=true:=hp
 rw [aC,aC] at hp;have hn:=indexOf_none.mp hn
 refine ⟨?_,?_,?_⟩
 ·show ((m.under n x).plain&&((m.under n x).names.all nameOk&&rising (m.under n x).names))=true
  rw [kR m n x hp.1 hx,jx m n x hp.2.2 hn];have:(m.under n x).names.all nameOk=true:=by
   rw [df];intro k hk;rcases j8 m n x k hk with rfl | hk
   ·exact ho
   ·exact df.mp hp.2.1 k hk
  rw [this];rfl
 ·rw [gU,gU,lT];omega
 ·rw [iq,j9,kb m n x hp.2.2 hn];simp only [aO];rfl
theorem jd:∀ a:Bytes,bytesBefore a a=false
 | []=>rfl
 | c::l=>by
  show (decide (c.toNat<c.toNat)||(c==c&&bytesBefore l l))=false
  rw [jd l,af (bK _),gA];rfl
theorem wy {a b:UInt8} {l r:Bytes}:bytesBefore (a::l) (b::r)=true↔a.toNat<b.toNat∨(a=b∧bytesBefore l r=true):=by
 show (decide (a.toNat<b.toNat)||(a==b&&bytesBefore l r))=true↔_
 rw [dc,aC,bo,beq_iff_eq]
theorem iU:∀ {a b c:Bytes},bytesBefore a b=true→bytesBefore b c=true→bytesBefore a c=true
 | [],[],_,h,_=>by cases h
 | [],_::_,[],_,h=>by cases h
 | [],_::_,_::_,_,_=>rfl
 | _::_,[],_,h,_=>by cases h
 | _::_,_::_,[],_,h=>by cases h
 | x::a,y::b,z::c,h1,h2=>by
  rw [wy] at h1 h2 ⊢;rcases h1 with h1 | ⟨rfl,h1⟩
  ·rcases h2 with h2 | ⟨rfl,h2⟩
   ·exact .inl (by omega)
   ·exact .inl h1
  ·rcases h2 with h2 | ⟨rfl,h2⟩
   ·exact .inl h2
   ·exact .inr ⟨rfl,iU h1 h2⟩
theorem kW {a:Bytes} {r:List Bytes} (h:rising (a::r)=true):rising r=true:=by
 cases r with
 | nil=>rfl
 | cons b r =>
  have h:(bytesBefore a b&&rising (b::r))=true:=h
  rw [aC] at h;exact h.2
theorem kY:∀ {r:List Bytes} {a:Bytes},rising (a::r)=true→∀ x∈r,bytesBefore a x=true
 | [],_,_,x,hx=>by simp at hx
 | b::r,a,h,x,hx=>by
  have h':(bytesBefore a b&&rising (b::r))=true:=h
  rw [aC] at h'
  rcases aB.mp hx with rfl | hx
  ·exact h'.1
  ·exact iU h'.1 (kY h'.2 x hx)
theorem fC:∀ {ns:List Bytes},rising ns=true→∀ {i j:Nat} {x y:Bytes},i<j→ns[i]? = some x→ns[j]? = some y→bytesBefore x y=true
 | [],_,i,j,x,y,_,e,_=>by simp at e
 | a::r,h,0,j+1,x,y,_,e1,e2=>by
  have e1:some a=some x:=e1
  injection e1 with e1;subst e1;exact kY h y (cN e2)
 | a::r,h,i+1,j+1,x,y,hij,e1,e2=>fC (kW h) (by omega) e1 e2
theorem cnt_split {p:Bytes→Bool}:∀ {ns:List Bytes} {b:Nat},b≤ns.length→(∀ j x,j<b→ns[j]? = some x→p x=true)→(∀ j x,b≤j→ns[j]? = some x→p x=false)→(ns.filter p).length=b
 | [],b,hb,_,_=>by
  have:b=0:=by simpa using hb
  rw [this];rfl
 | a::r,0,_,h1,h2=>by
  rw [cy,fq];intro x hx;obtain ⟨j,hj⟩:=dv hx
  rw [h2 j x (aW _) hj];exact aI
 | a::r,b+1,hb,h1,h2=>by
  rw [fJ,h1 0 a (by omega) rfl,if_pos rfl,aj,cnt_split (b:=b) (by simpa using hb) (fun j x hj e=>h1 (j+1) x (by omega) e) (fun j x hj e=>h2 (j+1) x (by omega) e)]
theorem yY {ns:List Bytes} (h:rising ns=true) {i:Nat} {k:Bytes} (e:ns[i]? = some k):(ns.filter fun x=>bytesBefore x k).length=i:=by
 refine cnt_split (by have:=(aN.mp e).1;omega) (fun j x hj ex=>fC h hj ex e) (fun j x hj ex=>?_)
 by_cases hji:j=i
 ·subst hji;rw [e] at ex;injection ex with ex;rw [←ex];exact jd k
 ·have h1:=fC h (show i<j by omega) e ex
  cases hb:bytesBefore x k with
  | false=>rfl
  | true =>
   have:=iU h1 hb
   rw [jd] at this;cases this
theorem find_cnt {ns:List Bytes} (h:rising ns=true) (k:Bytes):ns.findIdx? (fun x=>x==k)=if ns[(ns.filter fun x=>bytesBefore x k).length]? = some k then some (ns.filter fun x=>bytesBefore x k).length else none:=by
 by_cases c:ns[(ns.filter fun x=>bytesBefore x k).length]? = some k
 ·rw [if_pos c,List.findIdx?_eq_some_iff_getElem];have hl:=(aN.mp c).1
  refine ⟨hl,?_,fun j hj=>?_⟩
  ·rw [(aN.mp c).2];simp
  ·have hjl:j<ns.length:=by omega
   have h1:=fC h hj (aJ hjl) c
   intro z;rw [beq_iff_eq] at z;rw [z,jd] at h1;cases h1
 ·rw [if_neg c,List.findIdx?_eq_none_iff];intro x hx;rw [beq_eq_false_iff_ne];intro z;subst z;obtain ⟨j,hj⟩:=dv hx
  have:=yY h hj
  rw [this] at c;exact c hj
theorem half_low {ns:List Bytes} (h:rising ns=true) {m:Nat} {x k:Bytes} (e:ns[m]? = some x) (hb:bytesBefore x k=true):∀ j y,j<m+1→ns[j]? = some y→bytesBefore y k=true:=fun j y hj ey=>by
 by_cases hjm:j=m
 ·subst hjm;rw [e] at ey;injection ey with ey;rw [←ey];exact hb
 ·exact iU (fC h (show j<m by omega) ey e) hb
theorem half_high {ns:List Bytes} (h:rising ns=true) {m:Nat} {x k:Bytes} (e:ns[m]? = some x) (hb:bytesBefore x k=false):∀ j y,m≤j→ns[j]? = some y→bytesBefore y k=false:=fun j y hj ey=>by
 by_cases hjm:j=m
 ·subst hjm;rw [e] at ey;injection ey with ey;rw [←ey];exact hb
 ·have h1:=fC h (show m<j by omega) e ey
  cases hy:bytesBefore y k with
  | false=>rfl
  | true =>
   rw [iU h1 hy] at hb;cases hb
theorem rec_rising {m:Row} (h:(Value.rec_ m).plain=true):rising m.names=true:=by
 have h:(m.plain&&(m.names.all nameOk&&rising m.names))=true:=h
 rw [aC,aC] at h;exact h.2.2
def rapp:Row→Row→Row
 | .nil,k=>k
 | .cons n v r,k=>.cons n v (rapp r k)
theorem rapp_nil:∀ a:Row,rapp a .nil=a
 | .nil=>rfl
 | .cons n v r=>by
  show Row.cons n v (rapp r .nil)=_
  rw [rapp_nil r]
theorem rapp_len:∀ a b:Row,(rapp a b).length=a.length+b.length
 | .nil,b=>by show b.length=0+b.length;omega
 | .cons n v r,b=>by
  show (rapp r b).length+1=r.length+1+b.length
  rw [rapp_len r b];omega
theorem l9 (named:Bool):∀ a b:Row,(rapp a b).enc named=a.enc named++b.enc named
 | .nil,b=>by rw [enc_nil];rfl
 | .cons n v r,b=>by
  show (Row.cons n v (rapp r b)).enc named=_
  rw [enc_cons,enc_cons,l9 named r b];simp only [aO]
theorem rapp_get:∀ (a b:Row) (i:Nat),(rapp a b).get? (a.length+i)=b.get? i
 | .nil,b,i=>by show b.get? (0+i)=_;rw [f9]
 | .cons n v r,b,i=>by
  show (Row.cons n v (rapp r b)).get? (r.length+1+i)=_
  rw [show r.length+1+i=r.length+i+1 by omega]
  exact rapp_get r b i
theorem rapp_set:∀ (a b:Row) (n:Bytes) (v x:Value),(rapp a (.cons n v b)).set a.length x=rapp a (.cons n x b)
 | .nil,b,n,v,x=>rfl
 | .cons k w r,b,n,v,x=>by
  show Row.cons k w ((rapp r (.cons n v b)).set r.length x)=_
  rw [rapp_set r b n v x];rfl
theorem km:∀ (a b:Row) (n:Bytes) (v:Value),(rapp a (.cons n v b)).drop_ a.length=rapp a b
 | .nil,b,n,v=>rfl
 | .cons k w r,b,n,v=>by
  show Row.cons k w ((rapp r (.cons n v b)).drop_ r.length)=_
  rw [km r b n v];rfl
theorem rapp_insert:∀ (a b:Row) (x:Value),(rapp a b).insert a.length x=rapp a (.cons [] x b)
 | .nil,b,x=>by cases b<;>rfl
 | .cons k w r,b,x=>by
  show Row.cons k w ((rapp r b).insert r.length x)=_
  rw [rapp_insert r b x];rfl
theorem under_at:∀ (a b:Row) (n:Bytes) (x:Value),rising (rapp a b).names=true→n∉(rapp a b).names→cntB (rapp a b) n=a.length→(rapp a b).under n x=rapp a (.cons n x b)
 | .nil,.nil,n,x,_,_,_=>by
  show Row.nil.under n x=_
  rw [fB];rfl
 | .nil,.cons k v r,n,x,hr,hn,hc=>by
  show (Row.cons k v r).under n x = .cons n x (.cons k v r)
  rw [ee];have hb:bytesBefore k n=false:=by
   cases hb:bytesBefore k n with
   | false=>rfl
   | true =>
    have hc:((k::r.names).filter fun (y:Bytes)=>bytesBefore y n).length=0:=hc
    rw [fJ,if_pos hb] at hc;simp at hc
  have hk:n≠k:=fun z=>hn (by rw [z];exact aR)
  have:bytesBefore n k=true:=by
   cases hb2:bytesBefore n k with
   | true=>rfl
   | false=>exact absurd (fZ n k hb2 hb) hk
  rw [if_pos this]
 | .cons k v r,b,n,x,hr,hn,hc=>by
  show (Row.cons k v (rapp r b)).under n x = .cons k v (rapp r (.cons n x b))
  rw [ee];have hr':rising (k::(rapp r b).names)=true:=hr
  have hn':n∉k::(rapp r b).names:=hn
  have hc':((k::(rapp r b).names).filter fun (y:Bytes)=>bytesBefore y n).length=r.length+1:=hc
  have hkn:bytesBefore k n=true:=by
   cases hb:bytesBefore k n with
   | true=>rfl
   | false =>
    have hall:=half_high hr' (m:=0) (x:=k) (k:=n) rfl hb
    have:((k::(rapp r b).names).filter fun (y:Bytes)=>bytesBefore y n)=[]:=by
     rw [fq];intro y hy;obtain ⟨j,hj⟩:=dv hy
     rw [hall j y (aW _) hj];exact aI
    rw [this] at hc'
    simp at hc'
  have hnk:¬bytesBefore n k=true:=fun z=>by
   rw [iA k n hkn] at z;cases z
  rw [if_neg hnk,under_at r b n x (kW hr') (fun z=>hn' (ax _ z)) ?_]
  unfold cntB;rw [fJ,if_pos hkn] at hc'
  simpa using hc'
def withRow:Value→Row→Value
 | .list _,r=>.list r
 | .rec_ _,r=>.rec_ r
 | v,_=>v
theorem withRow_kind (u:Value) (r:Row):(withRow u r).kind=u.kind:=by cases u<;>rfl
theorem withRow_row {u:Value} (h:isHold u) (r:Row):rowOf (withRow u r)=r:=by
 cases u with
 | list m=>rfl
 | rec_ m=>rfl
 | _=>rcases h with h | h<;>cases h
theorem je (u:Value) (r:Row):namedOf (withRow u r)=namedOf u:=by cases u<;>rfl
theorem jv {u:Value} (h:isHold u) (r:Row):isHold (withRow u r):=by
 unfold isHold at *
 rw [withRow_kind];exact h
theorem jN {u:Value} (h:isHold u):u.enc.length=1+(vary (rowOf u).length).length+((rowOf u).enc (namedOf u)).length:=by
 obtain ⟨e,_⟩:=hold_enc h
 rw [e,aj,aa];omega
theorem nmB_is {u:Value} (hp:u.plain=true) {i:Nat} {n:Bytes} {w:Value} (hm:u.member i=some (n,w)):nmB (namedOf u) n=if n=[] then [] else vary n.length++n:=by
 obtain ⟨h1,h2⟩:=name_of hp hm
 unfold nmB;cases e:namedOf u with
 | true=>rw [if_pos rfl,if_neg (h2 e)]
 | false=>rw [if_neg aI,if_pos (h1 e)]
theorem len_more {u:Value} (h:isHold u) {r1 r2:Row} {n:Bytes} {w:Value} :
  ((withRow u (rapp r1 (.cons n w r2))).enc.length:Int)=((withRow u (rapp r1 r2)).enc.length:Int)+(((nmB (namedOf u) n).length:Int)+(w.enc.length:Int)+((vary (r1.length+r2.length+1)).length:Int) - ((vary (r1.length+r2.length)).length:Int)):=by
 rw [jN (jv h _),jN (jv h _),withRow_row h,withRow_row h,je,je,l9,l9,rapp_len,rapp_len,enc_cons];have e:r1.length+(Row.cons n w r2).length=r1.length+r2.length+1:=by
  show r1.length+(r2.length+1)=_
  omega
 rw [e];simp only [aa];omega
theorem take_done {u:Value} {s:Sw.Step} {i:Nat} {r1 r2:Row} {n:Bytes} {w:Value} (h:u.memberOf s=some i) (er:rowOf u=rapp r1 (.cons n w r2)) (el:r1.length=i):u.done s .take=some (withRow u (rapp r1 r2)):=by
 cases u with
 | list m =>
  have er:m=_:=er
  unfold Value.done;rw [h,er,←el];show some (Value.list ((rapp r1 (.cons n w r2)).drop_ r1.length))=_
  rw [km];rfl
 | rec_ m =>
  have er:m=_:=er
  unfold Value.done;rw [h,er,←el];show some (Value.rec_ ((rapp r1 (.cons n w r2)).drop_ r1.length))=_
  rw [km];rfl
 | _=>cases s<;>cases h
theorem rapp_inj:∀ {a b c d:Row},rapp a b=rapp c d→a.length=c.length→a=c∧b=d
 | .nil,b,.nil,d,h,_=>⟨rfl,h⟩
 | .nil,_,.cons _ _ _,_,_,h=>by cases h
 | .cons _ _ _,_,.nil,_,_,h=>by cases h
 | .cons n v r,b,.cons k w q,d,h,hl=>by
  have h:Row.cons n v (rapp r b)=Row.cons k w (rapp q d):=h
  injection h with h1 h2 h3;obtain ⟨e1,e2⟩:=rapp_inj h3 (Nat.succ.inj hl)
  rw [h1,h2,e1];exact ⟨rfl,e2⟩
theorem row_self {u:Value} (h:isHold u):withRow u (rowOf u)=u:=by
 cases u with
 | list m=>rfl
 | rec_ m=>rfl
 | _=>rcases h with h | h<;>cases h
theorem row_short {u:Value} (h:isHold u):(rowOf u).length+2≤u.enc.length:=by
 rw [jN h];have:∀ (m:Row) (b:Bool),m.length≤(m.enc b).length:=by
  intro m b;induction m using Row.rec (motive_1:=fun _=>True) with
  | nil=>exact aW _
  | cons n v r _ ih =>
   rw [enc_cons];have:=fX v
   simp only [aa];show r.length+1≤_
   omega
  | _=>trivial
 have:=this (rowOf u) (namedOf u)
 have v1:1≤(vary (rowOf u).length).length:=by
  unfold vary;split<;>simp
 omega
theorem lV {k:Nat} (h:k<256):(UInt8.ofNat k).toNat=k:=by
 rw [UInt8.toNat_ofNat',Nat.mod_eq_of_lt h]
theorem fD {k lo hi x p:Nat} {c:UInt8} {b:Bytes} (h1:lo≤c.toNat) (h2:c.toNat≤hi):Sw.follow (k+1) lo hi x p (c::b)=Sw.follow k 0x80 0xBF (64*x+c.toNat % 64) (p+1) b:=by
 show (if lo≤c.toNat∧c.toNat≤hi then _ else _)=_
 rw [if_pos ⟨h1,h2⟩]
theorem sO (k:Nat):0x80≤(UInt8.ofNat (0x80+k % 64)).toNat∧(UInt8.ofNat (0x80+k % 64)).toNat≤0xBF∧(UInt8.ofNat (0x80+k % 64)).toNat % 64=k % 64∧(UInt8.ofNat (0x80+k % 64)).toNat=0x80+k % 64:=by
 have h:=Nat.mod_lt k (show 0<64 by decide)
 generalize k % 64=x at h;rw [lV (by omega)]
 omega
theorem lead2:∀ x:Fin 32,2≤x.val→Sw.leads (0xC0+x.val)=some (1,0x80,0xBF):=by decide
theorem lead3:∀ x:Fin 16,Sw.leads (0xE0+x.val)=some (2,if x.val=0 then 0xA0 else 0x80,if x.val=13 then 0x9F else 0xBF):=by decide
theorem lead4:∀ x:Fin 5,Sw.leads (0xF0+x.val)=some (3,if x.val=0 then 0x90 else 0x80,if x.val=4 then 0x8F else 0xBF):=by decide
theorem fb2:∀ x:Fin 32,(0xC0+x.val) % 32=x.val:=by decide
theorem fb3:∀ x:Fin 16,(0xE0+x.val) % 16=x.val:=by decide
theorem fb4:∀ x:Fin 5,(0xF0+x.val) % 8=x.val:=by decide
theorem d64 (c:Nat):c / 4096=c / 64 / 64:=(cj c 64 64).symm
theorem d64' (c:Nat):c / 262144=c / 64 / 64 / 64:=by rw [cj,cj]
theorem l3a {c:Nat} (h:¬c<0x800) (z:c / 4096=0):0xA0≤0x80+c / 64 % 64:=by omega
theorem l3b {c:Nat} (h:c<0xD800∨(0xE000≤c∧c≤0x10FFFF)) (z:c / 4096=13):0x80+c / 64 % 64≤0x9F:=by omega
theorem l4a {c:Nat} (h:¬c<0x10000) (z:c / 262144=0):0x90≤0x80+c / 4096 % 64:=by omega
theorem l4b {c:Nat} (h:c<0x110000) (z:c / 262144=4):0x80+c / 4096 % 64≤0x8F:=by omega
theorem qB {c:Nat} (h:isScalar c=true) (p:Nat) (r:Bytes):scalarAt p (utf8One c++r) = .ok (c,r):=by
 have hc:c<0xD800∨(0xE000≤c∧c≤0x10FFFF):=by
  unfold isScalar at h;rw [dc,aC,bo,bo,bo] at h;exact h
 have hx:c<0x110000:=by omega
 unfold utf8One;by_cases h1:c<0x80
 ·rw [if_pos h1];have e:=lV (aT h1 (show 128≤256 by decide))
  show (match Sw.leads (UInt8.ofNat c).toNat with
   | none=>Except.error p
   | some (k,lo,hi)=>Sw.follow k lo hi (firstBits k (UInt8.ofNat c).toNat) (p+1) r)=_
  rw [e];unfold Sw.leads;rw [if_pos h1];rfl
 ·rw [if_neg h1];by_cases h2:c<0x800
  ·rw [if_pos h2];have a1:c / 64<32:=fO h2
   have a2:2≤c / 64:=(Nat.le_div_iff_mul_le (by decide)).mpr (fG h1)
   have e:=lV (show 0xC0+c / 64<256 by omega)
   obtain ⟨t1,t2,t3,_⟩:=sO c
   show (match Sw.leads (UInt8.ofNat (0xC0+c / 64)).toNat with
    | none=>Except.error p
    | some (k,lo,hi)=>Sw.follow k lo hi (firstBits k (UInt8.ofNat (0xC0+c / 64)).toNat) (p+1) (UInt8.ofNat (0x80+c % 64)::r))=_
   rw [e,lead2 ⟨c / 64,a1⟩ a2];show Sw.follow 1 0x80 0xBF ((0xC0+c / 64) % 32) (p+1) _=_
   rw [fD t1 t2,t3,fb2 ⟨c / 64,a1⟩];show Except.ok (64*(c / 64)+c % 64,r)=_
   rw [d8]
  ·rw [if_neg h2];by_cases h3:c<0x10000
   ·rw [if_pos h3];have a1:c / 4096<16:=fO h3
    have e:=lV (show 0xE0+c / 4096<256 by omega)
    obtain ⟨t1,t2,t3,t4⟩:=sO (c / 64)
    obtain ⟨s1,s2,s3,_⟩:=sO c
    show (match Sw.leads (UInt8.ofNat (0xE0+c / 4096)).toNat with
     | none=>Except.error p
     | some (k,lo,hi)=>Sw.follow k lo hi (firstBits k (UInt8.ofNat (0xE0+c / 4096)).toNat) (p+1) (UInt8.ofNat (0x80+c / 64 % 64)::UInt8.ofNat (0x80+c % 64)::r))=_
    rw [e,lead3 ⟨c / 4096,a1⟩];have key:∀ lo hi,lo≤(UInt8.ofNat (0x80+c / 64 % 64)).toNat→(UInt8.ofNat (0x80+c / 64 % 64)).toNat≤hi→Sw.follow 2 lo hi ((0xE0+c / 4096) % 16) (p+1) (UInt8.ofNat (0x80+c / 64 % 64)::UInt8.ofNat (0x80+c % 64)::r) = .ok (c,r):=fun lo hi a b=>by
     rw [fD a b,fD s1 s2,t3,s3,fb3 ⟨c / 4096,a1⟩];show Except.ok (64*(64*(c / 4096)+c / 64 % 64)+c % 64,r)=_
     rw [d64,d8,d8]
    refine key _ _ ?_ ?_
    ·dsimp only;split
     ·next z=>rw [t4];exact l3a h2 z
     ·exact t1
    ·dsimp only;split
     ·next z=>rw [t4];exact l3b hc z
     ·exact t2
   ·rw [if_neg h3];have a1:c / 262144<5:=fO (aT hx (by decide))
    have e:=lV (show 0xF0+c / 262144<256 by omega)
    obtain ⟨t1,t2,t3,t4⟩:=sO (c / 4096)
    obtain ⟨s1,s2,s3,_⟩:=sO (c / 64)
    obtain ⟨u1,u2,u3,_⟩:=sO c
    show (match Sw.leads (UInt8.ofNat (0xF0+c / 262144)).toNat with
     | none=>Except.error p
     | some (k,lo,hi)=>Sw.follow k lo hi (firstBits k (UInt8.ofNat (0xF0+c / 262144)).toNat) (p+1) (UInt8.ofNat (0x80+c / 4096 % 64)::UInt8.ofNat (0x80+c / 64 % 64)::UInt8.ofNat (0x80+c % 64)::r))=_
    rw [e,lead4 ⟨c / 262144,a1⟩];have key:∀ lo hi,lo≤(UInt8.ofNat (0x80+c / 4096 % 64)).toNat→(UInt8.ofNat (0x80+c / 4096 % 64)).toNat≤hi→Sw.follow 3 lo hi ((0xF0+c / 262144) % 8) (p+1) (UInt8.ofNat (0x80+c / 4096 % 64)::UInt8.ofNat (0x80+c / 64 % 64)::UInt8.ofNat (0x80+c % 64)::r) = .ok (c,r):=fun lo hi a b=>by
     rw [fD a b,fD s1 s2,fD u1 u2,t3,s3,u3,fb4 ⟨c / 262144,a1⟩];show Except.ok (64*(64*(64*(c / 262144)+c / 4096 % 64)+c / 64 % 64)+c % 64,r)=_
     rw [d64',d64,d8,d8,d8]
    refine key _ _ ?_ ?_
    ·dsimp only;split
     ·next z=>rw [t4];exact l4a h3 z
     ·exact t1
    ·dsimp only;split
     ·next z=>rw [t4];exact l4b hx z
     ·exact t2
theorem vW (c:Nat):1≤(utf8One c).length:=by
 unfold utf8One;split
 ·exact aK 1
 ·split
  ·show 1≤2;omega
  ·split
   ·show 1≤3;omega
   ·show 1≤4;omega
theorem kU:∀ (t:List Nat) (f p:Nat),t.all isScalar=true→(utf8 t).length≤f→scalarsFrom f p (utf8 t) = .ok t
 | [],f,p,_,_=>by
  show scalarsFrom f p []=_
  cases f<;>rfl
 | c::t,f,p,h,hf=>by
  have h:(isScalar c&&t.all isScalar)=true:=h
  rw [aC] at h;have e:utf8 (c::t)=utf8One c++utf8 t:=rfl
  rw [e] at hf ⊢;have hl:=vW c
  rw [aa] at hf;cases f with
  | zero=>omega
  | succ f =>
   have hne:utf8One c++utf8 t≠[]:=fun z=>by
    have:=congrArg List.length z
    rw [aa,c9] at this;omega
   have eq:scalarsFrom (f+1) p (utf8One c++utf8 t)=match scalarAt p (utf8One c++utf8 t) with
     | .error q=>.error q
     | .ok (d,r)=>(scalarsFrom f (p+((utf8One c).length+(utf8 t).length - r.length)) r).map fun (l:List Nat)=>d::l:=by
    cases hb:utf8One c++utf8 t with
    | nil=>exact absurd hb hne
    | cons x y =>
     have hln:(x::y).length=(utf8One c).length+(utf8 t).length:=by rw [←hb,aa]
     conv=>lhs;unfold scalarsFrom
     rw [hln];rfl
   rw [eq,qB h.1];show (scalarsFrom f _ (utf8 t)).map (fun (l:List Nat)=>c::l)=_
   rw [kU t f _ h.2 (by omega)]
   rfl
theorem name_ok {t:List Nat} (h:t.all isScalar=true):nameOk (utf8 t)=(decide (1≤(utf8 t).length)&&decide ((utf8 t).length≤255)):=by
 unfold nameOk scalars;rw [kU t _ 0 h (aK _)];show (decide (1≤(utf8 t).length)&&(decide ((utf8 t).length≤NAME)&&true))=_
 rw [Bool.and_true];rfl
def deedL:Deed→Nat
 | .put x=>x.enc.length+300
 | .take=>10
 | .add x=>x.enc.length+300
theorem lB {n:Nat} (h:n≤34359738367):(vary n).length≤5:=by
 have e:(vary 34359738367).length=5:=by decide +kernel
 exact e▸sI n _ h
theorem mR:∀ (m:Row) (named:Bool) (i:Nat),((m.drop_ i).enc named).length≤(m.enc named).length
 | .nil,named,i=>by cases i<;>exact aK _
 | .cons n v r,named,0=>by
  show (r.enc named).length≤_
  rw [enc_cons];simp only [aa];omega
 | .cons n v r,named,i+1=>by
  have:=mR r named i
  show ((Row.cons n v (r.drop_ i)).enc named).length≤_
  rw [enc_cons,enc_cons];simp only [aa];omega
theorem uV:∀ (m:Row) (i:Nat),i<m.length→∃ y,m.get? i=some y
 | .nil,i,h=>by cases h
 | .cons n v r,0,h=>⟨_,rfl⟩
 | .cons n v r,i+1,h=>uV r i (Nat.lt_of_succ_lt_succ h)
theorem lj {m:Row} {x:Value} {i:Nat} (hi:i≤m.length) (hl:(Value.list m).enc.length≤16777216):(Value.list (m.insert i x)).enc.length≤(Value.list m).enc.length+(x.enc.length+300):=by
 have h1:=jn m i x hi
 have hs:m.length+2≤(Value.list m).enc.length:=row_short (u:=.list m) (.inl rfl)
 have h2:=(ou m false i).1
 have h3:=lB (n:=m.length+1) (by omega)
 have h4:=congrArg List.length h2
 rw [gn,gn,h1,jo m i x hi];rw [aa] at h4;simp only [aj,aa];omega
theorem qm {m:Row} {x:Value} {n:Bytes} (hp:(Value.rec_ m).plain=true) (hn:m.indexOf n=none) (ho:nameOk n=true) (hl:(Value.rec_ m).enc.length≤16777216):(Value.rec_ (m.under n x)).enc.length≤(Value.rec_ m).enc.length+(x.enc.length+300):=by
 have hp:(m.plain&&(m.names.all nameOk&&rising m.names))=true:=hp
 rw [aC,aC] at hp;have h1:=j9 m n x
 have hs:m.length+2≤(Value.rec_ m).enc.length:=row_short (u:=.rec_ m) (.inr rfl)
 have h2:=(ou m true (cntB m n)).1
 have h3:=lB (n:=m.length+1) (by omega)
 have h4:=congrArg List.length h2
 have h5:n.length≤255:=by
  unfold nameOk at ho;rw [aC,aC] at ho;exact of_decide_eq_true ho.2.1
 have h6:=lB (n:=n.length) (by omega)
 rw [iq,iq,h1,kb m n x hp.2.2 (indexOf_none.mp hn)];rw [aa] at h4;simp only [aj,aa];omega
theorem sF {u:Value} {i:Nat} {x:Value} {n:Bytes} {w:Value} (h:u.member i=some (n,w)):(u.with_ i x).enc.length≤u.enc.length+(x.enc.length+300):=by
 obtain ⟨pre,post,e1,_,e2⟩:=with_enc h
 rw [e2,e1];simp only [aa];omega
theorem tS {u u':Value} {s:Sw.Step} {d:Deed} (hp:u.plain=true) (hl:u.enc.length≤16777216) (h:u.done s d=some u'):u'.enc.length≤u.enc.length+deedL d:=by
 cases d with
 | take =>
  cases e:u.memberOf s with
  | none=>rw [jS e] at h;cases h
  | some i =>
   obtain ⟨w,e1,_,_,e2⟩:=done_take e hp
   rw [e1] at h;injection h with h;subst h;have hi:=memberOf_lt e
   have hh:=memberOf_hold e
   have h0:=row_short hh
   have h1:=jN hh
   have h6:=lB (n:=(rowOf u).length - 1) (by omega)
   have h7:=mR (rowOf u) (namedOf u) i
   rw [jR _ _ _ hi] at h7;rw [e2];show _≤_+10
   simp only [aj,aa] at h7 ⊢;omega
 | put x =>
  show _≤_+(x.enc.length+300)
  cases e:u.memberOf s with
  | some i =>
   rw [done_put e x] at h;injection h with h;subst h;cases em:u.member i with
   | none =>
    rw [member_eq] at em;obtain ⟨y,ey⟩:=uV (rowOf u) i (memberOf_lt e)
    rw [ey] at em;cases em
   | some y=>exact sF em
  | none =>
   cases u with
   | list m =>
    cases s with
    | index z =>
     have h:(if 0≤z∧z<(m.length:Int) then some (Value.list (m.set z.toNat x)) else if z=(m.length:Int) then some (Value.list (m.insert m.length x)) else none)=some u':=h
     have e:(if 0≤z∧z<(m.length:Int) then some z.toNat else none)=none:=e
     by_cases c:0≤z∧z<(m.length:Int)
     ·rw [if_pos c] at e;cases e
     ·rw [if_neg c] at h;by_cases c2:z=(m.length:Int)
      ·rw [if_pos c2] at h;injection h with h;subst h;exact lj (aK _) hl
      ·rw [if_neg c2] at h;cases h
    | name n=>cases h
   | rec_ m =>
    cases s with
    | name n =>
     have e:m.indexOf n=none:=e
     have h:(match m.indexOf n with
      | some i=>some (Value.rec_ (m.set i x))
      | none=>if nameOk n=true then some (Value.rec_ (m.under n x)) else none)=some u':=h
     rw [e] at h;have h:(if nameOk n=true then some (Value.rec_ (m.under n x)) else none)=some u':=h
     by_cases c:nameOk n=true
     ·rw [if_pos c] at h;injection h with h;subst h;exact qm hp e c hl
     ·rw [if_neg c] at h;cases h
    | index z=>cases h
   | _=>cases s<;>cases h
 | add x =>
  cases u with
  | list m =>
   cases s with
   | index z =>
    have h:(if 0≤z∧z≤(m.length:Int) then some (Value.list (m.insert z.toNat x)) else none)=some u':=h
    by_cases c:0≤z∧z≤(m.length:Int)
    ·rw [if_pos c] at h;injection h with h;subst h;exact lj (by omega) hl
    ·rw [if_neg c] at h;cases h
   | name n=>cases h
  | _=>cases s<;>cases h
theorem doneAt_long {v v':Value} {l:List Sw.Step} {d:Deed} (hp:v.plain=true) (hl:v.enc.length≤16777216) (h:v.doneAt l d=some v'):v'.enc.length≤v.enc.length+deedL d:=by
 rcases bX l with el | ⟨la,ls,el⟩
 ·subst el;cases d with
  | put x =>
   have h:some x=some v':=h
   injection h with h;subst h;show x.enc.length≤_+(x.enc.length+300)
   omega
  | _=>cases h
 ·rw [bY] at el;subst el;by_cases c:(trail (v,0) la).length≤la.length
  ·rw [doneAt_no la v 0 ls d c] at h;cases h
  ·have hle:=leads_le la v
   have htl:(trail (v,0) la).length=(v.leads la).length+1:=trail_len la (v,0)
   have hf:(trail (v,0) la).length=la.length+1:=by omega
   cases e:(trail (v,0) la).getLast? with
   | none=>exact absurd (a9.mp e) (trail_ne _ _)
   | some y =>
    obtain ⟨u,p⟩:=y
    rw [doneAt_snoc la v 0 u p ls d hf e] at h;obtain ⟨pre,post,e1,_,e2⟩:=repl_enc la v 0 u p hf e
    have hul:u.enc.length≤16777216:=by
     rw [e1] at hl;simp only [aa] at hl;omega
    cases ed:u.done ls d with
    | none=>rw [ed] at h;cases h
    | some u' =>
     rw [ed] at h;have h:some (repl v la u')=some v':=h
     injection h with h;subst h;have:=tS (trail_last_pl hp e) hul ed
     rw [e2,e1];simp only [aa];omega
end Pm
namespace L2.J
open PySem PySem.Spec PyProof.Rows L2.XC
theorem fs_{N P:List Str}{c:Scope}(a:c.kind=.function:=by rfl)(b:c.isCoroutine=false:=by rfl)(d:c.isGenerator=false:=by rfl)(e:N.Nodup:=by decide +kernel)(f:N.take P.length=P:=by rfl)(g:∀ x∈P,c.names.lookup x=some .local∨c.names.lookup x=some .cell:=by decide +kernel)(h:∀ y∈c.names,y.2≠.free:=by decide +kernel):ba N P c:=⟨a,b,d,e,f,g,h⟩
def top (i:Nat):Stmt:=PySem.Challenge.pw_onevalues_s10_add.main.body.getD i (.Pass ⟨0,0,0,0⟩)
abbrev sFI:Stmt:=eH (top 16) 0
abbrev sRI:Stmt:=eH (top 28) 0
abbrev sSB:Stmt:=eH (top 28) 1
abbrev sRB:Stmt:=eH (top 28) 2
abbrev sPB:Stmt:=eH (top 28) 4
abbrev sRV:Stmt:=eH (top 28) 5
abbrev sSL:Stmt:=top 32
abbrev sLS:Stmt:=top 33
abbrev sHS:Stmt:=top 34
abbrev sPS:Stmt:=top 35
abbrev sCU:Stmt:=top 36
abbrev sPI:Stmt:=eH (top 38) 0
abbrev sRW:Stmt:=top 39
abbrev sLM:Stmt:=top 40
abbrev sDP:Stmt:=top 41
abbrev sBM:Stmt:=top 42
abbrev sBP:Stmt:=top 43
abbrev sPN:Stmt:=top 44
abbrev sPR:Stmt:=top 45
abbrev sRN:Stmt:=top 46
abbrev sAB:Stmt:=top 47
abbrev sIB:Stmt:=top 48
abbrev sAO:Stmt:=top 50
abbrev sNO:Stmt:=top 51
abbrev sUI:Stmt:=eH (top 53) 0
abbrev sUP:Stmt:=eH (top 54) 0
abbrev sUL:Stmt:=eH (top 55) 0
abbrev sUV:Stmt:=eH (top 56) 0
abbrev sRP:Stmt:=top 59
abbrev sRS:Stmt:=top 60
abbrev sIN:Stmt:=top 61
abbrev sFW:Stmt:=top 62
abbrev sFM:Stmt:=top 63
abbrev sCB:Stmt:=top 64
abbrev sVR:Stmt:=top 66
abbrev sNW:Stmt:=top 67
abbrev sKR:Stmt:=top 68
abbrev sNI:Stmt:=eH (top 70) 0
abbrev sMK:Stmt:=top 71
abbrev sML:Stmt:=top 72
abbrev sTW:Stmt:=top 73
abbrev sPA:Stmt:=top 75
abbrev sMH:Stmt:=top 76
abbrev sPW:Stmt:=top 77
abbrev sTA:Stmt:=top 78
abbrev sAA:Stmt:=top 79
abbrev sMA:Stmt:=top 80
abbrev sCD:Stmt:=top 81
abbrev sRL:Stmt:=top 82
abbrev sIM:Stmt:=top 83
abbrev sRM:Stmt:=top 84
abbrev sCO:Stmt:=top 85
abbrev sLN:Stmt:=top 86
abbrev vM:Stmt:=eH (top 91) 0
abbrev sDS:Stmt:=top 92
abbrev sAD:Stmt:=top 94
abbrev sCW:Stmt:=top 95
def bv (c:UInt8):V:=.int (c.toNat:Int)
def Kp (H H':Hp) (r:Addr):Prop:=∀ b o,H b=some o→b≠r→H' b=some o
theorem Kp.trans {H H1 H2:Hp} {r:Addr} (a:Kp H H1 r) (b:Kp H1 H2 r):Kp H H2 r:=fun c o e n=>b c o (a c o e n) n
theorem Kp.refl (H:Hp) (r:Addr):Kp H H r:=fun _ _ e _=>e
theorem iE {K:Fg_} {H H':Hp} {r a C dx:Addr} {fs:List (Str×V)} {xs:List V} (h:SqL K H a xs) (k:Kp H H' r) (hr:H r=some (.ins C dx fs)):SqL K H' a xs:=by
 rcases h with (h | ⟨o,h⟩) | h
 ·exact .inl (.inl (k _ _ h (cQ h hr (by intro z;cases z))))
 ·exact .inl (.inr ⟨o,k _ _ h (cQ h hr (by intro z;cases z))⟩)
 ·exact .inr h
def GI (mg:Str→Option Value) (x:Str) (n:Int):Prop:=∃ t,mg x=some (.int n t)
theorem pgi {X:Cx} {x:Str} {n:Int} {pos:Pos} (h:GI X.mg x n) (hg:Gl X x) (hd:(x==("__debug__" : Str))=false:=by decide):PE X (.Name x pos) (tC (.int n)):=by
 obtain ⟨t,e⟩:=h
 exact vS hg e ⟨t,rfl⟩ hd
def dS (b:List UInt8):List Int:=b.map fun c=>(c.toNat:Int)
theorem jV (b:List UInt8):b.map bv=(dS b).map V.int:=by
 unfold dS;rw [dN];rfl
theorem nV:∀ (q m:List UInt8),HT.lexLe (dS m) (dS q) = !Sw.bytesBefore q m
 | [],[]=>rfl
 | [],_::_=>rfl
 | _::_,[]=>rfl
 | a::q,b::m=>by
  have ih:=nV q m
  show (if (b.toNat:Int)=(a.toNat:Int) then HT.lexLe (dS m) (dS q) else decide ((b.toNat:Int)≤(a.toNat:Int))) = !(decide (a.toNat<b.toNat)||(a==b&&Sw.bytesBefore q m))
  by_cases e:a=b
  ·subst e;rw [if_pos rfl,ih,af (bK _),beq_self_eq_true];rfl
  ·have hn:¬a.toNat=b.toNat:=fun z=>e (UInt8.toNat_inj.mp z)
   have hb:(a==b)=false:=beq_eq_false_iff_ne.mpr e
   rw [if_neg (by omega),hb,fu,Bool.or_false]
   by_cases hl:a.toNat<b.toNat
   ·rw [ag hl,af (by omega)]
    rfl
   ·rw [af hl,ag (by omega)]
    rfl
theorem jb (bs:List UInt8) (p n:Nat) (h:p+n≤bs.length) {x y:Int} (hx:x=(p:Int)) (hy:y=((p+n:Nat):Int)):nq (bs.map bv) (some x) (some y)=((bs.drop p).take n).map bv:=by
 unfold nq;rw [hx,hy,HT.sIx_nat,HT.sIx_nat,au,bZ (by omega),bZ (by omega),←gR,←fL]
 congr 2
 omega
theorem kc (bs:List UInt8):ValuesNeutral.text (dS bs)=bs:=by
 unfold ValuesNeutral.text dS;rw [dN];conv=>rhs;rw [←List.map_id bs]
 congr 1
 funext c
 simp
theorem qQ:∀ (ns:List Int),(∀ x∈ns,0≤x∧x≤255)→∃ bs:List UInt8,ns=dS bs∧bs.length=ns.length
 | [],_=>⟨[],rfl,rfl⟩
 | x::ns,h=>by
  obtain ⟨bs,e,l⟩:=qQ ns fun y hy=>h y (by simp [hy])
  obtain ⟨h0,h1⟩:=h x (by simp)
  refine ⟨UInt8.ofNat x.toNat::bs,?_,by simp [l]⟩
  show x::ns=((UInt8.ofNat x.toNat).toNat:Int)::dS bs
  rw [←e];congr 1
  rw [UInt8.toNat_ofNat'];omega
def vf (a:Values.Answer):List Int:=a.num::(a.more++((a.bytes.getD []).map fun (x:UInt8)=>((x.toNat:Nat):Int)))
theorem tY (b:List UInt8):vf (Values.gives b)=0::dS b:=rfl
theorem ln1 {us:List Value} (h:us.length=1):∃ a,us=[a]:=List.length_eq_one_iff.mp h
theorem ln2 {us:List Value} (h:us.length=2):∃ a b,us=[a,b]:=by
 cases us with
 | nil=>cases h
 | cons a r =>
  obtain ⟨b,rfl⟩:=ln1 (us:=r) (Nat.succ.inj h)
  exact ⟨a,b,rfl⟩
theorem ln3 {us:List Value} (h:us.length=3):∃ a b c,us=[a,b,c]:=by
 cases us with
 | nil=>cases h
 | cons a r =>
  obtain ⟨b,c,rfl⟩:=ln2 (us:=r) (Nat.succ.inj h)
  exact ⟨a,b,c,rfl⟩
theorem ln4 {us:List Value} (h:us.length=4):∃ a b c d,us=[a,b,c,d]:=by
 cases us with
 | nil=>cases h
 | cons a r =>
  obtain ⟨b,c,d,rfl⟩:=ln3 (us:=r) (Nat.succ.inj h)
  exact ⟨a,b,c,d,rfl⟩
theorem iY {n:Nat} (h:n<128):Sw.vary n=[UInt8.ofNat n]:=by
 unfold Sw.vary;rw [if_pos h]
theorem jw {n:Nat} (h:¬n<128):Sw.vary n=UInt8.ofNat (128+n % 128)::Sw.vary (n / 128):=by
 conv=>lhs;unfold Sw.vary
 rw [if_neg h]
theorem u6 {k:Nat} (h:k<256):bv (UInt8.ofNat k) = .int (k:Int):=by
 unfold bv;rw [UInt8.toNat_ofNat',Nat.mod_eq_of_lt h]
theorem iZ {n:Nat} (h:n<34359738368):(Sw.vary n).length≤5:=by
 by_cases h1:n<128
 ·rw [iY h1];simp
 rw [jw h1,aj];by_cases h2:n / 128<128
 ·rw [iY h2];simp
 rw [jw h2,aj];by_cases h3:n / 128 / 128<128
 ·rw [iY h3];simp
 rw [jw h3,aj];by_cases h4:n / 128 / 128 / 128<128
 ·rw [iY h4];simp
 rw [jw h4,aj,iY (by omega)]
 simp
def rLen (K:Fg_) (xs:List V) (H:Hp) (Q:VK):Prop:=∃ p ys,xs=[.ref p]∧(SqL K H p ys∨SqT K H p ys)∧Q (.int ys.length) H
theorem bW {X:Cx}:oe X (.builtin "len") (rLen X.K):=oW
structure Co (P:Program) (w:World) (K:Fg_) (mg:Str→Option Value) (base:Heap) (CX:CXT) (k:Nat) (f:Addr) (fd:FuncData) (ps:List Str) (sp:Sp) (x:Str):Prop where
 g:bt P w K mg base CX k f fd ps sp
 b:cB K fd ps []
 k:PySem.W.keepIn K (.ref f)=true
 m:mg x=some (.ref f)
theorem bJ {X:Cx} {CX:CXT} {k:Nat} {f:Addr} {fd:FuncData} {ps:List Str} {sp:Sp} {x:Str} {E:XK} {e:Expr} {es:List Expr} {t:TA} {p pos:Pos} (F:Co X.prog X.w X.K X.mg X.base CX k f fd ps sp x) (hr:cq k X.A) (hg:Gl X x) (hx:fS CX X E) (ha:PA X (e::es) t)
  (hdb:(x==("__debug__" : Str))=false:=by decide) (he:starEach (e::es) X.env=(false,eval e X.env)::starEach es X.env:=by rfl) (hpl:(backTo pos (starEach es X.env)).any (·.1)=false:=by rfl) :
  PE X (.Call (.Name x p) (e::es) [] pos) (uk sp [] E t):=lH F.g hr hg F.m F.k F.b .nil hx ha hdb he hpl
abbrev NsR (K:Fg_) (x:Str) (a:Addr):Prop:=PySem.W.nsIn K mainGlobals x=some (some (.ref a))
abbrev FnR (K:Fg_) (f:Addr) (o:Value) (d:Option Addr) (n q:Str) (t:Stmt) (k c p:Value) (a:Option Addr) (e g:Value) (l:Array (Option Value)):Prop:=K.lookup f=some ⟨o,d,.func (PySem.W.fnOf n q (ja t) (gG t) (aQ t) .none k c p a e g),l⟩
variable {P:Program}{w:World}{K:Fg_}{mg:Str→Option Value}{base:Heap}{CF CR CP CT CS fFI U CN fUP CL fUL CV fUV fRV fPB fRB:Addr}{fdV fdP fdB:FuncData}
def rf (a:Addr) (p:Nat):List (Str×V):=[("row",.ref a),("place",.int (p:Int))]
theorem gJ (a:Addr) (p:Nat):(rf a p).lookup ("row" : Str)=some (.ref a):=rfl
theorem de (a:Addr) (p:Nat):(rf a p).lookup ("place" : Str)=some (.int (p:Int)):=rfl
theorem iF (a:Addr) (p:Nat) {m:Str} (h1:¬m = "row") (h2:¬m = "place"):(rf a p).lookup m=none:=by
 have a1:(m==("row" : Str))=false:=beq_eq_false_iff_ne.mpr h1
 have a2:(m==("place" : Str))=false:=beq_eq_false_iff_ne.mpr h2
 simp only [rf,List.lookup,a1,a2]
def eS (CR:Addr) (H:Hp) (r a:Addr) (p:Nat):Prop:=∃ dx,H r=some (.ins CR dx (rf a p))
structure TxR (K:Fg_) (mg:Str→Option Value) (CF CR fFI:Addr):Prop where
 xc:kN K CF fFI
 cR:Cls K CR
 nRow:cV K CR "row"
 nPl:cV K CR "place"
 mF:mg "Fault" = some (.ref CF)
 len:mg "len" = none
 rng:mg "range" = none
 e1:GI mg "ENDS_TOO_SOON" 1
 e3:GI mg "WRONG_VARYING" 3
 mv:GI mg "MOST_VARYING_BYTES" 5
 hv:GI mg "HIGHEST_VARYING" 4294967295
def xN (CR:Addr):Sp:=fun vs H Q _=>∃ (r dx a:Addr),vs=[.ref r,.ref a]∧H r=some (.ins CR dx [])∧∀ H':Hp,eS CR H' r a 0→Kp H H' r→Q .non H'
def xy (K:Fg_) (CF CR:Addr):Sp:=fun vs H Q E=>∃ (r a:Addr) (p:Nat) (bs:List UInt8),vs=[.ref r]∧eS CR H r a p∧SqL K H a (bs.map bv) ∧
 (match bs[p]? with
  | some c=>Q (bv c) H
  | none=>Err E CF (.int 1) (.int (bs.length:Int)))
def vq (K:Fg_) (CF CR:Addr):Sp:=fun vs H Q E=>∃ (r a:Addr) (p:Nat) (bs:List UInt8),vs=[.ref r]∧eS CR H r a p∧SqL K H a (bs.map bv) ∧
 (match bs[p]? with
  | some c=>∀ H':Hp,eS CR H' r a (p+1)→Kp H H' r→Q (bv c) H'
  | none=>Err E CF (.int 1) (.int (bs.length:Int)))
theorem scFI:ba ["self","kind","place"] ["self","kind","place"] (aQ sFI):=fs_
theorem nO {f:Addr} {fd:FuncData} (F:Fun K "__init__" "Fault.__init__" sFI f fd) (T:TxR K mg CF CR fFI):bt P w K mg base CX0 1 f fd ["self","kind","place"] (ki CF):=by
 refine F.ok scFI (fun vs H Q E h=>?_) (fun cdv A outer s H vs Q E hr h=>?_)
 ·obtain ⟨e,k,p,rfl,_⟩:=h
  rfl
 ·obtain ⟨e,k,p,rfl,he,q⟩:=h
  refine ⟨_,aq (ps_x1 T.xc (.inl rfl) (pv 0) (pv 1) rfl) (aE (ps_x2 T.xc (.inr rfl) (pv 0) (pv 2) rfl)),?_⟩
  try dsimp only [cD]
  refine ⟨_,rfl,_,rfl,e,rfl,he,fun dx n ne=>?_⟩
  refine ⟨_,rfl,_,rfl,e,dx,_,rfl,aA,by rw [ai ne,aA],ne,by show 1≤1000;decide,?_⟩
  exact q dx _ ne (by rw [ai (Ne.symm ne),aA]) aA
theorem scRI:ba ["self","row"] ["self","row"] (aQ sRI):=fs_
theorem ok_RI {f:Addr} {fd:FuncData} (F:Fun K "__init__" "Reader.__init__" sRI f fd) (T:TxR K mg CF CR fFI):bt P w K mg base CX0 1 f fd ["self","row"] (xN CR):=by
 refine F.ok scRI (fun vs H Q E h=>?_) (fun cdv A outer s H vs Q E hr h=>?_)
 ·obtain ⟨r,dx,a,rfl,_⟩:=h
  rfl
 ·obtain ⟨r,dx,a,rfl,hp,k⟩:=h
  refine ⟨_,aq (cJ (pv 0) (pv 1) rfl) (aE (cJ (pv 0) aX rfl)),?_⟩
  try dsimp only [cD];refine ⟨_,rfl,_,rfl,r,CR,dx,[],rfl,hp,T.cR,T.nRow,(by show 0<1000;decide),?_⟩
  refine ⟨_,rfl,r,CR,dx,_,rfl,aA,T.cR,T.nPl,(by show 1<1000;decide),?_⟩
  exact k _ ⟨dx,aA⟩ fun b o e n=>by rw [ai n,ai n];exact e
theorem scSB:ba ["self"] ["self"] (aQ sSB):=fs_
theorem ok_SB {f:Addr} {fd fdI:FuncData} (F:Fun K "see_byte" "Reader.see_byte" sSB f fd) (T:TxR K mg CF CR fFI) (FI:Fun K "__init__" "Fault.__init__" sFI fFI fdI) (bI:cB K fdI ["self","kind","place"] []) :
  bt P w K mg base (CXF P w) 3 f fd ["self"] (xy K CF CR):=by
 have GI:bt P w K mg base CX0 1 fFI fdI ["self","kind","place"] (ki CF):=nO FI T
 refine okX F scSB (fun vs H Q E h=>?_) (fun cdv A outer s H vs Q E hr h=>?_)
 ·obtain ⟨r,a,p,bs,rfl,_⟩:=h
  rfl
 ·obtain ⟨r,a,p,bs,rfl,⟨dx,hr1⟩,hs,q⟩:=h
  refine ⟨_,aq (ck (bh wN (aV (pv 0) rfl) (bM bW (by rfl) T.len a7 (ae (aV (pv 0) rfl) aD)) (bw _))
    (aE (dI T.xc GI bI hr cC rfl rfl T.mF (ae (pgi T.e1 rfl) (ae (bM bW (by rfl) T.len a7 (ae (aV (pv 0) rfl) aD)) aD)))) bE)
   (aE (br (dE cg (aV (pv 0) rfl) (aV (pv 0) rfl) (fun _ _=>rfl)))),?_⟩
  try dsimp only [cD];refine ⟨_,rfl,ex5 r CR dx _ _ ⟨rfl,hr1,T.cR,T.nPl,de a p,_,rfl,ex5 r CR dx _ _ ⟨rfl,hr1,T.cR,T.nRow,gJ a p,a,_,rfl,.inl hs,ex2 _ _ ⟨rfl,rfl,_,rfl,?_⟩⟩⟩⟩
  rw [au];refine jm (fun z=>?_) (fun z=>?_)
  ·have z:=of_decide_eq_true z
   have e:bs[p]? = none:=bG.mpr (by omega)
   rw [e] at q;exact ⟨_,rfl,ex5 r CR dx _ _ ⟨rfl,hr1,T.cR,T.nRow,gJ a p,a,_,rfl,.inl hs,_,_,rfl,by rw [au];exact q⟩⟩
  ·have z:p<bs.length:=by
    have z:=z
    simp at z
    omega
   have e:bs[p]? = some bs[p]:=aJ z
   rw [e] at q;exact ⟨_,rfl,ex5 r CR dx _ _ ⟨rfl,hr1,T.cR,T.nRow,gJ a p,_,rfl,ex5 r CR dx _ _ ⟨rfl,hr1,T.cR,T.nPl,de a p,a,_,_,bv bs[p],rfl,rfl,hs,gI (by rw [bq,e];rfl),q⟩⟩⟩
theorem scRB:ba ["self","byte"] ["self"] (aQ sRB):=fs_
theorem ok_RB {f fSB:Addr} {fd fdS:FuncData} (F:Fun K "read_byte" "Reader.read_byte" sRB f fd) (T:TxR K mg CF CR fFI)
  (GS:bt P w K mg base (CXF P w) 3 fSB fdS ["self"] (xy K CF CR)) (bS:cB K fdS ["self"] []) (mS:qh K CR "see_byte" fSB) :
  bt P w K mg base (CXF P w) 4 f fd ["self"] (vq K CF CR):=by
 refine okX F scRB (fun vs H Q E h=>?_) (fun cdv A outer s H vs Q E hr h=>?_)
 ·obtain ⟨r,a,p,bs,rfl,_⟩:=h
  rfl
 ·obtain ⟨r,a,p,bs,rfl,⟨dx,hr1⟩,hs,q⟩:=h
  refine ⟨_,aq (bb (i:=1) scRB.nd rfl (.inl rfl) (gj (pv 0) T.cR mS GS hr bS .nil di))
   (aq (kr (pv 0) aX qS) (aE (br (pv 1)))),?_⟩
  try dsimp only [cD];refine ⟨_,rfl,ex3 r dx _ ⟨rfl,hr1,iF a p (by decide +kernel) (by decide +kernel),r,a,p,bs,rfl,⟨dx,hr1⟩,hs,?_⟩⟩
  cases e:bs[p]? with
  | none =>
   rw [e] at q;exact q
  | some c =>
   rw [e] at q;refine ⟨_,rfl,ex5 r CR dx _ _ ⟨rfl,hr1,T.cR,T.nPl,de a p,ex2 _ _ ⟨rfl,rfl,dx,_,hr1,(by show 2<1000;decide),?_⟩⟩⟩
   refine ⟨_,rfl,q _ ⟨dx,?_⟩ fun b o e n=>by rw [ai n];exact e⟩
   rw [aA];rfl
def xV (K:Fg_) (CF CR:Addr):Sp:=fun vs H Q E=>∃ (r a:Addr) (p n:Nat) (bs:List UInt8),vs=[.ref r,.int (n:Int)]∧eS CR H r a p∧SqL K H a (bs.map bv)∧p≤bs.length ∧
 (if bs.length - p<n then Err E CF (.int 1) (.int (bs.length:Int)) else ∀ H':Hp,eS CR H' r a (p+n)→Kp H H' r→Q (.int (p:Int)) H')
theorem scPB:ba ["self","how_many","first"] ["self","how_many"] (aQ sPB):=fs_
theorem ok_PB {f:Addr} {fd fdI:FuncData} (F:Fun K "pass_bytes" "Reader.pass_bytes" sPB f fd) (T:TxR K mg CF CR fFI) (FI:Fun K "__init__" "Fault.__init__" sFI fFI fdI) (bI:cB K fdI ["self","kind","place"] []) :
  bt P w K mg base (CXF P w) 3 f fd ["self","how_many"] (xV K CF CR):=by
 have GI:bt P w K mg base CX0 1 fFI fdI ["self","kind","place"] (ki CF):=nO FI T
 refine okX F scPB (fun vs H Q E h=>?_) (fun cdv A outer s H vs Q E hr h=>?_)
 ·obtain ⟨r,a,p,n,bs,rfl,_⟩:=h
  rfl
 ·obtain ⟨r,a,p,n,bs,rfl,⟨dx,hr1⟩,hs,hp,q⟩:=h
  refine ⟨_,aq (ck (bh iH (pv 1) (cY gk (bM bW (by rfl) T.len a7 (ae (aV (pv 0) rfl) aD)) (aV (pv 0) rfl)) (bw _))
    (aE (dI T.xc GI bI hr cC rfl rfl T.mF (ae (pgi T.e1 rfl) (ae (bM bW (by rfl) T.len a7 (ae (aV (pv 0) rfl) aD)) aD)))) bE)
   (aq (bb (i:=2) scPB.nd rfl (.inl rfl) (aV (pv 0) rfl))
   (aq (kr (pv 0) (pv 1) qS) (aE (br (pv 2))))),?_⟩
  try dsimp only [cD];refine ⟨_,rfl,_,rfl,ex5 r CR dx _ _ ⟨rfl,hr1,T.cR,T.nRow,gJ a p,a,_,rfl,.inl hs,_,rfl,ex5 r CR dx _ _ ⟨rfl,hr1,T.cR,T.nPl,de a p,ex2 _ _ ⟨rfl,rfl,ex2 _ _ ⟨rfl,rfl,_,rfl,?_⟩⟩⟩⟩⟩
  rw [au];refine jm (fun z=>?_) (fun z=>?_)
  ·have z:=of_decide_eq_true z
   rw [if_pos (by omega)] at q
   exact ⟨_,rfl,ex5 r CR dx _ _ ⟨rfl,hr1,T.cR,T.nRow,gJ a p,a,_,rfl,.inl hs,_,_,rfl,by rw [au];exact q⟩⟩
  ·have z:¬bs.length - p<n:=by
    have z:=z
    simp at z
    omega
   rw [if_neg z] at q;refine ⟨_,rfl,ex5 r CR dx _ _ ⟨rfl,hr1,T.cR,T.nPl,de a p,?_⟩⟩
   refine ⟨_,rfl,ex5 r CR dx _ _ ⟨rfl,hr1,T.cR,T.nPl,de a p,_,rfl,ex2 _ _ ⟨rfl,rfl,dx,_,hr1,(by show 2<1000;decide),?_⟩⟩⟩
   refine ⟨_,rfl,q _ ⟨dx,?_⟩ fun b o e n=>by rw [ai n];exact e⟩
   rw [aA];rfl
def Out {α:Type} (E:XK) (CF:Addr) (r:Except Sw.Fault α) (k:α→Prop):Prop:=match r with
 | .ok x=>k x
 | .error e=>Err E CF (.int (e.kind:Int)) (.int (e.place:Int))
def xD (K:Fg_) (CF CR:Addr):Sp:=fun vs H Q E=>∃ (r a:Addr) (p:Nat) (bs:List UInt8),vs=[.ref r]∧eS CR H r a p∧SqL K H a (bs.map bv)∧p≤bs.length ∧
 Out E CF (Sw.varyOf p (bs.drop p)) fun (x:Nat×Nat)=>∀ H':Hp,eS CR H' r a (p+x.2)→Kp H H' r→Q (.int (x.1:Int)) H'
theorem lD {j:Nat} {x y:Int} {σ:St} {H:Hp} {Q:Bool→Hp→Prop} (h:σ[j]? = some (some (.int x))) (q:Q (decide (y<x)) H):nF (tOp (rI0 fun i j=>V.bl (decide (j<i))) (qw j) (tC (V.int y))) σ H Q :=
 ⟨_,h,_,_,rfl,rfl,_,rfl,q⟩
theorem pF:ba ["self","first","amount","weight","before","byte"] ["self"] (aQ sRV):=fs_
theorem ok_RV {f fRB:Addr} {fd fdI fdB:FuncData} (F:Fun K "read_varying" "Reader.read_varying" sRV f fd) (T:TxR K mg CF CR fFI) (FI:Fun K "__init__" "Fault.__init__" sFI fFI fdI) (bI:cB K fdI ["self","kind","place"] [])
  (GB:bt P w K mg base (CXF P w) 4 fRB fdB ["self"] (vq K CF CR)) (bB:cB K fdB ["self"] []) (mB:qh K CR "read_byte" fRB) :
  bt P w K mg base (CXF P w) 5 f fd ["self"] (xD K CF CR):=by
 have GI:bt P w K mg base CX0 1 fFI fdI ["self","kind","place"] (ki CF):=nO FI T
 refine okX F pF (fun vs H Q E h=>?_) (fun cdv A outer s H vs Q E hr h=>?_)
 ·obtain ⟨r,a,p,bs,rfl,_⟩:=h
  rfl
 ·obtain ⟨r,a,p,bs,rfl,⟨dx,hr1⟩,hs,hp,q⟩:=h
  have hr2:cq 2 _:=hr.mono (by decide)
  refine ⟨_,aq (bb (i:=1) pF.nd rfl (.inl rfl) (aV (pv 0) rfl))
   (aq (bb (i:=2) pF.nd rfl (.inl rfl) aX)
   (aq (bb (i:=3) pF.nd rfl (.inl rfl) aX)
   (aq (mq PassesOwn.leaving rfl (tq rfl T.rng (ae (pgi T.mv rfl) aD)) (iu (i:=4) pF.nd rfl (.inl rfl))
    (aq (bb (i:=5) pF.nd rfl (.inl rfl) (gj (pv 0) T.cR mB GB hr bB .nil di))
    (aq (qD (i:=2) pF.nd rfl (.inl rfl) (cY uH (cY oB (pv 5) aX) (pv 3)) rY)
    (aq (qD (i:=3) pF.nd rfl (.inl rfl) aX wg)
    (aE (ck (bh iG (pv 5) aX (bw _))
     (aq (ck (PW.pt (kZ (PW.pt (kq (bh dR (pv 5) aX (bw _)) (i9 (bh iH (pv 4) aX (bw _))))) (jh (bh iH (pv 2) (pgi T.hv rfl) (bw _)))))
      (aE (dI T.xc GI bI hr2 cC rfl rfl T.mF (ae (pgi T.e3 rfl) (ae (pv 1) aD)))) bE)
     (aE (br (pv 2)))) bE))))))
   (aE (dI T.xc GI bI hr2 cC rfl rfl T.mF (ae (pgi T.e3 rfl) (ae (pv 1) aD))))))),?_⟩
  try dsimp only [cD];refine ⟨_,rfl,ex5 r CR dx _ _ ⟨rfl,hr1,T.cR,T.nPl,de a p,?_⟩⟩
  refine ⟨5,rfl,by decide,by decide,nY (lo:=0) (n:=5) (fun i σ H'=>∃ (am wt:Int) (v4 v5:Option V),σ=[some (.ref r),some (.int (p:Int)),some (.int am),some (.int wt),v4,v5] ∧
    am=((Vm.val ((bs.drop p).take i):Nat):Int)∧wt=((128 ^ i:Nat):Int)∧eS CR H' r a (p+i)∧Kp H H' r∧i≤(bs.drop p).length∧Vm.High ((bs.drop p).take i))
   ⟨0,1,none,none,rfl,rfl,rfl,⟨dx,hr1⟩,Kp.refl H r,aW _,fun c hc=>by simp at hc⟩ ?_ ?_⟩
  ·rintro i σ H1 hi ⟨am,wt,v4,v5,rfl,ham,hwt,⟨dx1,h1⟩,k1,li,hh⟩
   have sq:=iE hs k1 hr1
   have ldrop:(bs.drop p).length=bs.length - p:=ay
   have ltk:((bs.drop p).take i).length=i:=by rw [aH];omega
   have hx:(bs.drop p)[i]? = bs[p+i]?:=by rw [eT]
   refine ⟨_,rfl,ex3 r dx1 _ ⟨rfl,h1,iF a (p+i) (by decide +kernel) (by decide +kernel),r,a,p+i,bs,rfl,⟨dx1,h1⟩,sq,?_⟩⟩
   cases e:bs[p+i]? with
   | none =>
    have l1:bs.length≤p+i:=bG.mp e
    have e1:(bs.drop p).take i=bs.drop p:=bT (by omega)
    rw [e1] at hh;have e2:=Vm.vary_end (p:=p) hh (by omega)
    rw [e2] at q;have e3:p+(bs.drop p).length=bs.length:=by omega
    have q':Err E CF (.int 1) (.int ((p+(bs.drop p).length:Nat):Int)):=q
    rw [e3] at q'
    exact q'
   | some c =>
    intro H2 hr2' k2
    have l1:p+i<bs.length:=(aN.mp e).1
    have e0:bs.drop p=(bs.drop p).take i++c::bs.drop (p+i+1):=by
     have t1:(bs.drop p).drop i=c::bs.drop (p+i+1):=by
      rw [bO,bj l1];rw [aJ l1] at e;cases e;rfl
     rw [←t1,cI]
    have e1:(bs.drop p).take (i+1)=(bs.drop p).take i++[c]:=by
     rw [d9,hx,e];rfl
    have ev:=Vm.val_snoc ((bs.drop p).take i) c
    rw [ltk] at ev;have ea:am+((c.toNat:Int) % 128)*wt=((Vm.val ((bs.drop p).take (i+1)):Nat):Int):=by
     rw [ham,hwt,e1,ev,Int.natCast_add,Int.natCast_mul,Int.natCast_emod];rfl
    have ew:wt*128=((128 ^ (i+1):Nat):Int):=by
     rw [hwt,ff,Int.natCast_mul];rfl
    refine ⟨_,rfl,_,rfl,ex2 _ _ ⟨rfl,rfl,(by show (0:Int)<128;decide),_,rfl,ex2 _ _ ⟨rfl,rfl,.inl ⟨?_,?_⟩,ex2 _ _ ⟨rfl,rfl,?_⟩⟩⟩⟩
    ·show -(2 ^ 64:Int)<(c.toNat:Int) % 128
     omega
    ·show (c.toNat:Int) % 128<2 ^ 64
     omega
    refine ⟨_,rfl,ex2 _ _ ⟨rfl,rfl,.inr ⟨by decide,by decide⟩,?_⟩⟩
    refine ⟨_,rfl,ex2 _ _ ⟨rfl,rfl,_,rfl,?_⟩⟩
    refine jm (fun z=>?_) (fun z=>?_)
    ·have z:=of_decide_eq_true z
     have hc:c.toNat<128:=by omega
     have ev3:=(congrArg (Sw.varyOf p) e0).trans (Vm.vary_stop (r:=bs.drop (p+i+1)) hh (by omega) hc)
     rw [ltk,←e1] at ev3;rw [ev3] at q;have bad:(i>0∧c=0)∨2 ^ 32≤Vm.val ((bs.drop p).take (i+1))→Err E CF (.int 3) (.int (p:Int)):=fun hb=>by
      rcases hb with hb | hb
      ·rw [if_pos hb] at q;exact q
      ·by_cases hz:i>0∧c=0
       ·rw [if_pos hz] at q;exact q
       ·rw [if_neg hz,if_pos hb] at q;exact q
     have good:¬(i>0∧c=0)→¬2 ^ 32≤Vm.val ((bs.drop p).take (i+1))→Q (.int (am+((c.toNat:Int) % 128)*wt)) H2:=fun h1 h2=>by
      rw [if_neg h1,if_neg h2] at q;rw [ea];exact q H2 (by show eS CR H2 r a (p+(i+1));rw [←bg];exact hr2') (k1.trans k2)
     have c0:(V.int (c.toNat:Int)=V.int 0)↔c=0:=by
      constructor
      ·intro hh0;injection hh0 with hh0;exact UInt8.toNat_inj.mp (by show c.toNat=0;omega)
      ·intro hh0;rw [hh0];rfl
     refine ⟨_,rfl,rfl,_,rfl,jm (fun z1=>?_) (fun z1=>?_)⟩
     ·have z1:=c0.mp (of_decide_eq_true z1)
      refine ⟨_,rfl,ex2 _ _ ⟨rfl,rfl,_,rfl,?_⟩⟩
      by_cases z2:i>0
      ·rw [ag (show (0:Int)<0+(i:Int) by omega)]
       exact ⟨_,rfl,ex2 _ _ ⟨rfl,bad (.inl ⟨z2,z1⟩)⟩⟩
      ·rw [af (show ¬(0:Int)<0+(i:Int) by omega)]
       refine lD rfl (jm (fun z3=>?_) (fun z3=>?_))
       ·have z3:=of_decide_eq_true z3
        exact ⟨_,rfl,ex2 _ _ ⟨rfl,bad (.inr (by omega))⟩⟩
       ·exact ⟨_,rfl,good (fun hz=>z2 hz.1) fun hz=>z3 (ag (by omega))⟩
     ·refine lD rfl (jm (fun z3=>?_) (fun z3=>?_))
      ·have z3:=of_decide_eq_true z3
       exact ⟨_,rfl,ex2 _ _ ⟨rfl,bad (.inr (by omega))⟩⟩
      ·exact ⟨_,rfl,good (fun hz=>z1 (ag (c0.mpr hz.2))) fun hz=>z3 (ag (by omega))⟩
    ·have z:¬c.toNat<128:=by
      have z:=z
      simp at z
      omega
     refine ex4 _ _ _ _ ⟨rfl,ea,ew,?_,k1.trans k2,by omega,?_⟩
     ·rw [←bg];exact hr2'
     ·rw [e1];intro d hd;rcases aF.mp hd with hd | hd
      ·exact hh d hd
      ·rw [aG.mp hd];omega
  ·rintro σ H1 ⟨am,wt,v4,v5,rfl,_,_,_,_,l5,hh⟩
   have e5:=Vm.vary_five (p:=p) (r:=(bs.drop p).drop 5) hh (by rw [aH];omega)
   rw [cI] at e5;rw [e5] at q;exact ⟨_,rfl,ex2 _ _ ⟨rfl,q⟩⟩
structure TxU (mg:Str→Option Value):Prop where
 lf:GI mg "LOWEST_FURTHER" 128
 hf:GI mg "HIGHEST_FURTHER" 191
 e5:GI mg "WRONG_UTF8" 5
 mn:mg "min" = none
def vC (c:Nat):Nat:=if Um.cf c=0 then 0 else Um.cf c+1
def yD (p:Nat) (c:UInt8) (b:List UInt8):Except Nat Nat:=if Um.cf c.toNat=0 then .error p else match Um.fbad (Um.ls c.toNat) (Um.hs c.toNat) (p+1) (b.take (Um.cf c.toNat)) with
 | some q=>.error q
 | none=>.ok (p+1+Um.cf c.toNat)
def spN (g:Nat→Nat):Sp:=fun vs H Q _=>∃ c:Nat,vs=[.int (c:Int)]∧Q (.int ((g c:Nat):Int)) H
def xQ (K:Fg_) (CF:Addr):Sp:=fun vs H Q E=>∃ (a:Addr) (pl en:Nat) (c:UInt8) (bs:List UInt8),vs=[.ref a,.int (pl:Int),.int (en:Int)]∧SqL K H a (bs.map bv)∧bs[pl]? = some c∧pl<en∧en≤bs.length∧bs.length≤65536 ∧
 (match yD pl c ((bs.drop (pl+1)).take (en - (pl+1))) with
  | .error q=>Err E CF (.int 5) (.int (q:Int))
  | .ok z=>Q (.int (z:Int)) H)
def vx (K:Fg_) (CF:Addr):Sp:=fun vs H Q E=>∃ (a:Addr) (st en:Nat) (bs:List UInt8),vs=[.ref a,.int (st:Int),.int (en:Int)]∧SqL K H a (bs.map bv)∧st≤en∧en≤bs.length∧bs.length≤65536 ∧
 (match Um.urun 0 128 191 st ((bs.drop st).take (en - st)) with
  | some q=>Err E CF (.int 5) (.int (q:Int))
  | none=>Q .non H)
theorem scSL:ba ["first"] ["first"] (aQ sSL):=fs_
theorem oX {lo hi c:Nat} {i:Nat} {σ:St} {H:Hp} {Q:Bool→Hp→Prop} (h:σ[i]? = some (some (.int (c:Int)))) (q:Q (decide (lo≤c∧c≤hi)) H) :
  nF (qx (rI0 fun i j=>V.bl (decide (i≤j))) (rI0 fun i j=>V.bl (decide (i≤j))) (tC (.int (lo:Int))) (qw i) (tC (.int (hi:Int)))) σ H Q:=by
 refine ⟨_,h,ex2 _ _ ⟨rfl,rfl,_,rfl,?_⟩⟩
 by_cases h1:lo≤c
 ·rw [ag (show (lo:Int)≤(c:Int) by omega)]
  refine cK (ex2 _ _ ⟨rfl,rfl,_,rfl,?_⟩)
  have e:decide ((c:Int)≤(hi:Int))=decide (lo≤c∧c≤hi):=by
   by_cases h2:c≤hi
   ·rw [ag (show (c:Int)≤(hi:Int) by omega),ag ⟨h1,h2⟩]
   ·rw [af (show ¬(c:Int)≤(hi:Int) by omega),af (fun z=>h2 z.2)]
  rw [e];exact q
 ·rw [af (show ¬(lo:Int)≤(c:Int) by omega)]
  refine cA ⟨_,rfl,?_⟩
  rw [af (fun z=>h1 z.1)] at q
  exact q
theorem ok_SL {f:Addr} {fd:FuncData} (F:Fun K "scalar_length" "scalar_length" sSL f fd):bt P w K mg base CX0 1 f fd ["first"] (spN vC):=by
 refine F.ok scSL (fun vs H Q E h=>?_) (fun cdv A outer s H vs Q E hr h=>?_)
 ·obtain ⟨c,rfl,_⟩:=h
  rfl
 ·obtain ⟨c,rfl,q⟩:=h
  refine ⟨_,aq (ck (jD iN iN aX (pv 0) aX) (aE (br aX)) bE)
   (aq (ck (jD iN iN aX (pv 0) aX) (aE (br aX)) bE)
   (aq (ck (jD iN iN aX (pv 0) aX) (aE (br aX)) bE) (aE (br aX)))),?_⟩
  try dsimp only [cD]
  unfold vC Um.cf at q
  refine oX (lo:=194) (hi:=223) rfl (jm (fun z=>?_) (fun z=>?_))
  ·rw [if_pos (of_decide_eq_true z)] at q
   exact q
  ·rw [if_neg (fun y=>z (ag y))] at q
   refine oX (lo:=224) (hi:=239) rfl (jm (fun z=>?_) (fun z=>?_))
   ·rw [if_pos (of_decide_eq_true z)] at q
    exact q
   ·rw [if_neg (fun y=>z (ag y))] at q
    refine oX (lo:=240) (hi:=244) rfl (jm (fun z=>?_) (fun z=>?_))
    ·rw [if_pos (of_decide_eq_true z)] at q
     exact q
    ·rw [if_neg (fun y=>z (ag y))] at q
     exact q
theorem iQ {n c:Nat} {i:Nat} {σ:St} {H:Hp} {Q:Bool→Hp→Prop} (h:σ[i]? = some (some (.int (c:Int)))) (q:Q (decide (c=n)) H):nF (tOp rEq (qw i) (tC (.int (n:Int)))) σ H Q:=by
 refine ⟨_,h,rfl,_,rfl,?_⟩
 have e:decide (V.int (c:Int)=V.int (n:Int))=decide (c=n):=by
  by_cases z:c=n
  ·rw [z,ag rfl,ag rfl]
  ·rw [af z,af (fun y=>z (by injection y with y;omega))]
 rw [e];exact q
theorem scLS:ba ["first"] ["first"] (aQ sLS):=fs_
theorem ok_LS {f:Addr} {fd:FuncData} (F:Fun K "lowest_second" "lowest_second" sLS f fd) (U:TxU mg):bt P w K mg base CX0 1 f fd ["first"] (spN Um.ls):=by
 refine F.ok scLS (fun vs H Q E h=>?_) (fun cdv A outer s H vs Q E hr h=>?_)
 ·obtain ⟨c,rfl,_⟩:=h
  rfl
 ·obtain ⟨c,rfl,q⟩:=h
  refine ⟨_,aq (ck (bh dR (pv 0) aX (bw _)) (aE (br aX)) bE)
   (aq (ck (bh dR (pv 0) aX (bw _)) (aE (br aX)) bE) (aE (br (pgi U.lf rfl)))),?_⟩
  try dsimp only [cD]
  unfold Um.ls at q
  refine iQ (n:=224) rfl (jm (fun z=>?_) (fun z=>?_))
  ·rw [if_pos (of_decide_eq_true z)] at q
   exact q
  ·rw [if_neg (fun y=>z (ag y))] at q
   refine iQ (n:=240) rfl (jm (fun z=>?_) (fun z=>?_))
   ·rw [if_pos (of_decide_eq_true z)] at q
    exact q
   ·rw [if_neg (fun y=>z (ag y))] at q
    exact q
theorem scHS:ba ["first"] ["first"] (aQ sHS):=fs_
theorem ok_HS {f:Addr} {fd:FuncData} (F:Fun K "highest_second" "highest_second" sHS f fd) (U:TxU mg):bt P w K mg base CX0 1 f fd ["first"] (spN Um.hs):=by
 refine F.ok scHS (fun vs H Q E h=>?_) (fun cdv A outer s H vs Q E hr h=>?_)
 ·obtain ⟨c,rfl,_⟩:=h
  rfl
 ·obtain ⟨c,rfl,q⟩:=h
  refine ⟨_,aq (ck (bh dR (pv 0) aX (bw _)) (aE (br aX)) bE)
   (aq (ck (bh dR (pv 0) aX (bw _)) (aE (br aX)) bE) (aE (br (pgi U.hf rfl)))),?_⟩
  try dsimp only [cD]
  unfold Um.hs at q
  refine iQ (n:=237) rfl (jm (fun z=>?_) (fun z=>?_))
  ·rw [if_pos (of_decide_eq_true z)] at q
   exact q
  ·rw [if_neg (fun y=>z (ag y))] at q
   refine iQ (n:=244) rfl (jm (fun z=>?_) (fun z=>?_))
   ·rw [if_pos (of_decide_eq_true z)] at q
    exact q
   ·rw [if_neg (fun y=>z (ag y))] at q
    exact q
theorem pG:ba ["row","place","end","first","length","lowest","highest","further"] ["row","place","end"] (aQ sPS):=fs_
theorem ok_PS {f f1 f2 f3:Addr} {fd fdI fd1 fd2 fd3:FuncData} (F:Fun K "pass_scalar" "pass_scalar" sPS f fd) (T:TxR K mg CF CR fFI) (U:TxU mg) (FI:Fun K "__init__" "Fault.__init__" sFI fFI fdI) (bI:cB K fdI ["self","kind","place"] [])
  (F1:Fun K "scalar_length" "scalar_length" sSL f1 fd1) (b1:cB K fd1 ["first"] []) (m1:mg "scalar_length" = some (.ref f1))
  (F2:Fun K "lowest_second" "lowest_second" sLS f2 fd2) (b2:cB K fd2 ["first"] []) (m2:mg "lowest_second" = some (.ref f2))
  (F3:Fun K "highest_second" "highest_second" sHS f3 fd3) (b3:cB K fd3 ["first"] []) (m3:mg "highest_second" = some (.ref f3)) :
  bt P w K mg base (CXF P w) 3 f fd ["row","place","end"] (xQ K CF):=by
 have GI:bt P w K mg base CX0 1 fFI fdI ["self","kind","place"] (ki CF):=nO FI T
 have G1:bt P w K mg base CX0 1 f1 fd1 ["first"] (spN vC):=ok_SL F1
 have G2:bt P w K mg base CX0 1 f2 fd2 ["first"] (spN Um.ls):=ok_LS F2 U
 have G3:bt P w K mg base CX0 1 f3 fd3 ["first"] (spN Um.hs):=ok_HS F3 U
 refine okX F pG (fun vs H Q E h=>?_) (fun cdv A outer s H vs Q E hr h=>?_)
 ·obtain ⟨a,pl,en,c,bs,rfl,_⟩:=h
  rfl
 ·obtain ⟨a,pl,en,c,bs,rfl,hs,hc,h1,h2,h3,q⟩:=h
  have hr1:cq 1 _:=hr.mono (by decide)
  refine ⟨_,aq (bb (i:=3) pG.nd rfl (.inl rfl) (dE cg (pv 0) (pv 1) (fun _ _=>rfl)))
   (aq (bb (i:=4) pG.nd rfl (.inl rfl) (lH G1 hr1 rfl m1 F1.kp b1 .nil cx (ae (pv 3) aD)))
   (aq (ck (bh dR (pv 4) aX (bw _)) (aE (dI T.xc GI bI hr cC rfl rfl T.mF (ae (pgi U.e5 rfl) (ae (pv 1) aD)))) bE)
   (aq (bb (i:=5) pG.nd rfl (.inl rfl) (lH G2 hr1 rfl m2 F2.kp b2 .nil cx (ae (pv 3) aD)))
   (aq (bb (i:=6) pG.nd rfl (.inl rfl) (lH G3 hr1 rfl m3 F3.kp b3 .nil cx (ae (pv 3) aD)))
   (aq (mq PassesOwn.leaving rfl (tp rfl T.rng (ae (cY eZ (pv 1) aX) (ae (bM (tV rfl) (by rfl) U.mn boot_min (ae (cY eZ (pv 1) (pv 4)) (ae (pv 2) aD))) aD))) (iu (i:=7) pG.nd rfl (.inl rfl))
    (aq (ck (PW.pt (kZ (bh iG (dE cg (pv 0) (pv 7) (fun _ _=>rfl)) (pv 5) (bw _)) (jh (bh iH (dE cg (pv 0) (pv 7) (fun _ _=>rfl)) (pv 6) (bw _)))))
      (aE (dI T.xc GI bI hr cC rfl rfl T.mF (ae (pgi U.e5 rfl) (ae (pv 7) aD)))) bE)
    (aq (bb (i:=5) pG.nd rfl (.inl rfl) (pgi U.lf rfl)) (aE (bb (i:=6) pG.nd rfl (.inl rfl) (pgi U.hf rfl))))))
   (aE (br (cY eZ (pv 1) (pv 4))))))))),?_⟩
  try dsimp only [cD];refine ⟨_,rfl,_,rfl,a,_,_,bv c,rfl,rfl,hs,gI (by rw [bq,hc];rfl),?_⟩
  refine ⟨_,rfl,c.toNat,rfl,?_⟩
  refine iQ (n:=0) rfl ?_
  unfold yD at q;unfold vC;by_cases h0:Um.cf c.toNat=0
  ·rw [if_pos h0] at q;rw [if_pos h0,ag rfl];exact cK ⟨_,rfl,ex2 _ _ ⟨rfl,q⟩⟩
  ·rw [if_neg h0] at q;rw [if_neg h0,af (by omega)]
   refine cA ⟨_,rfl,c.toNat,rfl,_,rfl,c.toNat,rfl,?_⟩
   generalize hk:Um.cf c.toNat=k at q h0;generalize hseg:((bs.drop (pl+1)).take (en - (pl+1))).take k=seg at q;have lseg:seg.length=min k (en - (pl+1)):=by rw [←hseg,aH,aH,ay];omega
   have hat:∀ i,i<seg.length→seg[i]? = bs[pl+1+i]?:=fun i hi=>by
    rw [←hseg,a6 (by omega),a6 (by omega),eT]
   generalize hR:Um.fbad (Um.ls c.toNat) (Um.hs c.toNat) (pl+1) seg=R at q;have eM:(if (en:Int)<(pl:Int)+((k+1:Nat):Int) then (en:Int) else (pl:Int)+((k+1:Nat):Int))=((pl+1+seg.length:Nat):Int):=by
    rw [lseg];by_cases z:(en:Int)<(pl:Int)+((k+1:Nat):Int)
    ·rw [if_pos z];omega
    ·rw [if_neg z];omega
   refine ⟨_,rfl,ex2 _ _ ⟨rfl,rfl,_,rfl,_,rfl,ex2 _ _ ⟨rfl,rfl,_,rfl,ex2 _ _ ⟨rfl,ex2 _ _ ⟨rfl,?_,?_⟩⟩⟩⟩⟩
   ·rw [eM];exact ⟨by omega,by omega,by omega,by omega⟩
   rw [eM,show (((pl+1+seg.length:Nat):Int) - ((pl:Int)+1)).toNat=seg.length by omega]
   refine nY (lo:=(pl:Int)+1) (n:=seg.length) (fun i σ H'=>H'=H∧∃ (lo hi:Nat) (loi hii:Int) (v7:Option V),loi=(lo:Int)∧hii=(hi:Int) ∧
     σ=[some (.ref a),some (.int (pl:Int)),some (.int (en:Int)),some (bv c),some (.int ((k+1:Nat):Int)),some (.int loi),some (.int hii),v7]∧Um.fbad lo hi (pl+1+i) (seg.drop i)=R)
    ⟨rfl,Um.ls c.toNat,Um.hs c.toNat,_,_,none,rfl,rfl,rfl,hR⟩ ?_ ?_
   ·rintro i σ H1 hi ⟨rfl,lo,hi',loi,hii,v7,rfl,rfl,rfl,hrun⟩
    have eb:seg[i]? = some seg[i]:=aJ hi
    have eb2:=hat i hi
    have ed:seg.drop i=seg[i]::seg.drop (i+1):=bj hi
    rw [ed] at hrun;generalize seg[i]=d at eb hrun;rw [eb] at eb2;have ei:((pl:Int)+1+(i:Int))=((pl+1+i:Nat):Int):=by omega
    have hix:atI (bs.map bv) ((pl:Int)+1+(i:Int))=some (bv d):=vc ei (by rw [bq,←eb2];rfl)
    unfold Um.fbad at hrun;refine ⟨_,rfl,_,rfl,a,_,_,bv d,rfl,rfl,hs,hix,_,rfl,ex2 _ _ ⟨rfl,rfl,_,rfl,?_⟩⟩
    by_cases hb:d.toNat<lo∨hi'<d.toNat
    ·rw [if_pos hb] at hrun;subst hrun;have q':Err E CF (.int 5) (.int ((pl:Int)+1+(i:Int))):=by rw [ei];exact q
     by_cases hb1:d.toNat<lo
     ·rw [ag (show (d.toNat:Int)<(lo:Int) by omega)]
      exact ⟨_,rfl,ex2 _ _ ⟨rfl,q'⟩⟩
     ·rw [af (show ¬(d.toNat:Int)<(lo:Int) by omega)]
      refine ⟨_,rfl,_,rfl,a,_,_,bv d,rfl,rfl,hs,hix,_,rfl,ex2 _ _ ⟨rfl,rfl,_,rfl,?_⟩⟩
      rw [ag (show (hi':Int)<(d.toNat:Int) by omega)]
      exact ⟨_,rfl,ex2 _ _ ⟨rfl,q'⟩⟩
    ·rw [if_neg hb] at hrun;rw [af (show ¬(d.toNat:Int)<(lo:Int) by omega)]
     refine ⟨_,rfl,_,rfl,a,_,_,bv d,rfl,rfl,hs,hix,_,rfl,ex2 _ _ ⟨rfl,rfl,_,rfl,?_⟩⟩
     rw [af (show ¬(hi':Int)<(d.toNat:Int) by omega)]
     refine cA ?_
     exact ⟨rfl,ex5 128 191 _ _ _ ⟨rfl,rfl,rfl,by rw [←bg];exact hrun⟩⟩
   ·rintro σ H1 ⟨rfl,lo,hi',loi,hii,v7,rfl,rfl,rfl,hrun⟩
    rw [ft (aK _)] at hrun;have hrun:none=R:=hrun
    subst hrun;have q':Q (.int ((pl+1+k:Nat):Int)) H1:=q
    have e9:((pl+1+k:Nat):Int)=(pl:Int)+((k+1:Nat):Int):=by omega
    rw [e9] at q'
    exact ⟨_,rfl,_,rfl,ex2 _ _ ⟨rfl,rfl,q'⟩⟩
theorem vJ:ba ["row","start","end","place"] ["row","start","end"] (aQ sCU):=fs_
theorem ok_CU {f fPS:Addr} {fd fdI fdS:FuncData} (F:Fun K "check_utf8" "check_utf8" sCU f fd) (T:TxR K mg CF CR fFI) (U:TxU mg) (FI:Fun K "__init__" "Fault.__init__" sFI fFI fdI) (bI:cB K fdI ["self","kind","place"] [])
  (GS:Co P w K mg base (CXF P w) 3 fPS fdS ["row","place","end"] (xQ K CF) "pass_scalar") :
  bt P w K mg base (CXF P w) 4 f fd ["row","start","end"] (vx K CF):=by
 have GI:bt P w K mg base CX0 1 fFI fdI ["self","kind","place"] (ki CF):=nO FI T
 refine okX F vJ (fun vs H Q E h=>?_) (fun cdv A outer s H vs Q E hr h=>?_)
 ·obtain ⟨a,st,en,bs,rfl,_⟩:=h
  rfl
 ·obtain ⟨a,st,en,bs,rfl,hs,h1,h2,h3,q⟩:=h
  have hr2:cq 2 _:=hr.mono (by decide)
  refine ⟨_,aq (bb (i:=3) vJ.nd rfl (.inl rfl) (pv 1))
   (aq (gW PassesOwn.leaving (bh iG (pv 3) (pv 2) (bw _))
    (aE (ck (bh iG (dE cg (pv 0) (pv 3) (fun _ _=>rfl)) (pgi U.lf rfl) (bw _))
     (aE (qD (i:=3) vJ.nd rfl (.inl rfl) aX rY))
     (aE (bb (i:=3) vJ.nd rfl (.inl rfl) (bJ GS hr rfl di (ae (pv 0) (ae (pv 3) (ae (pv 2) aD)))))))))
   (aE (ck (bh iH (pv 3) (pv 2) (bw _)) (aE (dI T.xc GI bI hr2 cC rfl rfl T.mF (ae (pgi U.e5 rfl) (ae (pv 2) aD)))) bE))),?_⟩
  try dsimp only [cD];generalize hR:Um.urun 0 128 191 st ((bs.drop st).take (en - st))=R at q;refine ⟨_,rfl,fun n σ H'=>H'=H∧∃ pl:Nat,σ=[some (.ref a),some (.int (st:Int)),some (.int (en:Int)),some (.int (pl:Int))]∧n=en - pl∧((pl≤en∧Um.urun 0 128 191 pl ((bs.drop pl).take (en - pl))=R)∨(en<pl∧R=some en)),⟨en - st,rfl,st,rfl,rfl,.inl ⟨h1,hR⟩⟩,?_⟩
  rintro n σ H1 ⟨rfl,pl,rfl,hn,hcase⟩
  refine ⟨_,rfl,_,rfl,ex2 _ _ ⟨rfl,rfl,_,rfl,?_⟩⟩
  by_cases hlt:pl<en
  ·rw [ag (show (pl:Int)<(en:Int) by omega)]
   refine cK ⟨_,fun σ' G' h=>h,?_⟩
   have hrun:Um.urun 0 128 191 pl ((bs.drop pl).take (en - pl))=R:=by
    rcases hcase with h | h
    ·exact h.2
    ·omega
   have lt:pl<bs.length:=by omega
   have eb:bs[pl]? = some bs[pl]:=aJ lt
   have ed:(bs.drop pl).take (en - pl)=bs[pl]::(bs.drop (pl+1)).take (en - (pl+1)):=by
    rw [bj lt,show en - pl=(en - (pl+1))+1 by omega,eK]
   rw [ed] at hrun;generalize bs[pl]=c at eb hrun;unfold Um.urun at hrun;rw [if_neg (bK 0)] at hrun;refine ⟨_,rfl,_,rfl,a,_,_,bv c,rfl,rfl,hs,gI (by rw [bq,eb];rfl),ex2 _ _ ⟨rfl,rfl,_,rfl,?_⟩⟩
   by_cases hc:128≤c.toNat
   ·rw [af (show ¬(c.toNat:Int)<(128:Int) by omega)]
    rw [if_pos hc] at hrun;refine cA ⟨_,rfl,_,rfl,_,rfl,ex5 a pl en c bs ⟨rfl,hs,eb,hlt,h2,h3,?_⟩⟩
    unfold yD;by_cases h0:Um.cf c.toNat=0
    ·rw [if_pos h0] at hrun;rw [if_pos h0];subst hrun;exact q
    ·rw [if_neg h0,Um.urun_further] at hrun;rw [if_neg h0];cases hf:Um.fbad (Um.ls c.toNat) (Um.hs c.toNat) (pl+1) (((bs.drop (pl+1)).take (en - (pl+1))).take (Um.cf c.toNat)) with
     | some z =>
      rw [hf] at hrun;have hrun:some z=R:=hrun
      subst hrun;exact q
     | none =>
      rw [hf] at hrun;have lsg:((bs.drop (pl+1)).take (en - (pl+1))).length=en - (pl+1):=by rw [aH,ay];omega
      have hrun:(if ((bs.drop (pl+1)).take (en - (pl+1))).length<Um.cf c.toNat then some (pl+1+((bs.drop (pl+1)).take (en - (pl+1))).length) else Um.urun 0 128 191 (pl+1+Um.cf c.toNat) (((bs.drop (pl+1)).take (en - (pl+1))).drop (Um.cf c.toNat)))=R:=hrun
      refine ⟨en - (pl+1+Um.cf c.toNat),by omega,rfl,pl+1+Um.cf c.toNat,rfl,rfl,?_⟩
      rw [lsg] at hrun;by_cases hl:en - (pl+1)<Um.cf c.toNat
      ·rw [if_pos hl,show pl+1+(en - (pl+1))=en by omega] at hrun
       exact .inr ⟨by omega,hrun.symm⟩
      ·rw [if_neg hl] at hrun;refine .inl ⟨by omega,?_⟩
       rw [List.drop_take,bO,show en - (pl+1) - Um.cf c.toNat=en - (pl+1+Um.cf c.toNat) by omega] at hrun
       exact hrun
   ·rw [ag (show (c.toNat:Int)<(128:Int) by omega)]
    rw [if_neg hc] at hrun;refine cK ⟨_,rfl,ex2 _ _ ⟨rfl,rfl,?_⟩⟩
    refine ⟨en - (pl+1),by omega,rfl,pl+1,rfl,rfl,.inl ⟨by omega,hrun⟩⟩
  ·rw [af (show ¬(pl:Int)<(en:Int) by omega)]
   refine cA ⟨_,rfl,_,rfl,ex2 _ _ ⟨rfl,rfl,_,rfl,?_⟩⟩
   rcases hcase with ⟨h,hrun⟩ | ⟨h,hrun⟩
   ·have e0:pl=en:=by omega
    subst e0;rw [Nat.sub_self,dF] at hrun;have hrun:none=R:=hrun
    subst hrun;rw [af (show ¬(pl:Int)<(pl:Int) by omega)]
    exact cA q
   ·subst hrun;rw [ag (show (en:Int)<(pl:Int) by omega)]
    exact cK ⟨_,rfl,ex2 _ _ ⟨rfl,q⟩⟩
abbrev PD:=Pm.PD
abbrev PT:=Pm.PT
def pf (d:PD) (n l:Addr):List (Str×V):=[("kind",.int (d.kind:Int)),("place",.int (d.place:Int)),("inside",.int (d.ins:Int)),("end",.int (d.fin:Int)),("size",.int (d.size:Int)),("depth",.int (d.depth:Int)),
 ("name_place",.int (d.np:Int)),("name",.ref n),("members",.ref l)]
def gu (CP:Addr) (H:Hp) (a:Addr) (d:PD) (n l:Addr):Prop:=∃ dx,H a=some (.ins CP dx (pf d n l))
structure TxP (K:Fg_) (mg:Str→Option Value) (CP:Addr):Prop where
 cP:Cls K CP
 nKi:cV K CP "kind"
 nPl:cV K CP "place"
 nIn:cV K CP "inside"
 nEn:cV K CP "end"
 nSi:cV K CP "size"
 nDe:cV K CP "depth"
 nNp:cV K CP "name_place"
 nNl:cV K CP "name"
 nMe:cV K CP "members"
 ln:GI mg "LONGEST_NAME" 255
 e6:GI mg "WRONG_NAME" 6
def Kp2 (H H':Hp) (r m:Addr):Prop:=∀ b o,H b=some o→b≠r→b≠m→H' b=some o
theorem nJ {CP CR:Addr} {G:Hp} {a n l r b dx:Addr} {d:PD} {p:Nat} (h:G a=some (.ins CP dx (pf d n l))) (h':eS CR G r b p):a≠r:=by
 obtain ⟨dy,h'⟩:=h'
 exact cQ h h' (by intro z;injection z with _ _ z3;exact absurd (congrArg List.length z3) (by show ¬9=2;decide))
structure TxN (mg:Str→Option Value):Prop where
 ln:GI mg "LONGEST_NUMBER" 4096
 e4:GI mg "WRONG_NUMBER" 4
 tx:GI mg "TEXT" 4
def xT (K:Fg_) (CF CR CP:Addr):Sp:=fun vs H Q E=>∃ (r a m nm lm:Addr) (p:Nat) (d:PD) (bs:List UInt8),vs=[.ref r,.ref m]∧eS CR H r a p∧SqL K H a (bs.map bv)∧gu CP H m d nm lm∧p≤bs.length ∧
 Out E CF (Hm.numAt d.place p (bs.drop p)) fun (x:Nat×Nat)=>∀ H':Hp,eS CR H' r a (p+x.1+x.2)→gu CP H' m { d with ins:=p+x.1 } nm lm→Kp2 H H' r m→Q .non H'
def xR (K:Fg_) (CF CR CP:Addr):Sp:=fun vs H Q E=>∃ (r a m nm lm:Addr) (p:Nat) (d:PD) (bs:List UInt8),vs=[.ref r,.ref m]∧eS CR H r a p∧SqL K H a (bs.map bv)∧gu CP H m d nm lm∧p≤bs.length∧bs.length≤65536 ∧
 Out E CF (Hm.strAt (decide (d.kind=4)) p (bs.drop p)) fun (x:Nat×Nat)=>∀ H':Hp,eS CR H' r a (p+x.2+x.1)→gu CP H' m { d with size:=x.1,ins:=p+x.2 } nm lm→Kp2 H H' r m→Q .non H'
theorem rE {tA tB:TT} {σ:St} {H:Hp} {Q:Bool→Hp→Prop} {a b:Bool} (ha:∀ Q':Bool→Hp→Prop,Q' a H→tA σ H Q') (hb:a=true→∀ Q':Bool→Hp→Prop,Q' b H→tB σ H Q') (q:Q (a&&b) H):xp tA tB σ H Q:=by
 refine ha _ ?_
 cases a with
 | true=>exact cK (hb rfl _ q)
 | false=>exact cA q
theorem xi {tA tB:TT} {σ:St} {H:Hp} {Q:Bool→Hp→Prop} {a b:Bool} (ha:∀ Q':Bool→Hp→Prop,Q' a H→tA σ H Q') (hb:a=false→∀ Q':Bool→Hp→Prop,Q' b H→tB σ H Q') (q:Q (a||b) H):tOr tA tB σ H Q:=by
 refine ha _ ?_
 cases a with
 | true=>exact cK q
 | false=>exact cA (hb rfl _ q)
theorem ux {tA tB:TT} {t u rest:TS} {D:iW} {σ:St} {H:Hp} {a b:Bool} (ha:∀ Q':Bool→Hp→Prop,Q' a H→tA σ H Q') (hb:a=false→∀ Q':Bool→Hp→Prop,Q' b H→tB σ H Q')
  (q:if (a||b)=true then t { D with nx:=rest D } σ H else u { D with nx:=rest D } σ H):tSeq (xo (tOr tA tB) t u) rest D σ H :=
 xi (tA:=tA) (tB:=tB) (Q:=fun c H1=>if c=true then t { D with nx:=rest D } σ H1 else u { D with nx:=rest D } σ H1) ha hb q
theorem yV {tA tB:TT} {t u:TS} {D:iW} {σ:St} {H:Hp} {a b:Bool} (ha:∀ Q':Bool→Hp→Prop,Q' a H→tA σ H Q') (hb:a=true→∀ Q':Bool→Hp→Prop,Q' b H→tB σ H Q')
  (q:if (a&&b)=true then t D σ H else u D σ H):xo (xp tA tB) t u D σ H :=
 rE (tA:=tA) (tB:=tB) (Q:=fun c H1=>if c=true then t D σ H1 else u D σ H1) ha hb q
theorem iz {x y:Int}:decide (V.int x=V.int y)=decide (x=y):=by
 by_cases h:x=y
 ·rw [h,ag rfl,ag rfl]
 ·rw [af h,af (fun z=>h (by injection z))]
section
variable {P:Program} {w:World} {K:Fg_} {mg:Str→Option Value} {base:Heap} {CF CR CP fFI:Addr}
theorem vI:ba ["reader","part","told","length","below_0"] ["reader","part"] (aQ sPN):=fs_
structure vh (P:Program) (w:World) (K:Fg_) (mg:Str→Option Value) (base:Heap) (CF CR fRV fPB fRB:Addr) (fdV fdP fdB:FuncData):Prop where
 gV:bt P w K mg base (CXF P w) 5 fRV fdV ["self"] (xD K CF CR)
 bV:cB K fdV ["self"] []
 mV:qh K CR "read_varying" fRV
 gP:bt P w K mg base (CXF P w) 3 fPB fdP ["self","how_many"] (xV K CF CR)
 bP:cB K fdP ["self","how_many"] []
 mP:qh K CR "pass_bytes" fPB
 gB:bt P w K mg base (CXF P w) 4 fRB fdB ["self"] (vq K CF CR)
 bB:cB K fdB ["self"] []
 mB:qh K CR "read_byte" fRB
variable {fRV fPB fRB:Addr} {fdV fdP fdB:FuncData}
theorem ok_PN {f:Addr} {fd fdI:FuncData} (F:Fun K "pass_number" "pass_number" sPN f fd) (T:TxR K mg CF CR fFI) (TP:TxP K mg CP) (N:TxN mg) (GI:bt P w K mg base CX0 1 fFI fdI ["self","kind","place"] (ki CF)) (bI:cB K fdI ["self","kind","place"] [])
  (R:vh P w K mg base CF CR fRV fPB fRB fdV fdP fdB):bt P w K mg base (CXF P w) 6 f fd ["reader","part"] (xT K CF CR CP):=by
 refine okX F vI (fun vs H Q E h=>?_) (fun cdv A outer s H vs Q E hr h=>?_)
 ·obtain ⟨r,a,m,nm,lm,p,d,bs,rfl,_⟩:=h
  rfl
 ·obtain ⟨r,a,m,nm,lm,p,d,bs,rfl,⟨dx,hr1⟩,hs,⟨xm,hm⟩,hp,q⟩:=h
  have hr2:cq 2 _:=hr.mono (by decide)
  have hr3:cq 3 _:=hr.mono (by decide)
  refine ⟨_,aq (bb (i:=2) vI.nd rfl (.inl rfl) (gj (pv 0) T.cR R.mV R.gV hr R.bV .nil di))
   (aq (bb (i:=3) vI.nd rfl (.inl rfl) (cY oC (pv 2) aX))
   (aq (bb (i:=4) vI.nd rfl (.inl rfl) (iw dR (cY oB (pv 2) aX) aX (bw _)))
   (aq (ck (PW.pt (kZ (bh iH (pv 3) (pgi N.ln rfl) (bw _)) (jh (PW.pt (kq (bh dR (pv 3) aX (bw _)) (i9 (eB (pv 4) (fun _=>rfl))))))))
    (aE (dI T.xc GI bI hr2 cC rfl rfl T.mF (ae (pgi N.e4 rfl) (ae (aV (pv 1) rfl) aD)))) bE)
   (aq (cJ (pv 1) (jE (pv 0) T.cR R.mP R.gP hr3 R.bP .nil di (ae (pv 3) aD)) rfl)
   (aE (ck (PW.pt (kq (bh iH (pv 3) aX (bw _)) (i9 (bh dR (dE cg (aV (pv 0) rfl) (cY gk (aV (pv 0) rfl) aX) (fun _ _=>rfl)) aX (bw _)))))
    (aE (dI T.xc GI bI hr2 cC rfl rfl T.mF (ae (pgi N.e4 rfl) (ae (aV (pv 1) rfl) aD)))) bE)))))),?_⟩
  try dsimp only [cD];have nmr:m≠r:=nJ hm ⟨dx,hr1⟩
  refine ⟨_,rfl,ex3 r dx _ ⟨rfl,hr1,iF a p (by decide +kernel) (by decide +kernel),r,a,p,bs,rfl,⟨dx,hr1⟩,hs,hp,?_⟩⟩
  unfold Hm.numAt at q;cases ev:Sw.varyOf p (bs.drop p) with
  | error e =>
   rw [ev] at q;exact q
  | ok zl =>
   obtain ⟨z,l⟩:=zl
   rw [ev] at q;obtain ⟨u1,u2,u3,u4⟩:=Vm.vary_used ev
   rw [ay] at u2;rintro H1 ⟨dx1,h1⟩ k1
   have sq1:=iE hs k1 hr1
   have hm1:=k1 _ _ hm nmr
   have ez:((z:Int) / 2)=((z / 2:Nat):Int):=by omega
   refine ⟨_,rfl,ex2 _ _ ⟨rfl,rfl,⟨by decide,by decide⟩,?_⟩⟩
   refine ⟨_,rfl,ex2 _ _ ⟨rfl,rfl,(by show (0:Int)<2;decide),rfl,?_⟩⟩
   dsimp only at q;dsimp only [si];refine ux (fun Q' h=>⟨_,rfl,ex2 _ _ ⟨rfl,rfl,_,rfl,h⟩⟩) (fun _ Q' h=>rE (fun Q' h=>⟨_,rfl,rfl,_,rfl,h⟩) (fun _ Q' h=>⟨_,rfl,_,rfl,h⟩) h) ?_
   rw [iz,iz];refine jm (fun c=>?_) (fun c=>?_)
   ·refine ⟨_,rfl,ex5 m CP xm _ _ ⟨rfl,hm1,TP.cP,TP.nPl,rfl,ex2 _ _ ⟨rfl,?_⟩⟩⟩
    simp only [dc,aC,bo] at c;by_cases c1:Sw.NUMBER<z / 2
    ·rw [if_pos c1] at q;exact q
    ·have c1':¬4096<z / 2:=c1
     have z1:z=1:=by omega
     rw [if_neg c1,Hm.some_of (by omega)] at q
     dsimp only at q;rw [if_pos (.inr z1)] at q;exact q
   ·simp only [dc,aC,bo,not_or,not_and] at c;have c1:¬Sw.NUMBER<z / 2:=by
     show ¬4096<z / 2
     omega
    have z1:¬z=1:=by omega
    rw [if_neg c1] at q;refine ⟨_,rfl,ex3 r dx1 _ ⟨rfl,h1,iF a (p+l) (by decide +kernel) (by decide +kernel),_,rfl,r,a,p+l,z / 2,bs,by rw [ez];rfl,⟨dx1,h1⟩,sq1,by omega,?_⟩⟩
    by_cases c2:bs.length - (p+l)<z / 2
    ·rw [if_pos c2];rw [Hm.some_no (by rw [ay,ay];omega)] at q
     have e3:p+l+((bs.drop p).drop l).length=bs.length:=by rw [ay,ay];omega
     have q':Err E CF (.int 1) (.int ((p+l+((bs.drop p).drop l).length:Nat):Int)):=q
     rw [e3] at q'
     exact q'
    ·rw [if_neg c2];have hle:z / 2≤((bs.drop p).drop l).length:=by rw [ay,ay];omega
     rw [Hm.some_of hle] at q;dsimp only at q;rintro H2 ⟨dx2,h2⟩ k2
     have sq2:=iE sq1 k2 h1
     have hm2:=k2 _ _ hm1 nmr
     refine ⟨_,rfl,m,CP,xm,_,rfl,hm2,TP.cP,TP.nIn,(by show 9<1000;decide),?_⟩
     generalize hH3:upd H2 m (.ins CP xm (eJ "inside" (.int ((p+l:Nat):Int)) (pf d nm lm)))=H3;have hm3:H3 m=some (.ins CP xm (pf { d with ins:=p+l } nm lm)):=by rw [←hH3,aA];rfl
     have k3:∀ b o,H2 b=some o→b≠m→H3 b=some o:=fun b o e n=>by rw [←hH3,ai n];exact e
     have h3:=k3 _ _ h2 (Ne.symm nmr)
     have sq3:SqL K H3 a (bs.map bv):=iE (r:=m) sq2 (fun b o e n=>k3 b o e n) hm2
     have kk:Kp2 H H3 r m:=fun b o e n1 n2=>k3 b o (k2 b o (k1 b o e n1) n1) n2
     by_cases c3:0<z / 2
     ·have eL:(((bs.drop p).drop l).take (z / 2)).getLast? = bs[p+l+z / 2 - 1]?:=by
       rw [Hm.last_of hle c3,bO,eT];congr 1
       omega
      have lt:p+l+z / 2 - 1<bs.length:=by omega
      have eb:bs[p+l+z / 2 - 1]? = some bs[p+l+z / 2 - 1]:=aJ lt
      generalize bs[p+l+z / 2 - 1]=c at eb;have ei:((p+l+z / 2:Nat):Int) - 1=((p+l+z / 2 - 1:Nat):Int):=by omega
      dsimp only;refine yV (fun Q' h=>⟨_,rfl,_,_,rfl,rfl,_,rfl,h⟩) (fun _ Q' h=>⟨_,rfl,r,CR,dx2,_,_,rfl,h3,T.cR,T.nRow,gJ a _,_,rfl,r,CR,dx2,_,_,rfl,h3,T.cR,T.nPl,de a _,_,_,rfl,rfl,
       a,_,_,bv c,rfl,rfl,sq3,vc ei (by rw [bq,eb];rfl),rfl,_,rfl,h⟩) ?_
      rw [ag (show (0:Int)<(z:Int) / 2 by omega),Bool.true_and]
      have c0:(V.int (c.toNat:Int)=V.int 0)↔c=0:=by
       constructor
       ·intro hh0;injection hh0 with hh0;exact UInt8.toNat_inj.mp (by show c.toNat=0;omega)
       ·intro hh0;rw [hh0];rfl
      by_cases c4:c=0
      ·rw [ag (show bv c=V.int 0 from c0.mpr c4)];rw [if_pos (.inl (by rw [eL,eb,c4]))] at q
       exact cK ⟨_,rfl,ex5 m CP xm _ _ ⟨rfl,hm3,TP.cP,TP.nPl,rfl,ex2 _ _ ⟨rfl,q⟩⟩⟩
      ·rw [af (show ¬bv c=V.int 0 from fun h=>c4 (c0.mp h))]
       rw [if_neg (fun h=>h.elim (fun h=>c4 (a8 ((eL.trans eb).symm.trans h))) z1)] at q
       exact cA (q H3 ⟨dx2,h3⟩ ⟨xm,hm3⟩ kk)
     ·have z0:z / 2=0:=by omega
      refine ⟨_,rfl,ex2 _ _ ⟨rfl,rfl,_,rfl,?_⟩⟩
      rw [af (show ¬(0:Int)<(z:Int) / 2 by omega)]
      rw [if_neg (fun h=>h.elim (fun h=>by rw [z0,dF] at h;cases h) z1)] at q
      exact cA (cA (q H3 ⟨dx2,h3⟩ ⟨xm,hm3⟩ kk))
end
def vw (K:Fg_) (CP:Addr):Sp:=fun vs H Q _=>∃ (a m n l:Addr) (d:PD) (bs:List UInt8),vs=[.ref a,.ref m]∧SqL K H a (bs.map bv)∧gu CP H m d n l∧d.ins≤d.fin∧d.fin≤bs.length ∧
 ∀ x,H x=none→Q (.ref x) (upd H x (.lst (((bs.drop d.ins).take (d.fin - d.ins)).map bv)))
def pd (CP:Addr) (H:Hp) (ms:List Addr) (prev:Option (List UInt8)):Prop:=match ms.getLast? with
 | none=>prev=none
 | some m=>∃ d n l q,gu CP H m d n l∧H n=some (.lst (q.map bv))∧prev=some q
def xJ (K:Fg_) (CF CR CP:Addr):Sp:=fun vs H Q E=>∃ (r a h n l:Addr) (p:Nat) (bs:List UInt8) (d:PD) (ms:List Addr) (prev:Option (List UInt8)),vs=[.ref r,.ref h]∧eS CR H r a p∧SqL K H a (bs.map bv)∧p≤bs.length∧bs.length≤65536 ∧
 gu CP H h d n l∧H l=some (.lst (ms.map V.ref))∧pd CP H ms prev∧(∀ m∈ms,m≠r) ∧
 Out E CF (Hm.nameAt prev p (bs.drop p)) fun (x:Nat×Nat)=>∀ H':Hp,eS CR H' r a (p+x.2+x.1)→Kp H H' r→Q (.int ((p+x.2:Nat):Int)) H'
theorem scPR:ba ["reader","part"] ["reader","part"] (aQ sPR):=fs_
theorem ok_PR {f fCU:Addr} {fd fdU:FuncData} (F:Fun K "pass_row" "pass_row" sPR f fd) (T:TxR K mg CF CR fFI) (TP:TxP K mg CP) (N:TxN mg) (R:vh P w K mg base CF CR fRV fPB fRB fdV fdP fdB)
  (GU:Co P w K mg base (CXF P w) 4 fCU fdU ["row","start","end"] (vx K CF) "check_utf8") :
  bt P w K mg base (CXF P w) 6 f fd ["reader","part"] (xR K CF CR CP):=by
 refine okX F scPR (fun vs H Q E h=>?_) (fun cdv A outer s H vs Q E hr h=>?_)
 ·obtain ⟨r,a,m,nm,lm,p,d,bs,rfl,_⟩:=h
  rfl
 ·obtain ⟨r,a,m,nm,lm,p,d,bs,rfl,⟨dx,hr1⟩,hs,⟨xm,hm⟩,hp,hz,q⟩:=h
  have hr3:cq 3 _:=hr.mono (by decide)
  have hr4:cq 4 _:=hr.mono (by decide)
  refine ⟨_,aq (cJ (pv 1) (gj (pv 0) T.cR R.mV R.gV hr R.bV .nil di) rfl)
   (aq (cJ (pv 1) (jE (pv 0) T.cR R.mP R.gP hr3 R.bP .nil di (ae (aV (pv 1) rfl) aD)) rfl)
   (aE (ck (bh dR (aV (pv 1) rfl) (pgi N.tx rfl) (bw _)) (aE (cE (bJ GU hr4 rfl di (ae (aV (pv 0) rfl) (ae (aV (pv 1) rfl) (ae (aV (pv 0) rfl) aD)))))) bE))),?_⟩
  try dsimp only [cD];have nmr:m≠r:=nJ hm ⟨dx,hr1⟩
  refine ⟨_,rfl,ex3 r dx _ ⟨rfl,hr1,iF a p (by decide +kernel) (by decide +kernel),r,a,p,bs,rfl,⟨dx,hr1⟩,hs,hp,?_⟩⟩
  unfold Hm.strAt at q;cases ev:Sw.varyOf p (bs.drop p) with
  | error e =>
   rw [ev] at q;exact q
  | ok zl =>
   obtain ⟨n,l⟩:=zl
   rw [ev] at q;obtain ⟨u1,u2,u3,u4⟩:=Vm.vary_used ev
   rw [ay] at u2;rintro H1 ⟨dx1,h1⟩ k1
   have sq1:=iE hs k1 hr1
   have hm1:=k1 _ _ hm nmr
   dsimp only at q;refine ⟨_,rfl,m,CP,xm,_,rfl,hm1,TP.cP,TP.nSi,(by show 9<1000;decide),?_⟩
   generalize hH2:upd H1 m (.ins CP xm (eJ "size" (.int (n:Int)) (pf d nm lm)))=H2;have hm2:H2 m=some (.ins CP xm (pf { d with size:=n } nm lm)):=by rw [←hH2,aA];rfl
   have k2:∀ b o,H1 b=some o→b≠m→H2 b=some o:=fun b o e n=>by rw [←hH2,ai n];exact e
   have h2:=k2 _ _ h1 (Ne.symm nmr)
   have sq2:SqL K H2 a (bs.map bv):=iE (r:=m) sq1 (fun b o e n=>k2 b o e n) hm1
   refine ⟨_,rfl,ex3 r dx1 _ ⟨rfl,h2,iF a (p+l) (by decide +kernel) (by decide +kernel),_,rfl,ex5 m CP xm _ _ ⟨rfl,hm2,TP.cP,TP.nSi,rfl,r,a,p+l,n,bs,rfl,⟨dx1,h2⟩,sq2,by omega,?_⟩⟩⟩
   by_cases c2:bs.length - (p+l)<n
   ·rw [if_pos c2];rw [Hm.some_no (by rw [ay,ay];omega)] at q
    have e3:p+l+((bs.drop p).drop l).length=bs.length:=by rw [ay,ay];omega
    have q':Err E CF (.int 1) (.int ((p+l+((bs.drop p).drop l).length:Nat):Int)):=q
    rw [e3] at q'
    exact q'
   ·rw [if_neg c2];have hle:n≤((bs.drop p).drop l).length:=by rw [ay,ay];omega
    rw [Hm.some_of hle] at q;dsimp only at q;rintro H3 ⟨dx3,h3⟩ k3
    have sq3:=iE sq2 k3 h2
    have hm3:=k3 _ _ hm2 nmr
    refine ⟨_,rfl,m,CP,xm,_,rfl,hm3,TP.cP,TP.nIn,(by show 9<1000;decide),?_⟩
    generalize hH4:upd H3 m (.ins CP xm (eJ "inside" (.int ((p+l:Nat):Int)) (pf { d with size:=n } nm lm)))=H4
    have hm4:H4 m=some (.ins CP xm (pf { d with size:=n,ins:=p+l } nm lm)):=by rw [←hH4,aA];rfl
    have k4:∀ b o,H3 b=some o→b≠m→H4 b=some o:=fun b o e n=>by rw [←hH4,ai n];exact e
    have h4:=k4 _ _ h3 (Ne.symm nmr)
    have sq4:SqL K H4 a (bs.map bv):=iE (r:=m) sq3 (fun b o e n=>k4 b o e n) hm3
    have kk:Kp2 H H4 r m:=fun b o e n1 n2=>k4 b o (k3 b o (k2 b o (k1 b o e n1) n2) n1) n2
    refine ⟨_,rfl,ex5 m CP xm _ _ ⟨rfl,hm4,TP.cP,TP.nKi,rfl,rfl,_,rfl,?_⟩⟩
    rw [iz];by_cases c3:d.kind=4
    ·rw [ag (show (d.kind:Int)=4 by omega)]
     rw [if_pos (ag c3)] at q;refine cK ?_
     refine ⟨_,rfl,ex5 r CR dx3 _ _ ⟨rfl,h4,T.cR,T.nRow,gJ a _,_,rfl,ex5 m CP xm _ _ ⟨rfl,hm4,TP.cP,TP.nIn,rfl,_,rfl,ex5 r CR dx3 _ _ ⟨rfl,h4,T.cR,T.nPl,de a _,a,p+l,p+l+n,bs,rfl,sq4,by omega,by omega,hz,?_⟩⟩⟩⟩
     have tr:=Um.text_run (p+l) (((bs.drop p).drop l).take n)
     rw [bO] at tr q;rw [show p+l+n - (p+l)=n by omega]
     cases et:Sw.textOf (p+l) ((bs.drop (p+l)).take n) with
     | error e =>
      rw [et] at tr q;obtain ⟨t1,t2⟩:=tr
      rw [t2];have q':Err E CF (.int (e.kind:Int)) (.int (e.place:Int)):=q
      rw [t1] at q'
      exact q'
     | ok t =>
      rw [et] at tr q;rw [tr];exact q H4 ⟨dx3,h4⟩ ⟨xm,hm4⟩ kk
    ·rw [af (show ¬(d.kind:Int)=4 by omega)]
     rw [if_neg (by rw [af c3];exact aI)] at q
     exact cA (q H4 ⟨dx3,h4⟩ ⟨xm,hm4⟩ kk)
theorem vG:ba ["reader","holder","told_at","length","first"] ["reader","holder"] (aQ sRN):=fs_
theorem ok_RN {f fCU:Addr} {fd fdI fdU:FuncData} (F:Fun K "read_name" "read_name" sRN f fd) (T:TxR K mg CF CR fFI) (TP:TxP K mg CP) (GI:bt P w K mg base CX0 1 fFI fdI ["self","kind","place"] (ki CF)) (bI:cB K fdI ["self","kind","place"] [])
  (R:vh P w K mg base CF CR fRV fPB fRB fdV fdP fdB)
  (GU:Co P w K mg base (CXF P w) 4 fCU fdU ["row","start","end"] (vx K CF) "check_utf8") :
  bt P w K mg base (CXF P w) 6 f fd ["reader","holder"] (xJ K CF CR CP):=by
 refine okX F vG (fun vs H Q E h=>?_) (fun cdv A outer s H vs Q E hr h=>?_)
 ·obtain ⟨r,a,h,n,l,p,bs,d,ms,prev,rfl,_⟩:=h
  rfl
 ·obtain ⟨r,a,h,nh,ll,p,bs,d,ms,prev,rfl,⟨dx,hr1⟩,hs,hp,hz,⟨dh,hh⟩,hl,hlast,hne,q⟩:=h
  have hr1':cq 1 _:=hr.mono (by decide)
  have hr2:cq 2 _:=hr.mono (by decide)
  have hr3:cq 3 _:=hr.mono (by decide)
  have hr4:cq 4 _:=hr.mono (by decide)
  refine ⟨_,aq (bb (i:=2) vG.nd rfl (.inl rfl) (aV (pv 0) rfl))
   (aq (bb (i:=3) vG.nd rfl (.inl rfl) (gj (pv 0) T.cR R.mV R.gV hr R.bV .nil di))
   (aq (ck (PW.pt (kZ (bh dR (pv 3) aX (bw _)) (jh (bh iH (pv 3) (pgi TP.ln rfl) (bw _)))))
    (aE (dI T.xc GI bI hr2 cC rfl rfl T.mF (ae (pgi TP.e6 rfl) (ae (pv 2) aD)))) bE)
   (aq (bb (i:=4) vG.nd rfl (.inl rfl) (jE (pv 0) T.cR R.mP R.gP hr3 R.bP .nil di (ae (pv 3) aD)))
   (aq (cE (bJ GU hr4 rfl di (ae (aV (pv 0) rfl) (ae (pv 4) (ae (aV (pv 0) rfl) aD)))))
   (aq (ck (PW.pt (kq (eB (aV (pv 1) rfl) (fun _=>rfl)) (i9 (bh (yJ hr.units0) (gi ik (aV (pv 0) rfl) (eY (pv 4)) (eY (aV (pv 0) rfl))) (aV (dE cg (aV (pv 1) rfl) (dY dk aX) (fun _ _=>rfl)) rfl) (bw _)))))
     (aE (dI T.xc GI bI hr2 cC rfl rfl T.mF (ae (pgi TP.e6 rfl) (ae (pv 2) aD)))) bE)
   (aE (br (pv 4)))))))),?_⟩
  try dsimp only [cD];have nhr:h≠r:=cQ hh hr1 (by intro z;injection z with _ _ z3;exact absurd (congrArg List.length z3) (by show ¬9=2;decide))
  have nlr:ll≠r:=cQ hl hr1 (by intro z;cases z)
  refine ⟨_,rfl,ex5 r CR dx _ _ ⟨rfl,hr1,T.cR,T.nPl,de a p,?_⟩⟩
  refine ⟨_,rfl,ex3 r dx _ ⟨rfl,hr1,iF a p (by decide +kernel) (by decide +kernel),r,a,p,bs,rfl,⟨dx,hr1⟩,hs,hp,?_⟩⟩
  unfold Hm.nameAt at q;cases ev:Sw.varyOf p (bs.drop p) with
  | error e =>
   rw [ev] at q;exact q
  | ok zl =>
   obtain ⟨k,l⟩:=zl
   rw [ev] at q;obtain ⟨u1,u2,u3,u4⟩:=Vm.vary_used ev
   rw [ay] at u2;rintro H1 ⟨dx1,h1⟩ k1
   have sq1:=iE hs k1 hr1
   dsimp only at q;dsimp only [si];refine ux (fun Q' h=>⟨_,rfl,rfl,_,rfl,h⟩) (fun _ Q' h=>⟨_,rfl,ex2 _ _ ⟨rfl,rfl,_,rfl,h⟩⟩) ?_
   rw [iz];refine jm (fun c=>?_) (fun c=>?_)
   ·refine ⟨_,rfl,ex2 _ _ ⟨rfl,?_⟩⟩
    simp only [dc,bo] at c;rw [if_pos (by show k=0∨255<k;omega)] at q
    exact q
   ·simp only [dc,bo,not_or] at c;rw [if_neg (by show ¬(k=0∨255<k);omega)] at q
    refine ⟨_,rfl,ex3 r dx1 _ ⟨rfl,h1,iF a (p+l) (by decide +kernel) (by decide +kernel),_,rfl,r,a,p+l,k,bs,rfl,⟨dx1,h1⟩,sq1,by omega,?_⟩⟩
    by_cases c2:bs.length - (p+l)<k
    ·rw [if_pos c2];rw [Hm.some_no (by rw [ay,ay];omega)] at q
     have e3:p+l+((bs.drop p).drop l).length=bs.length:=by rw [ay,ay];omega
     have q':Err E CF (.int 1) (.int ((p+l+((bs.drop p).drop l).length:Nat):Int)):=q
     rw [e3] at q'
     exact q'
    ·rw [if_neg c2];have hle:k≤((bs.drop p).drop l).length:=by rw [ay,ay];omega
     rw [Hm.some_of hle] at q;dsimp only at q;rintro H2 ⟨dx2,h2⟩ k2
     have sq2:=iE sq1 k2 h1
     have k12:=k1.trans k2
     have hh2:=k12 _ _ hh nhr
     have hl2:=k12 _ _ hl nlr
     refine ⟨_,rfl,ex5 r CR dx2 _ _ ⟨rfl,h2,T.cR,T.nRow,gJ a _,_,rfl,_,rfl,ex5 r CR dx2 _ _ ⟨rfl,h2,T.cR,T.nPl,de a _,a,p+l,p+l+k,bs,rfl,sq2,by omega,by omega,hz,?_⟩⟩⟩
     have tr:=Um.text_run (p+l) (((bs.drop p).drop l).take k)
     rw [bO] at tr q;rw [show p+l+k - (p+l)=k by omega]
     cases et:Sw.textOf (p+l) ((bs.drop (p+l)).take k) with
     | error e =>
      rw [et] at tr q;obtain ⟨t1,t2⟩:=tr
      rw [t2];have q':Err E CF (.int (e.kind:Int)) (.int (e.place:Int)):=q
      rw [t1] at q'
      exact q'
     | ok t =>
      rw [et] at tr q;rw [tr];dsimp only at q;refine ⟨_,rfl,ex5 h CP dh _ _ ⟨rfl,hh2,TP.cP,TP.nMe,rfl,_,.inl ⟨_,SqL.of hl2,rfl⟩,?_⟩⟩
      unfold pd at hlast;cases eg:ms.getLast? with
      | none =>
       rw [eg] at hlast;have em:ms=[]:=a9.mp eg
       subst em;subst hlast;rw [if_neg (show ¬true=false from fun z=>nomatch z)] at q
       exact cA (cA ⟨_,rfl,q H2 ⟨dx2,h2⟩ k12⟩)
      | some m =>
       rw [eg] at hlast;obtain ⟨dm,nn,lm,qn,⟨xm,hm⟩,hnn,ep⟩:=hlast
       have mm:m∈ms:=List.mem_of_getLast? eg
       have hm2:=k12 _ _ hm (hne m mm)
       have hn2:=k12 _ _ hnn (cQ hnn hr1 (by intro z;cases z))
       obtain ⟨ms',em⟩:∃ ms',ms=ms'++[m]:=List.getLast?_eq_some_iff.mp eg
       subst em;rw [show (!((ms'++[m]).map V.ref).isEmpty)=true by simp]
       subst ep;refine cK ?_
       refine ⟨_,rfl,ex5 r CR dx2 _ _ ⟨rfl,h2,T.cR,T.nRow,gJ a _,_,rfl,_,rfl,_,rfl,ex5 r CR dx2 _ _ ⟨rfl,h2,T.cR,T.nPl,de a _,_,rfl,ex2 a _ ⟨rfl,sq2,fun x hx=>?_⟩⟩⟩⟩
       rw [jb bs (p+l) k (by omega) rfl rfl]
       have nr:r≠x:=ah h2 hx
       have nm:m≠x:=ah hm2 hx
       refine ⟨_,rfl,ex5 h CP dh _ _ ⟨rfl,(ai (ah hh2 hx)).trans hh2,TP.cP,TP.nMe,rfl,_,rfl,ll,_,_,V.ref m,rfl,rfl,SqL.of ((ai (ah hl2 hx)).trans hl2),by rw [aL];exact eC _ _,?_⟩⟩
       refine ex5 m CP xm _ _ ⟨rfl,(ai nm).trans hm2,TP.cP,TP.nNl,rfl,?_⟩
       refine ⟨x,nn,dS ((bs.drop (p+l)).take k),dS qn,rfl,rfl,by rw [aA,jV],by rw [ai (ah hn2 hx),hn2,jV],_,rfl,?_⟩
       rw [nV];by_cases cb:Sw.bytesBefore qn ((bs.drop (p+l)).take k)=false
       ·rw [if_pos cb] at q;rw [cb];exact cK ⟨_,rfl,ex2 _ _ ⟨rfl,q⟩⟩
       ·rw [if_neg cb] at q;have cb':Sw.bytesBefore qn ((bs.drop (p+l)).take k)=true:=by
         cases hb:Sw.bytesBefore qn ((bs.drop (p+l)).take k) with
         | true=>rfl
         | false=>exact absurd hb cb
        rw [cb'];refine cA ⟨_,rfl,q _ ⟨dx2,by rw [ai nr];exact h2⟩ fun b o e n=>?_⟩
        have z:=k12 b o e n
        rw [ai (ah z hx)];exact z
structure TxB (mg:Str→Option Value) (CP:Addr):Prop where
 mP:mg "Part" = some (.ref CP)
 mx:mg "max" = none
 k2:GI mg "NUMBER" 2
 k3:GI mg "BYTES" 3
 k4:GI mg "TEXT" 4
 k5:GI mg "LIST" 5
 k6:GI mg "RECORD" 6
 k7:GI mg "MOMENT" 7
 k8:GI mg "IDENTITY" 8
 lk:GI mg "LAST_KIND" 8
 dp:GI mg "DEEPEST" 64
 ml:GI mg "MOMENT_LENGTH" 8
 il:GI mg "IDENTITY_LENGTH" 32
 e2:GI mg "WRONG_KIND" 2
 e7:GI mg "TOO_DEEP" 7
def xU (CP:Addr):Sp:=fun vs H Q _=>∃ (m dx:Addr) (k p:Nat),vs=[.ref m,.int (k:Int),.int (p:Int)]∧H m=some (.ins CP dx []) ∧
 ∀ (n l:Addr) (H':Hp),H n=none→H l=none→n≠m→l≠m→n≠l→gu CP H' m ⟨k,p,p+1,p,0,1,0,0⟩ n l→H' n=some (.lst [])→H' l=some (.lst [])→Kp H H' m→Q .non H'
def x9 (CP:Addr):Sp:=fun vs H Q _=>∃ (m n l:Addr) (d:PD) (ms:List Addr),vs=[.ref m]∧gu CP H m d n l∧H l=some (.lst (ms.map V.ref)) ∧
 ∀ H':Hp,bH H H'→Q (.bl (decide ((d.kind=5∨d.kind=6)∧ms.length<d.size))) H'
def yf (CP:Addr):Sp:=fun vs H Q _=>∃ (h m nh lh nm lm:Addr) (dh dm:PD),vs=[.ref h,.ref m]∧gu CP H h dh nh lh∧gu CP H m dm nm lm ∧
 ∀ H':Hp,gu CP H' h { dh with depth:=max dh.depth (dm.depth+1) } nh lh→Kp H H' h→Q .non H'
theorem scPI:ba ["self","kind","place"] ["self","kind","place"] (aQ sPI):=fs_
theorem ok_PI {f:Addr} {fd:FuncData} (F:Fun K "__init__" "Part.__init__" sPI f fd) (TP:TxP K mg CP):bt P w K mg base CX0 1 f fd ["self","kind","place"] (xU CP):=by
 refine F.ok scPI (fun vs H Q E h=>?_) (fun cdv A outer s H vs Q E hr h=>?_)
 ·obtain ⟨m,dx,k,p,rfl,_⟩:=h
  rfl
 ·obtain ⟨m,dx,k,p,rfl,hm,q⟩:=h
  refine ⟨_,aq (cJ (pv 0) (pv 1) rfl) (aq (cJ (pv 0) (pv 2) rfl) (aq (cJ (pv 0) (cY eZ (pv 2) aX) rfl) (aq (cJ (pv 0) (pv 2) rfl) (aq (cJ (pv 0) aX rfl) (aq (cJ (pv 0) aX rfl)
   (aq (cJ (pv 0) aX rfl) (aq (cJ (pv 0) (dP aD) rfl) (aE (cJ (pv 0) (dP aD) rfl))))))))),?_⟩
  try dsimp only [cD];refine ⟨_,rfl,_,rfl,m,CP,dx,[],rfl,hm,TP.cP,TP.nKi,(by show 0<1000;decide),?_⟩
  refine ⟨_,rfl,_,rfl,m,CP,dx,_,rfl,aA,TP.cP,TP.nPl,(by show 1<1000;decide),?_⟩
  refine ⟨_,rfl,_,_,rfl,rfl,_,rfl,m,CP,dx,_,rfl,aA,TP.cP,TP.nIn,(by show 2<1000;decide),?_⟩
  refine ⟨_,rfl,_,rfl,m,CP,dx,_,rfl,aA,TP.cP,TP.nEn,(by show 3<1000;decide),?_⟩
  refine ⟨_,rfl,m,CP,dx,_,rfl,aA,TP.cP,TP.nSi,(by show 4<1000;decide),?_⟩
  refine ⟨_,rfl,m,CP,dx,_,rfl,aA,TP.cP,TP.nDe,(by show 5<1000;decide),?_⟩
  refine ⟨_,rfl,m,CP,dx,_,rfl,aA,TP.cP,TP.nNp,(by show 6<1000;decide),?_⟩
  refine ⟨aW _,fun n hn=>?_⟩
  have nnm:n≠m:=fun z=>by rw [z,aA] at hn;cases hn
  refine ⟨_,rfl,m,CP,dx,_,rfl,by rw [ai (Ne.symm nnm)];exact aA,TP.cP,TP.nNl,(by show 7<1000;decide),?_⟩
  refine ⟨aW _,fun l hl=>?_⟩
  have nlm:l≠m:=fun z=>by rw [z,aA] at hl;cases hl
  have nnl:n≠l:=fun z=>by rw [←z,ai nnm,aA] at hl;cases hl
  refine ⟨_,rfl,m,CP,dx,_,rfl,by rw [ai (Ne.symm nlm)];exact aA,TP.cP,TP.nMe,(by show 8<1000;decide),?_⟩
  rw [ai nnm,ai nnm,ai nnm,ai nnm,ai nnm,ai nnm,ai nnm] at hn;rw [ai nlm,ai (Ne.symm nnl),ai nlm,ai nlm,ai nlm,ai nlm,ai nlm,ai nlm,ai nlm] at hl;refine q n l _ hn hl nnm nlm nnl ⟨dx,aA⟩ (by rw [ai nnm,ai nnl,ai nnm,aA]) (by rw [ai nlm,aA]) fun b o e n'=>?_
  have nbl:b≠l:=fun z=>by
   rw [z,hl] at e;cases e
  have nbn:b≠n:=fun z=>by
   rw [z,hn] at e;cases e
  rw [ai n',ai nbl,ai n',ai nbn,ai n',ai n',ai n',ai n',ai n',ai n',ai n'];exact e
theorem scLM:ba ["part"] ["part"] (aQ sLM):=fs_
theorem oQ {k a b:Nat}:inV (.int (k:Int)) [.int (a:Int),.int (b:Int)]=decide (k=a∨k=b):=by
 show ((((a:Int)==(k:Int))||((((b:Int)==(k:Int)))||false)))=_
 by_cases h1:k=a
 ·subst h1;rw [beq_self_eq_true,ag (.inl rfl)];rfl
 ·by_cases h2:k=b
  ·subst h2;rw [beq_self_eq_true,ag (.inr rfl),beq_eq_false_iff_ne.mpr (show (a:Int)≠(k:Int) by omega)]
   rfl
  ·rw [beq_eq_false_iff_ne.mpr (show (a:Int)≠(k:Int) by omega),beq_eq_false_iff_ne.mpr (show (b:Int)≠(k:Int) by omega),af (by omega)]
   rfl
theorem ok_LM {f:Addr} {fd:FuncData} (F:Fun K "lacks_members" "lacks_members" sLM f fd) (TP:TxP K mg CP) (B:TxB mg CP) (hlen:mg "len" = none):bt P w K mg base CX0 1 f fd ["part"] (x9 CP):=by
 refine F.ok scLM (fun vs H Q E h=>?_) (fun cdv A outer s H vs Q E hr h=>?_)
 ·obtain ⟨m,n,l,d,ms,rfl,_⟩:=h
  rfl
 ·obtain ⟨m,n,l,d,ms,rfl,⟨dx,hm⟩,hl,q⟩:=h
  refine ⟨_,aE (br (mw (iw gY (aV (pv 0) rfl) (mr (ae (pgi B.k5 rfl) (ae (pgi B.k6 rfl) aD))) (by with_unfolding_all rfl))
   (ox (iw iG (bM bW (by rfl) hlen a7 (ae (aV (pv 0) rfl) aD)) (aV (pv 0) rfl) (bw _))))),?_⟩
  try dsimp only [cD];refine ⟨_,rfl,ex5 m CP dx _ _ ⟨rfl,hm,TP.cP,TP.nKi,rfl,(by show 2≤sizeLine;decide),fun t ht=>?_⟩⟩
  have hm2:upd H t (.tup [.int 5,.int 6]) m=_:=(ai (ah hm ht)).trans hm
  have hl2:upd H t (.tup [.int 5,.int 6]) l=_:=(ai (ah hl ht)).trans hl
  have sm:bH H (upd H t (.tup [.int 5,.int 6])):=fun b o e=>(ai (ah e ht)).trans e
  refine ex2 t _ ⟨rfl,.inr (SqT.of aA),rfl,rfl,_,rfl,?_⟩
  rw [show (if false=true then !inV (.int (d.kind:Int)) [.int 5,.int 6] else inV (.int (d.kind:Int)) [.int 5,.int 6])=decide (d.kind=5∨d.kind=6) from oQ (a:=5) (b:=6)]
  by_cases hk:d.kind=5∨d.kind=6
  ·rw [ag hk];refine cK ?_
   refine ⟨_,rfl,ex5 m CP dx _ _ ⟨rfl,hm2,TP.cP,TP.nMe,rfl,ex2 l _ ⟨rfl,.inl (SqL.of hl2),_,rfl,ex5 m CP dx _ _ ⟨rfl,hm2,TP.cP,TP.nSi,rfl,ex2 _ _ ⟨rfl,rfl,?_⟩⟩⟩⟩⟩
   have e:decide (((ms.map V.ref).length:Int)<(d.size:Int))=decide ((d.kind=5∨d.kind=6)∧ms.length<d.size):=by
    rw [au];by_cases h2:ms.length<d.size
    ·rw [ag (show (ms.length:Int)<(d.size:Int) by omega),ag ⟨hk,h2⟩]
    ·rw [af (show ¬(ms.length:Int)<(d.size:Int) by omega),af (fun z=>h2 z.2)]
   show Q (V.bl (decide (((ms.map V.ref).length:Int)<(d.size:Int)))) _
   rw [e];exact q _ sm
  ·rw [af hk];refine cA ?_
   have q2:=q _ sm
   rw [af (fun z=>hk z.1)] at q2
   exact q2
theorem scDP:ba ["holder","part"] ["holder","part"] (aQ sDP):=fs_
theorem ok_DP {f:Addr} {fd:FuncData} (F:Fun K "deepen" "deepen" sDP f fd) (TP:TxP K mg CP) (B:TxB mg CP):bt P w K mg base CX0 1 f fd ["holder","part"] (yf CP):=by
 refine F.ok scDP (fun vs H Q E h=>?_) (fun cdv A outer s H vs Q E hr h=>?_)
 ·obtain ⟨h,m,nh,lh,nm,lm,dh,dm,rfl,_⟩:=h
  rfl
 ·obtain ⟨h,m,nh,lh,nm,lm,dh,dm,rfl,⟨xh,hh⟩,⟨xm,hm⟩,q⟩:=h
  refine ⟨_,aE (cJ (pv 0) (bM (tW rfl) (by rfl) B.mx boot_max (ae (aV (pv 0) rfl) (ae (cY eZ (aV (pv 1) rfl) aX) aD))) rfl),?_⟩
  try dsimp only [cD];refine ⟨_,rfl,h,CP,xh,_,_,rfl,hh,TP.cP,TP.nDe,rfl,_,rfl,m,CP,xm,_,_,rfl,hm,TP.cP,TP.nDe,rfl,_,_,rfl,rfl,_,_,rfl,_,rfl,h,CP,xh,_,rfl,hh,TP.cP,TP.nDe,(by show 9<1000;decide),?_⟩
  refine q _ ⟨xh,?_⟩ fun b o e n=>by rw [ai n];exact e
  rw [aA];have e:(if (dm.depth:Int)+1>(dh.depth:Int) then (dm.depth:Int)+1 else (dh.depth:Int))=((max dh.depth (dm.depth+1):Nat):Int):=by
   by_cases z:(dm.depth:Int)+1>(dh.depth:Int)
   ·rw [if_pos z];omega
   ·rw [if_neg z];omega
  show some (HO.ins CP xh (eJ "depth" (V.int (if (dm.depth:Int)+1>(dh.depth:Int) then (dm.depth:Int)+1 else (dh.depth:Int))) (pf dh nh lh)))=_
  rw [e];rfl
theorem r8 {K:Fg_} {j x1 x2 c:Nat} {σ:St} {H:Hp} {Q:Bool→Hp→Prop} (h:σ[j]? = some (some (.int (c:Int)))) (q:∀ t,H t=none→Q (decide (c=x1∨c=x2)) (upd H t (.tup [.int (x1:Int),.int (x2:Int)]))) :
  nF (tOp (rIn K false) (qw j) (tTup (uj (tC (.int (x1:Int))) (uj (tC (.int (x2:Int))) vo)))) σ H Q:=by
 refine ⟨_,h,(by show 2≤sizeLine;decide),fun t ht=>ex2 t _ ⟨rfl,.inr (SqT.of aA),rfl,rfl,_,rfl,?_⟩⟩
 have e:(if false=true then !inV (.int (c:Int)) [.int (x1:Int),.int (x2:Int)] else inV (.int (c:Int)) [.int (x1:Int),.int (x2:Int)])=decide (c=x1∨c=x2):=oQ
 rw [e];exact q t ht
structure m7 (CP:Addr) (H H':Hp) (m n l:Addr) (d:PD) (nb:List V):Prop where
 nm:H m=none
 nn:H n=none
 nl:H l=none
 ne:m≠l
 nmn:m≠n
 nnl:n≠l
 pt:gu CP H' m d n l
 ns:H' n=some (.lst nb)
 ls:H' l=some (.lst [])
def vB (K:Fg_) (CF CR CP:Addr):Sp:=fun vs H Q E=>∃ (r a:Addr) (lv p:Nat) (bs:List UInt8),vs=[.ref r,.int (lv:Int)]∧eS CR H r a p∧SqL K H a (bs.map bv)∧p≤bs.length∧bs.length≤65536 ∧
 Out E CF (Pm.headAt lv p (bs.drop p)) fun (x:Nat×Nat×Nat×Nat)=>∀ (m n l:Addr) (H':Hp),m7 CP H H' m n l ⟨x.1,p,p+x.2.2.1,p,x.2.1,1,0,0⟩ []→eS CR H' r a (p+x.2.2.2)→Kp H H' r→Q (.ref m) H'
theorem vK:ba ["reader","level","place","kind","part"] ["reader","level"] (aQ sBP):=fs_
theorem ok_BP {f fPI fPN fPR:Addr} {fd fdI fdP' fdN fdR:FuncData} (F:Fun K "begin_part" "begin_part" sBP f fd) (T:TxR K mg CF CR fFI) (TP:TxP K mg CP) (B:TxB mg CP) (GI:bt P w K mg base CX0 1 fFI fdI ["self","kind","place"] (ki CF)) (bI:cB K fdI ["self","kind","place"] [])
  (R:vh P w K mg base CF CR fRV fPB fRB fdV fdP fdB)
  (M:Mk K CP fPI) (GP:bt P w K mg base CX0 1 fPI fdP' ["self","kind","place"] (xU CP)) (bP:cB K fdP' ["self","kind","place"] [])
  (GN:Co P w K mg base (CXF P w) 6 fPN fdN ["reader","part"] (xT K CF CR CP) "pass_number")
  (GR:Co P w K mg base (CXF P w) 6 fPR fdR ["reader","part"] (xR K CF CR CP) "pass_row") :
  bt P w K mg base (CXF P w) 7 f fd ["reader","level"] (vB K CF CR CP):=by
 refine okX F vK (fun vs H Q E h=>?_) (fun cdv A outer s H vs Q E hr h=>?_)
 ·obtain ⟨r,a,lv,p,bs,rfl,_⟩:=h
  rfl
 ·obtain ⟨r,a,lv,p,bs,rfl,⟨dx,hr1⟩,hs,hp,hz,q⟩:=h
  have hr2:cq 2 _:=hr.mono (by decide)
  have hr3:cq 3 _:=hr.mono (by decide)
  have hr4:cq 4 _:=hr.mono (by decide)
  have hr5:cq 5 _:=hr.mono (by decide)
  refine ⟨_,aq (bb (i:=2) vK.nd rfl (.inl rfl) (aV (pv 0) rfl))
   (aq (bb (i:=3) vK.nd rfl (.inl rfl) (gj (pv 0) T.cR R.mB R.gB hr4 R.bB .nil di))
   (aq (ck (bh iH (pv 3) (pgi B.lk rfl) (bw _)) (aE (dI T.xc GI bI hr2 cC rfl rfl T.mF (ae (pgi B.e2 rfl) (ae (pv 2) aD)))) bE)
   (aq (ck (bh iH (pv 1) (pgi B.dp rfl) (bw _)) (aE (dI T.xc GI bI hr2 cC rfl rfl T.mF (ae (pgi B.e7 rfl) (ae (pv 2) aD)))) bE)
   (aq (bb (i:=4) vK.nd rfl (.inl rfl) (jF M GP hr2 rfl B.mP bP .nil cx (ae (pv 3) (ae (pv 2) aD))))
   (aq (ck (bh dR (pv 3) (pgi B.k2 rfl) (bw _)) (aE (cE (bJ GN hr rfl di (ae (pv 0) (ae (pv 4) aD)))))
    (aE (ck (bh gY (pv 3) (mr (ae (pgi B.k3 rfl) (ae (pgi B.k4 rfl) aD))) (by with_unfolding_all rfl))
     (aE (cE (bJ GR hr rfl di (ae (pv 0) (ae (pv 4) aD)))))
     (aE (ck (bh gY (pv 3) (mr (ae (pgi B.k5 rfl) (ae (pgi B.k6 rfl) aD))) (by with_unfolding_all rfl))
      (aq (cJ (pv 4) (gj (pv 0) T.cR R.mV R.gV hr5 R.bV .nil di) rfl) (aE (cJ (pv 4) (aV (pv 0) rfl) rfl)))
      (aE (ck (bh dR (pv 3) (pgi B.k7 rfl) (bw _)) (aE (cE (jE (pv 0) T.cR R.mP R.gP hr3 R.bP .nil di (ae (pgi B.ml rfl) aD))))
       (aE (ck (bh dR (pv 3) (pgi B.k8 rfl) (bw _)) (aE (cE (jE (pv 0) T.cR R.mP R.gP hr3 R.bP .nil di (ae (pgi B.il rfl) aD)))) bE)))))))))
   (aE (br (pv 4)))))))),?_⟩
  try dsimp only [cD];refine ⟨_,rfl,ex5 r CR dx _ _ ⟨rfl,hr1,T.cR,T.nPl,de a p,?_⟩⟩
  refine ⟨_,rfl,ex3 r dx _ ⟨rfl,hr1,iF a p (by decide +kernel) (by decide +kernel),r,a,p,bs,rfl,⟨dx,hr1⟩,hs,?_⟩⟩
  unfold Pm.headAt at q;cases eb:bs[p]? with
  | none =>
   have l0:bs.length≤p:=bG.mp eb
   have ed:bs.drop p=[]:=ft l0
   rw [ed] at q;have q':Err E CF (.int 1) (.int (p:Int)):=q
   rw [show p=bs.length by omega] at q'
   exact q'
  | some c =>
   have l0:p<bs.length:=(aN.mp eb).1
   have ed:bs.drop p=c::bs.drop (p+1):=by
    rw [bj l0];rw [aJ l0] at eb;cases eb;rfl
   rw [ed] at q;dsimp only at q;rintro H1 ⟨dx1,h1⟩ k1
   have sq1:=iE hs k1 hr1
   refine lD rfl ?_
   by_cases c8:8<c.toNat
   ·rw [if_pos c8] at q;rw [ag (show (8:Int)<(c.toNat:Int) by omega)]
    exact cK ⟨_,rfl,ex2 _ _ ⟨rfl,q⟩⟩
   ·rw [if_neg c8] at q;rw [af (show ¬(8:Int)<(c.toNat:Int) by omega)]
    refine cA (lD rfl ?_)
    by_cases cd:Sw.DEEP<lv
    ·rw [if_pos cd] at q;have cd':64<lv:=cd
     rw [ag (show (64:Int)<(lv:Int) by omega)]
     exact cK ⟨_,rfl,ex2 _ _ ⟨rfl,q⟩⟩
    ·rw [if_neg cd] at q;have cd':¬64<lv:=cd
     rw [af (show ¬(64:Int)<(lv:Int) by omega)]
     refine cA ?_
     refine ⟨_,rfl,_,rfl,fun m dm hm hdm ndm=>?_⟩
     refine ex4 m dm c.toNat p ⟨rfl,aA,fun nn l H2 hn hl nnm nlm nnl pt ns ls k2=>⟨rfl,?_⟩⟩
     have hm1:H1 m=none:=hm
     have hl1:H1 l=none:=by
      rw [ai nlm] at hl;by_cases z:l=dm
      ·rw [z,aA] at hl;cases hl
      ·rw [ai z] at hl;exact hl
     have hn1:H1 nn=none:=by
      rw [ai nnm] at hn;by_cases z:nn=dm
      ·rw [z,aA] at hn;cases hn
      ·rw [ai z] at hn;exact hn
     have k3:Kp H1 H2 m:=fun b o e n=>k2 b o (by rw [ai n,ai (ah e hdm)];exact e) n
     have keep:∀ b o,H1 b=some o→H2 b=some o:=fun b o e=>k3 b o e (ah e hm1)
     have h2:=keep _ _ h1
     have nmr:m≠r:=fun z=>by rw [z,h1] at hm1;cases hm1
     have nlr:l≠r:=fun z=>by rw [z,h1] at hl1;cases hl1
     have nnr:nn≠r:=fun z=>by rw [z,h1] at hn1;cases hn1
     have free0:∀ x,H1 x=none→H x=none:=fun x hx=>by
      cases z:H x with
      | none=>rfl
      | some o =>
       by_cases y:x=r
       ·rw [y,h1] at hx;cases hx
       ·rw [k1 x o z y] at hx;cases hx
     have np:∀ (d:PD) (H':Hp),gu CP H' m d nn l→H' nn=some (.lst [])→H' l=some (.lst [])→m7 CP H H' m nn l d []:=fun d H' z1 z0 z2=>⟨free0 m hm1,free0 nn hn1,free0 l hl1,Ne.symm nlm,Ne.symm nnm,nnl,z1,z0,z2⟩
     have kk:∀ H':Hp,Kp H2 H' r→Kp H H' r:=fun H' z b o e n=>z b o (keep b o (k1 b o e n)) n
     have sq2:SqL K H2 a (bs.map bv):=bH.seq keep sq1
     obtain ⟨xm,pt'⟩:=pt
     have kg:∀ G H':Hp,bH H2 G→Kp G H' r→Kp H2 H' r:=fun G H' g z b o e n=>z b o (g b o e) n
     have done:∀ (n i u:Nat) (G H3:Hp),bH H2 G→eS CR H3 r a (p+u)→gu CP H3 m ⟨c.toNat,p,p+i,p,n,1,0,0⟩ nn l→Kp2 G H3 r m →
       Out E CF (.ok (c.toNat,n,i,u)) (fun (x:Nat×Nat×Nat×Nat)=>∀ (m n l:Addr) (H':Hp),m7 CP H H' m n l ⟨x.1,p,p+x.2.2.1,p,x.2.1,1,0,0⟩ []→eS CR H' r a (p+x.2.2.2)→Kp H H' r→Q (.ref m) H')→Q (.ref m) H3:=fun n i u G H3 g rd pt3 k4 q =>
      q m nn l H3 (np _ H3 pt3 (k4 _ _ (g _ _ ns) nnr nnm) (k4 _ _ (g _ _ ls) nlr nlm)) rd fun b o e n'=>k4 b o (g b o (keep b o (k1 b o e n'))) n' (ah e (free0 m hm1))
     have pass_end:∀ (n:Nat) (G:Hp),bH H2 G→Out E CF (match Sw.someOf (p+1) n (bs.drop (p+1)) with
        | .error e=>.error e
        | .ok _=>.ok (c.toNat,0,1,1+n)) (fun (x:Nat×Nat×Nat×Nat)=>∀ (m n l:Addr) (H':Hp),m7 CP H H' m n l ⟨x.1,p,p+x.2.2.1,p,x.2.1,1,0,0⟩ []→eS CR H' r a (p+x.2.2.2)→Kp H H' r→Q (.ref m) H') →
       if bs.length - (p+1)<n then Err E CF (.int 1) (.int (bs.length:Int)) else ∀ H':Hp,eS CR H' r a (p+1+n)→Kp G H' r→tRet (qw 4) { nx:=fun _ H'=>Q .non H',rt:=Q } [some (.ref r),some (.int (lv:Int)),some (.int (p:Int)),some (bv c),some (.ref m)] H':=fun n G g q=>by
      by_cases cn:bs.length - (p+1)<n
      ·rw [if_pos cn];rw [Hm.some_no (by rw [ay];omega)] at q
       have q':Err E CF (.int 1) (.int ((p+1+(bs.drop (p+1)).length:Nat):Int)):=q
       rw [ay,show p+1+(bs.length - (p+1))=bs.length by omega] at q'
       exact q'
      ·rw [if_neg cn];rw [Hm.some_of (by rw [ay];omega)] at q
       intro H3 rd3 k4;exact ⟨_,rfl,done 0 1 (1+n) G H3 g (by rw [←bg];exact rd3) ⟨xm,k4 _ _ (g _ _ pt') nmr⟩ (fun b o e n1 _=>k4 b o e n1) q⟩
     refine iQ (n:=2) rfl ?_
     by_cases c2:c.toNat=2
     ·rw [ag c2];rw [if_pos c2] at q;refine cK ⟨_,rfl,_,rfl,r,a,m,nn,l,p+1,_,bs,rfl,⟨dx1,h2⟩,sq2,⟨xm,pt'⟩,by omega,?_⟩
      dsimp only;cases en:Hm.numAt p (p+1) (bs.drop (p+1)) with
      | error e =>
       rw [en] at q;exact q
      | ok x =>
       obtain ⟨u,h⟩:=x
       rw [en] at q;intro H3 rd3 pt3 k4;have e1:p+1+u+h=p+(1+u+h):=by omega
       have e2:p+1+u=p+(1+u):=by omega
       dsimp only at rd3 pt3;rw [e1] at rd3;rw [e2] at pt3;exact ⟨_,rfl,done 0 (1+u) (1+u+h) H2 H3 (fun b o e=>e) rd3 pt3 k4 q⟩
     ·rw [af c2];rw [if_neg c2] at q;refine cA ?_
      refine r8 (x1:=3) (x2:=4) rfl fun t ht=>?_
      have g1:bH H2 (upd H2 t (.tup [.int 3,.int 4])):=fun b o e=>(ai (ah e ht)).trans e
      by_cases c34:c.toNat=3∨c.toNat=4
      ·rw [ag c34];rw [if_pos c34] at q;refine cK ⟨_,rfl,_,rfl,r,a,m,nn,l,p+1,_,bs,rfl,⟨dx1,g1 _ _ h2⟩,g1.seq sq2,⟨xm,g1 _ _ pt'⟩,by omega,hz,?_⟩
       dsimp only;cases en:Hm.strAt (decide (c.toNat=4)) (p+1) (bs.drop (p+1)) with
       | error e =>
        rw [en] at q;exact q
       | ok x =>
        obtain ⟨n,u⟩:=x
        rw [en] at q;intro H3 rd3 pt3 k4;have e1:p+1+u+n=p+(1+u+n):=by omega
        have e2:p+1+u=p+(1+u):=by omega
        dsimp only at rd3 pt3;rw [e1] at rd3;rw [e2] at pt3;exact ⟨_,rfl,done n (1+u) (1+u+n) _ H3 g1 rd3 pt3 k4 q⟩
      ·rw [af c34];rw [if_neg c34] at q;refine cA ?_
       refine r8 (x1:=5) (x2:=6) rfl fun t2 ht2=>?_
       have g2:bH H2 (upd (upd H2 t (.tup [.int 3,.int 4])) t2 (.tup [.int 5,.int 6])):=fun b o e=>(ai (ah (g1 b o e) ht2)).trans (g1 b o e)
       by_cases c56:c.toNat=5∨c.toNat=6
       ·rw [ag c56];rw [if_pos c56] at q;refine cK ⟨_,rfl,ex3 r dx1 _ ⟨rfl,g2 _ _ h2,iF a (p+1) (by decide +kernel) (by decide +kernel),r,a,p+1,bs,rfl,⟨dx1,g2 _ _ h2⟩,g2.seq sq2,by omega,?_⟩⟩
        cases en:Sw.varyOf (p+1) (bs.drop (p+1)) with
        | error e =>
         rw [en] at q;exact q
        | ok x =>
         obtain ⟨n,u⟩:=x
         rw [en] at q;rintro H3 ⟨dx3,rd3⟩ k4
         have pt3:=k4 _ _ (g2 _ _ pt') nmr
         have e2:p+1+u=p+(1+u):=by omega
         dsimp only at rd3;refine ⟨_,rfl,m,CP,xm,_,rfl,pt3,TP.cP,TP.nSi,(by show 9<1000;decide),?_⟩
         refine ⟨_,rfl,r,CR,dx3,_,_,rfl,by rw [ai (Ne.symm nmr)];exact rd3,T.cR,T.nPl,de a _,_,rfl,m,CP,xm,_,rfl,aA,TP.cP,TP.nIn,(by show 9<1000;decide),?_⟩
         refine ⟨_,rfl,done n (1+u) (1+u) _ _ g2 ⟨dx3,?_⟩ ⟨xm,?_⟩ (fun b o e n1 n2=>?_) q⟩
         ·rw [ai (Ne.symm nmr),ai (Ne.symm nmr),rd3,e2]
         ·rw [aA,e2];rfl
         ·rw [ai n2,ai n2];exact k4 b o e n1
       ·rw [af c56];rw [if_neg c56] at q;refine cA (iQ (n:=7) rfl ?_)
        by_cases c7:c.toNat=7
        ·rw [ag c7];rw [if_pos c7] at q;refine cK ⟨_,rfl,ex3 r dx1 _ ⟨rfl,g2 _ _ h2,iF a (p+1) (by decide +kernel) (by decide +kernel),r,a,p+1,8,bs,rfl,⟨dx1,g2 _ _ h2⟩,g2.seq sq2,by omega,?_⟩⟩
         exact pass_end 8 _ g2 q
        ·rw [af c7];rw [if_neg c7] at q;refine cA (iQ (n:=8) rfl ?_)
         by_cases c8':c.toNat=8
         ·rw [ag c8'];rw [if_pos c8'] at q;refine cK ⟨_,rfl,ex3 r dx1 _ ⟨rfl,g2 _ _ h2,iF a (p+1) (by decide +kernel) (by decide +kernel),r,a,p+1,32,bs,rfl,⟨dx1,g2 _ _ h2⟩,g2.seq sq2,by omega,?_⟩⟩
          exact pass_end 32 _ g2 q
         ·rw [af c8'];rw [if_neg c8'] at q;exact cA ⟨_,rfl,done 0 1 1 _ _ g2 ⟨dx1,g2 _ _ h2⟩ ⟨xm,g2 _ _ pt'⟩ (fun b o e _ _=>e) q⟩
def yh (K:Fg_) (CF CR CP:Addr):Sp:=fun vs H Q E=>∃ (r a h nh lh:Addr) (lv p:Nat) (bs:List UInt8) (dh:PD) (ms:List Addr) (prev:Option (List UInt8)),vs=[.ref r,.ref h,.int (lv:Int)]∧eS CR H r a p∧SqL K H a (bs.map bv)∧p≤bs.length∧bs.length≤65536 ∧
 gu CP H h dh nh lh∧H lh=some (.lst (ms.map V.ref))∧ms.length≤65536∧(dh.kind=6→pd CP H ms prev)∧(∀ m∈ms,m≠r) ∧
 Out E CF (Pm.memAt (decide (dh.kind=6)) prev lv p (bs.drop p)) fun (x:Nat×Nat×Nat×Nat×Nat×Nat)=>∀ (m nm lm:Addr) (H':Hp),m7 CP H H' m nm lm (Pm.newD (decide (dh.kind=6)) p x) (((bs.drop (Pm.newD (decide (dh.kind=6)) p x).np).take (Pm.newD (decide (dh.kind=6)) p x).nl).map bv) →
  eS CR H' r a (p+x.2.1+x.1+x.2.2.2.2.2)→H' lh=some (.lst ((ms++[m]).map V.ref))→(∀ b o,H b=some o→b≠r→b≠lh→H' b=some o)→Q (.ref m) H'
theorem pd.same {CP:Addr} {H H':Hp} {ms:List Addr} {prev:Option (List UInt8)} (k:bH H H') (h:pd CP H ms prev):pd CP H' ms prev:=by
 unfold pd at *
 cases e:ms.getLast? with
 | none=>rw [e] at h;exact h
 | some m =>
  rw [e] at h;obtain ⟨d,n,l,q,⟨dx,h1⟩,h2,h3⟩:=h
  exact ⟨d,n,l,q,⟨dx,k _ _ h1⟩,k _ _ h2,h3⟩
theorem u9 {CP CR:Addr} {H G H2:Hp} {r a lh m nB lm nn xm:Addr} {xs ys nb:List V} {fs:List (Str×V)} {d0 d:PD} {o1:HO} {pp:Nat} (hl:H lh=some (.lst xs)) (sG:∀ b o,H b=some o→b≠r→G b=some o) (hr:H r=some o1)
  (nnG:G nn=some (.lst nb)) (nnH:H nn=none) (fr:∀ x,G x=none→H x=none) (np:m7 CP G H2 m nB lm d0 []) (rd:eS CR H2 r a pp) (nlr:lh≠r) (k2:Kp G H2 r) :
  let Hf:=upd (upd (upd H2 m (.ins CP xm fs)) m (.ins CP xm (pf d nn lm))) lh (.lst ys)
  m7 CP H Hf m nn lm d nb∧eS CR Hf r a pp∧Hf lh=some (.lst ys)∧∀ b o,H b=some o→b≠r→b≠lh→Hf b=some o:=by
 intro Hf;have nm0:=fr m np.nm
 have nl0:=fr lm np.nl
 have nmlh:lh≠m:=ah hl nm0
 have nlmlh:lh≠lm:=ah hl nl0
 have nnlh:lh≠nn:=ah hl nnH
 have nmr:r≠m:=ah hr nm0
 have nnr:r≠nn:=ah hr nnH
 have nnm:nn≠m:=ah nnG np.nm
 have nnlm:nn≠lm:=ah nnG np.nl
 refine ⟨⟨nm0,nnH,nl0,np.ne,Ne.symm nnm,nnlm,⟨xm,?_⟩,?_,?_⟩,?_,?_,fun b o e n1 n2=>?_⟩
 ·show upd (upd (upd H2 m _) m _) lh _ m=_
  rw [ai (Ne.symm nmlh),aA]
 ·show upd (upd (upd H2 m _) m _) lh _ nn=_
  rw [ai (Ne.symm nnlh),ai nnm,ai nnm];exact k2 _ _ nnG (Ne.symm nnr)
 ·show upd (upd (upd H2 m _) m _) lh _ lm=_
  rw [ai (Ne.symm nlmlh),ai (Ne.symm np.ne),ai (Ne.symm np.ne)];exact np.ls
 ·obtain ⟨dz,rz⟩:=rd
  refine ⟨dz,?_⟩
  show upd (upd (upd H2 m _) m _) lh _ r=_
  rw [ai (Ne.symm nlr),ai nmr,ai nmr];exact rz
 ·show upd (upd (upd H2 m _) m _) lh _ lh=_
  rw [aA]
 ·show upd (upd (upd H2 m _) m _) lh _ b=_
  rw [ai n2,ai (ah e nm0),ai (ah e nm0)];exact k2 b o (sG b o e n1) n1
theorem sY:ba ["reader","holder","level","name_place","name","part"] ["reader","holder","level"] (aQ sBM):=fs_
theorem ok_BM {f fRN fBP:Addr} {fd fdN fdB:FuncData} (F:Fun K "begin_member" "begin_member" sBM f fd) (T:TxR K mg CF CR fFI) (TP:TxP K mg CP) (B:TxB mg CP)
  (GN:Co P w K mg base (CXF P w) 6 fRN fdN ["reader","holder"] (xJ K CF CR CP) "read_name")
  (GB:Co P w K mg base (CXF P w) 7 fBP fdB ["reader","level"] (vB K CF CR CP) "begin_part") :
  bt P w K mg base (CXF P w) 8 f fd ["reader","holder","level"] (yh K CF CR CP):=by
 refine okX F sY (fun vs H Q E h=>?_) (fun cdv A outer s H vs Q E hr h=>?_)
 ·obtain ⟨r,a,h,nh,lh,lv,p,bs,dh,ms,prev,rfl,_⟩:=h
  rfl
 ·obtain ⟨r,a,h,nh,lh,lv,p,bs,dh,ms,prev,rfl,⟨dx,hr1⟩,hs,hp,hz,⟨xh,hh⟩,hl,hml,hlast,hne,q⟩:=h
  have hr6:cq 6 _:=hr.mono (by decide)
  refine ⟨_,aq (bb (i:=3) sY.nd rfl (.inl rfl) aX)
   (aq (bb (i:=4) sY.nd rfl (.inl rfl) (dP aD))
   (aq (ck (bh dR (aV (pv 1) rfl) (pgi B.k6 rfl) (bw _))
    (aq (bb (i:=3) sY.nd rfl (.inl rfl) (bJ GN hr6 rfl di (ae (pv 0) (ae (pv 1) aD))))
     (aE (bb (i:=4) sY.nd rfl (.inl rfl) (gi ik (aV (pv 0) rfl) (eY (pv 3)) (eY (aV (pv 0) rfl)))))) bE)
   (aq (bb (i:=5) sY.nd rfl (.inl rfl) (bJ GB hr rfl di (ae (pv 0) (ae (pv 2) aD))))
   (aq (cJ (pv 5) (pv 3) rfl)
   (aq (cJ (pv 5) (pv 4) rfl)
   (aq (cE (gX aZ PySem.F.slot_list_append PySem.F.type_list_append gZ (aV (pv 1) rfl) (ae (pv 5) aD)))
   (aE (br (pv 5))))))))),?_⟩
  try dsimp only [cD];have nhr:h≠r:=cQ hh hr1 (by intro z;injection z with _ _ z3;exact absurd (congrArg List.length z3) (by show ¬9=2;decide))
  have nlr:lh≠r:=cQ hl hr1 (by intro z;cases z)
  have nhl:h≠lh:=cQ hh hl (by intro z;cases z)
  unfold Pm.memAt at q;refine ⟨aW _,fun n0 hn0=>?_⟩
  have s0:bH H (upd H n0 (.lst [])):=fun b o e=>(ai (ah e hn0)).trans e
  refine ⟨_,rfl,ex5 h CP xh _ _ ⟨rfl,s0 _ _ hh,TP.cP,TP.nKi,rfl,rfl,_,rfl,?_⟩⟩
  rw [iz];by_cases c6:dh.kind=6
  ·rw [ag (show (dh.kind:Int)=6 by omega)]
   rw [ag c6] at q;unfold Pm.nmAt at q;rw [if_pos rfl] at q;refine cK ⟨_,rfl,_,rfl,r,a,h,nh,lh,p,bs,dh,ms,prev,rfl,⟨dx,s0 _ _ hr1⟩,s0.seq hs,hp,hz,⟨xh,s0 _ _ hh⟩,s0 _ _ hl,(hlast c6).same s0,hne,?_⟩
   cases en:Hm.nameAt prev p (bs.drop p) with
   | error e =>
    rw [en] at q;exact q
   | ok x =>
    obtain ⟨k,l⟩:=x
    rw [en] at q;have nu:=Pm.name_used en
    rw [ay] at nu;rintro H1 ⟨dx1,h1⟩ k1
    have sq1:=iE (s0.seq hs) k1 (s0 _ _ hr1)
    refine ⟨_,rfl,ex5 r CR dx1 _ _ ⟨rfl,h1,T.cR,T.nRow,gJ a _,_,rfl,_,rfl,_,rfl,ex5 r CR dx1 _ _ ⟨rfl,h1,T.cR,T.nPl,de a _,_,rfl,ex2 a _ ⟨rfl,sq1,fun n1 hn1=>?_⟩⟩⟩⟩
    rw [jb bs (p+l) k (by omega) rfl rfl]
    have s1:bH H1 (upd H1 n1 (.lst (((bs.drop (p+l)).take k).map bv))):=fun b o e=>(ai (ah e hn1)).trans e
    generalize hG:upd H1 n1 (.lst (((bs.drop (p+l)).take k).map bv))=G at s1;have nnG:G n1=some (.lst (((bs.drop (p+l)).take k).map bv)):=by rw [←hG,aA]
    have fr1:∀ x,H1 x=none→H x=none:=fun x hx=>by
     cases z:H x with
     | none=>rfl
     | some o =>
      by_cases y:x=r
      ·rw [y,h1] at hx;cases hx
      ·rw [k1 x o (s0 _ _ z) y] at hx;cases hx
    have fr:∀ x,G x=none→H x=none:=fun x hx=>fr1 x (s1.free hx)
    have sG:∀ b o,H b=some o→b≠r→G b=some o:=fun b o e n=>s1 _ _ (k1 b o (s0 _ _ e) n)
    dsimp only at q;rw [bO,←bg] at q;refine ⟨_,rfl,_,rfl,r,a,lv,p+l+k,bs,rfl,⟨dx1,s1 _ _ h1⟩,s1.seq sq1,by omega,hz,?_⟩
    cases eh:Pm.headAt lv (p+l+k) (bs.drop (p+l+k)) with
    | error e =>
     rw [eh] at q;exact q
    | ok y =>
     obtain ⟨kd,n,i,u⟩:=y
     rw [eh] at q;intro m nB lm H2 np rd2 k2;obtain ⟨xm,pt⟩:=np.pt
     have nmh:h≠m:=ah hh (fr m np.nm)
     have nmlh:lh≠m:=ah hl (fr m np.nm)
     have hh2:=k2 _ _ (sG _ _ hh nhr) nhr
     have hl2:=k2 _ _ (sG _ _ hl nlr) nlr
     refine ⟨_,rfl,_,rfl,m,CP,xm,_,rfl,pt,TP.cP,TP.nNp,(by show 9<1000;decide),?_⟩
     refine ⟨_,rfl,_,rfl,m,CP,xm,_,rfl,aA,TP.cP,TP.nNl,(by show 9<1000;decide),?_⟩
     have hl3:upd (upd H2 m (.ins CP xm (eJ "name_place" (.int ((p+l:Nat):Int)) (pf ⟨kd,p+l+k,p+l+k+i,p+l+k,n,1,0,0⟩ nB lm)))) m (.ins CP xm (eJ "name" (.ref n1) (eJ "name_place" (.int ((p+l:Nat):Int)) (pf ⟨kd,p+l+k,p+l+k+i,p+l+k,n,1,0,0⟩ nB lm)))) lh=some (.lst (ms.map V.ref)):=by
      rw [ai nmlh,ai nmlh];exact hl2
     refine ⟨_,rfl,ex5 h CP xh _ (.ref lh) ⟨rfl,by rw [ai nmh,ai nmh];exact hh2,TP.cP,TP.nMe,rfl,.inl ⟨rfl,_,SqL.of hl3⟩,_,rfl,ex3 lh _ _ ⟨rfl,rfl,hl3,(by rw [au];exact gv hml (by decide)),?_⟩⟩⟩
     obtain ⟨z1,z2,z3,z4⟩:=u9 (d:=Pm.newD true p (k,l,kd,n,i,u)) (xm:=xm) (fs:=eJ "name_place" (.int ((p+l:Nat):Int)) (pf ⟨kd,p+l+k,p+l+k+i,p+l+k,n,1,0,0⟩ nB lm)) (ys:=ms.map V.ref++[V.ref m]) hl sG hr1 nnG (fr1 n1 hn1) fr np rd2 nlr k2
     refine ⟨_,rfl,q m n1 lm _ z1 z2 (z3.trans ?_) z4⟩
     rw [aL];rfl
  ·rw [af (show ¬(dh.kind:Int)=6 by omega)]
   rw [af c6] at q;unfold Pm.nmAt at q;rw [if_neg aI] at q;dsimp only at q;refine cA ?_
   have nnG:upd H n0 (.lst []) n0=some (.lst []):=aA
   generalize upd H n0 (.lst [])=G at s0 nnG;have fr:∀ x,G x=none→H x=none:=fun x hx=>s0.free hx
   have sG:∀ b o,H b=some o→b≠r→G b=some o:=fun b o e _=>s0 b o e
   rw [dW,show p+0+0=p from rfl] at q;refine ⟨_,rfl,_,rfl,ex5 r a lv p bs ⟨rfl,⟨dx,s0 _ _ hr1⟩,s0.seq hs,by omega,hz,?_⟩⟩
   cases eh:Pm.headAt lv (p) (bs.drop (p)) with
   | error e =>
    rw [eh] at q;exact q
   | ok y =>
    obtain ⟨kd,n,i,u⟩:=y
    rw [eh] at q;intro m nB lm H2 np rd2 k2;obtain ⟨xm,pt⟩:=np.pt
    have nmh:h≠m:=ah hh (fr m np.nm)
    have nmlh:lh≠m:=ah hl (fr m np.nm)
    have hh2:=k2 _ _ (sG _ _ hh nhr) nhr
    have hl2:=k2 _ _ (sG _ _ hl nlr) nlr
    refine ⟨_,rfl,_,rfl,m,CP,xm,_,rfl,pt,TP.cP,TP.nNp,(by show 9<1000;decide),?_⟩
    refine ⟨_,rfl,_,rfl,m,CP,xm,_,rfl,aA,TP.cP,TP.nNl,(by show 9<1000;decide),?_⟩
    have hl3:upd (upd H2 m (.ins CP xm (eJ "name_place" (.int 0) (pf ⟨kd,p,p+i,p,n,1,0,0⟩ nB lm)))) m (.ins CP xm (eJ "name" (.ref n0) (eJ "name_place" (.int 0) (pf ⟨kd,p,p+i,p,n,1,0,0⟩ nB lm)))) lh=some (.lst (ms.map V.ref)):=by
     rw [ai nmlh,ai nmlh];exact hl2
    refine ⟨_,rfl,ex5 h CP xh _ (.ref lh) ⟨rfl,by rw [ai nmh,ai nmh];exact hh2,TP.cP,TP.nMe,rfl,.inl ⟨rfl,_,SqL.of hl3⟩,_,rfl,ex3 lh _ _ ⟨rfl,rfl,hl3,(by rw [au];exact gv hml (by decide)),?_⟩⟩⟩
    obtain ⟨z1,z2,z3,z4⟩:=u9 (d:=Pm.newD false p (0,0,kd,n,i,u)) (xm:=xm) (fs:=eJ "name_place" (.int 0) (pf ⟨kd,p,p+i,p,n,1,0,0⟩ nB lm)) (ys:=ms.map V.ref++[V.ref m]) hl sG hr1 nnG hn0 fr np rd2 nlr k2
    refine ⟨_,rfl,q m n0 lm _ z1 z2 (z3.trans ?_) z4⟩
    rw [aL];rfl
def tF (bs:List UInt8) (d:PD):List V:=((bs.drop d.np).take d.nl).map bv
mutual
inductive kP (CP:Addr) (bs:List UInt8) (H:Hp):Addr→PT→Prop
 | mk {a n l:Addr} {as:List Addr} {d:PD} {ms:List PT}:gu CP H a d n l→H n=some (.lst (tF bs d))→H l=some (.lst (as.map V.ref))→gp CP bs H as ms→kP CP bs H a (.node d ms)
inductive gp (CP:Addr) (bs:List UInt8) (H:Hp):List Addr→List PT→Prop
 | nil:gp CP bs H [] []
 | cons {a:Addr} {as:List Addr} {t:PT} {ts:List PT}:kP CP bs H a t→gp CP bs H as ts→gp CP bs H (a::as) (t::ts)
end
mutual
theorem kP.same {CP:Addr} {bs:List UInt8} {H H':Hp} (k:bH H H'):∀ {a:Addr} {t:PT},kP CP bs H a t→kP CP bs H' a t
 | _,_,.mk ⟨dx,h1⟩ h0 h2 h3=>.mk ⟨dx,k _ _ h1⟩ (k _ _ h0) (k _ _ h2) (h3.same k)
theorem gp.same {CP:Addr} {bs:List UInt8} {H H':Hp} (k:bH H H'):∀ {as:List Addr} {ts:List PT},gp CP bs H as ts→gp CP bs H' as ts
 | _,_,.nil=>.nil
 | _,_,.cons h1 h2=>.cons (h1.same k) (h2.same k)
end
theorem gp.len {CP:Addr} {bs:List UInt8} {H:Hp}:∀ {as:List Addr} {ts:List PT},gp CP bs H as ts→as.length=ts.length
 | _,_,.nil=>rfl
 | _,_,.cons _ h=>by rw [aj,aj,h.len]
theorem gp.get {CP:Addr} {bs:List UInt8} {H:Hp}:∀ {as:List Addr} {ts:List PT},gp CP bs H as ts→∀ {j:Nat} {a:Addr},as[j]? = some a→∃ t,ts[j]? = some t∧kP CP bs H a t
 | _,_,.nil,j,a,e=>by simp at e
 | _,_,.cons (a:=a0) (t:=t0) h1 h2,0,a,e=>by
  have e:some a0=some a:=e
  injection e with e;subst e;exact ⟨t0,rfl,h1⟩
 | _,_,.cons h1 h2,j+1,a,e=>h2.get e
theorem gp.snoc {CP:Addr} {bs:List UInt8} {H:Hp} {a:Addr} {t:PT} (h:kP CP bs H a t):∀ {as:List Addr} {ts:List PT},gp CP bs H as ts→gp CP bs H (as++[a]) (ts++[t])
 | _,_,.nil=>.cons h .nil
 | _,_,.cons h1 h2=>.cons h1 (h2.snoc h)
theorem kP.pt {CP:Addr} {bs:List UInt8} {H:Hp} {a:Addr} {t:PT} (h:kP CP bs H a t):∃ n l,gu CP H a t.d n l∧H n=some (.lst (tF bs t.d)):=by
 cases h with
 | mk h1 h0 _ _=>exact ⟨_,_,h1,h0⟩
structure SF where
 a:Addr
 n:Addr
 l:Addr
 as:List Addr
 d:PD
 mem:List PT
structure rk (CP:Addr) (p:Nat) (bs:List UInt8) (G D:Hp) (s:SF) (ch:List Addr):Prop where
 pt:gu CP G s.a s.d s.n s.l
 nm:D s.n=some (.lst (tF bs s.d))
 ls:G s.l=some (.lst ((s.as++ch).map V.ref))
 mem:gp CP bs D s.as s.mem
 bd:s.as.length+ch.length+1≤p
 dp:1≤s.d.depth
def qf (CP:Addr) (p:Nat) (bs:List UInt8) (G D:Hp):List Addr→List SF→Prop
 | _,[]=>True
 | ch,s::r=>rk CP p bs G D s ch∧qf CP p bs G D [s.a] r
theorem rk.keep {CP:Addr} {p p':Nat} {bs:List UInt8} {G G' D D':Hp} {s:SF} {ch:List Addr} (f:rk CP p bs G D s ch) (hp:p≤p') (hd:bH D D') (ha:∀ o,G s.a=some o→G' s.a=some o) (hl:∀ o,G s.l=some o→G' s.l=some o):rk CP p' bs G' D' s ch:=by
 refine ⟨?_,hd _ _ f.nm,hl _ f.ls,f.mem.same hd,bF f.bd hp,f.dp⟩
 obtain ⟨dx,h⟩:=f.pt
 exact ⟨dx,ha _ h⟩
theorem qf.keep {CP:Addr} {p p':Nat} {bs:List UInt8} {G G' D D':Hp} (hp:p≤p') (hd:bH D D'):∀ {st:List SF} {ch:List Addr},qf CP p bs G D ch st →
  (∀ s∈st,(∀ o,G s.a=some o→G' s.a=some o)∧(∀ o,G s.l=some o→G' s.l=some o))→qf CP p' bs G' D' ch st
 | [],_,_,_=>trivial
 | s::r,ch,h,k=>by
  obtain ⟨h1,h2⟩:=h
  obtain ⟨k1,k2⟩:=k s (by simp)
  exact ⟨h1.keep hp hd k1 k2,qf.keep hp hd h2 fun s' hs=>k s' (by simp [hs])⟩
theorem qf.fr {CP:Addr} {p:Nat} {bs:List UInt8} {G D:Hp}:∀ {st:List SF} {ch:List Addr},qf CP p bs G D ch st→∀ s∈st,∃ ch',rk CP p bs G D s ch'
 | [],_,_,s,hs=>by simp at hs
 | s0::r,ch,h,s,hs=>by
  rcases aB.mp hs with rfl | hs
  ·exact ⟨ch,h.1⟩
  ·exact h.2.fr s hs
structure Dist (H D:Hp) (g:Addr) (st:List SF):Prop where
 na:(st.map (·.a)).Nodup
 nl:(st.map (·.l)).Nodup
 ng:∀ s∈st,s.l≠g
 da:∀ s∈st,D s.a=none∧D s.l=none
 f0:∀ s∈st,H s.a=none∧H s.l=none
theorem dC {CP:Addr} {G:Hp} {a n l b:Addr} {d:PD} {xs:List V} (h:gu CP G a d n l) (h':G b=some (.lst xs)):a≠b:=by
 obtain ⟨dx,h⟩:=h
 exact cQ h h' (by intro z;cases z)
theorem jC {CP CR:Addr} {G:Hp} {a n l r b:Addr} {d:PD} {p:Nat} (h:gu CP G a d n l) (h':eS CR G r b p):a≠r:=by
 obtain ⟨dx,h⟩:=h
 obtain ⟨dy,h'⟩:=h'
 exact cQ h h' (by intro z;injection z with _ _ z3;exact absurd (congrArg List.length z3) (by show ¬9=2;decide))
theorem g0 {CR:Addr} {G:Hp} {a r b:Addr} {xs:List V} {p:Nat} (h:G a=some (.lst xs)) (h':eS CR G r b p):a≠r:=by
 obtain ⟨dy,h'⟩:=h'
 exact cQ h h' (by intro z;cases z)
def rL (st:List SF):List (PD×List PT):=st.map fun s=>(s.d,s.mem)
structure Turn (CP CR:Addr) (H G D:Hp) (r a aw g:Addr) (bs:List UInt8) (R:Except Sw.Fault (PT×Nat)) (n p:Nat) (s:SF) (rest:List SF):Prop where
 lst:G g=some (.lst (((s::rest).map (·.a)).reverse.map V.ref))
 st:qf CP p bs G D [] (s::rest)
 ds:Dist H D g (s::rest)
 bot:((s::rest).map (·.a)).getLast? = some aw
 run:Pm.fin bs (rL rest) s.d s.mem p=R
 ms:n=2*(bs.length - p)+(s::rest).length
 dep:(s::rest).length≤p
 dn:bH D G
 dg:D g=none
 dr:D r=none
structure Base (CR:Addr) (H G:Hp) (r a:Addr) (p:Nat) (bs:List UInt8):Prop where
 same:bH H G
 rd:eS CR G r a p
 le:p≤bs.length
theorem uN {named:Bool} {prev:Option (List UInt8)} {lv p:Nat} {bs:List UInt8} {x:Nat×Nat×Nat×Nat×Nat×Nat} (h:Pm.memAt named prev lv p (bs.drop p) = .ok x) (hp:p≤bs.length) :
  p+x.2.1+x.1+x.2.2.2.2.2≤bs.length∧1≤x.2.2.2.2.2:=by
 unfold Pm.memAt at h;cases en:Pm.nmAt named prev p (bs.drop p) with
 | error e=>rw [en] at h;cases h
 | ok y =>
  obtain ⟨k,l⟩:=y
  rw [en] at h;have n1:=Pm.nm_used en
  rw [ay] at n1;dsimp only at h;cases eh:Pm.headAt lv (p+l+k) ((bs.drop p).drop (l+k)) with
  | error e=>rw [eh] at h;cases h
  | ok z =>
   obtain ⟨kd,n,i,u⟩:=z
   rw [eh] at h;have h1:=Pm.head_used eh
   rw [ay,ay] at h1;injection h with h;subst h;dsimp only;omega
theorem tj {CP:Addr} {p:Nat} {G D G1:Hp} {bs:List UInt8} {s:SF} {ch:List Addr} (f:rk CP p bs G D s ch) (k:bH D G1):pd CP G1 s.as (Pm.prevOf bs s.mem):=by
 unfold pd Pm.prevOf;have l1:=f.mem.len
 rw [b9,b9,←l1];cases e:s.as[s.as.length - 1]? with
 | none =>
  have l0:=bG.mp e
  rw [bG.mpr (by omega)]
 | some x =>
  obtain ⟨t,e2,h⟩:=f.mem.get e
  rw [e2];obtain ⟨n',l',⟨dx,h'⟩,hn⟩:=h.pt
  exact ⟨t.d,n',l',_,⟨dx,k _ _ h'⟩,k _ _ hn,rfl⟩
def xC (K:Fg_) (CF CP:Addr):Sp:=fun vs H Q E=>∃ (a:Addr) (bs:List UInt8),vs=[.ref a]∧SqL K H a (bs.map bv)∧bs.length≤65536 ∧
 Out E CF (Pm.wholeAt bs) fun (t:PT)=>∀ (aw:Addr) (H':Hp),kP CP bs H' aw t→bH H H'→Q (.ref aw) H'
section
variable {P:Program} {w:World} {K:Fg_} {mg:Str→Option Value} {base:Heap} {CF CR CP fFI:Addr}
theorem uy:ba ["row","reader","whole","begun","part"] ["row"] (aQ sRW):=fs_
theorem ok_RW {f fRI fBP fLM fBM fDP:Addr} {fd fdI fdR fdB fdL fdM fdD:FuncData} (F:Fun K "read_whole" "read_whole" sRW f fd) (T:TxR K mg CF CR fFI) (TP:TxP K mg CP) (mRd:mg "Reader" = some (.ref CR)) (e8:GI mg "BYTES_BEHIND" 8)
  (GI:bt P w K mg base CX0 1 fFI fdI ["self","kind","place"] (ki CF)) (bI:cB K fdI ["self","kind","place"] [])
  (M:Mk K CR fRI) (GR:bt P w K mg base CX0 1 fRI fdR ["self","row"] (xN CR)) (bR:cB K fdR ["self","row"] [])
  (GB:Co P w K mg base (CXF P w) 7 fBP fdB ["reader","level"] (vB K CF CR CP) "begin_part")
  (GL:Co P w K mg base CX0 1 fLM fdL ["part"] (x9 CP) "lacks_members")
  (GM:Co P w K mg base (CXF P w) 8 fBM fdM ["reader","holder","level"] (yh K CF CR CP) "begin_member")
  (GD:Co P w K mg base CX0 1 fDP fdD ["holder","part"] (yf CP) "deepen") :
  bt P w K mg base (CXF P w) 9 f fd ["row"] (xC K CF CP):=by
 refine okX F uy (fun vs H Q E h=>?_) (fun cdv A outer s H vs Q E hr h=>?_)
 ·obtain ⟨a,bs,rfl,_⟩:=h
  rfl
 ·obtain ⟨a,bs,rfl,hs,hz,q⟩:=h
  have hr1:cq 1 _:=hr.mono (by decide)
  have hr2:cq 2 _:=hr.mono (by decide)
  have hr7:cq 7 _:=hr.mono (by decide)
  refine ⟨_,aq (bb (i:=1) uy.nd rfl (.inl rfl) (jF M GR hr2 rfl mRd bR .nil cx (ae (pv 0) aD)))
   (aq (bb (i:=2) uy.nd rfl (.inl rfl) (bJ GB hr7 rfl di (ae (pv 1) (ae aX aD))))
   (aq (bb (i:=3) uy.nd rfl (.inl rfl) (dP (ae (pv 2) aD)))
   (aq (gW PassesOwn.leaving (eB (pv 3) (fun _=>rfl))
    (aq (bb (i:=4) uy.nd rfl (.inl rfl) (dE cg (pv 3) (dY dk aX) (fun _ _=>rfl)))
    (aE (ck (eB (bJ GL hr1 rfl cx (ae (pv 4) aD)) (fun _=>rfl))
     (aE (cE (gX aZ PySem.F.slot_list_append PySem.F.type_list_append gZ (pv 3) (ae (bJ GM hr rfl di
      (ae (pv 1) (ae (pv 4) (ae (cY eZ (bM bW (by rfl) T.len a7 (ae (pv 3) aD)) aX) aD)))) aD))))
     (aq (cJ (pv 4) (aV (pv 1) rfl) rfl)
     (aq (cE (oA aZ PySem.F.slot_list_pop PySem.F.type_list_pop oG (pv 3)))
     (aE (ck (eB (pv 3) (fun _=>rfl)) (aE (cE (bJ GD hr1 rfl cx (ae (dE cg (pv 3) (dY dk aX) (fun _ _=>rfl)) (ae (pv 4) aD))))) bE))))))))
   (aq (ck (bh iG (aV (pv 1) rfl) (bM bW (by rfl) T.len a7 (ae (pv 0) aD)) (bw _))
    (aE (dI T.xc GI bI hr2 cC rfl rfl T.mF (ae (pgi e8 rfl) (ae (aV (pv 1) rfl) aD)))) bE)
   (aE (br (pv 2))))))),?_⟩
  try dsimp only [cD];refine ⟨_,rfl,fun r dr nr ndr nedr=>ex3 r dr a ⟨rfl,aA,fun H1 rd1 k1=>⟨rfl,?_⟩⟩⟩
  have s1:bH H H1:=bH.made nr ndr k1
  refine ⟨_,rfl,ex5 r a 1 0 bs ⟨rfl,rd1,s1.seq hs,aW _,hz,?_⟩⟩
  rw [dW];unfold Pm.wholeAt at q;cases eh:Pm.headAt 1 0 bs with
  | error e =>
   rw [eh] at q;exact q
  | ok x =>
   obtain ⟨k0,n0,i0,u0⟩:=x
   rw [eh] at q;dsimp only at q;obtain ⟨hu1,hu2,_⟩:=Pm.head_used eh
   rintro m nw l H2 ⟨nm,nn,nl,nml,nmn,nnl,⟨xm,pt⟩,ns,ls⟩ rd2 k2
   dsimp only at pt rd2;rw [f9] at pt;refine ⟨_,rfl,(by show 1≤sizeLine;decide),fun g hg=>?_⟩
   have s2:bH H H2:=fun b o e=>k2 b o (s1 b o e) (ah e nr)
   have s3:bH H2 (upd H2 g (.lst [.ref m])):=fun b o e=>(ai (ah e hg)).trans e
   have nlg:l≠g:=ah ls hg
   have nng:nw≠g:=ah ns hg
   have nnr:nw≠r:=fun z=>by obtain ⟨dz,hz1⟩:=rd1;rw [z,hz1] at nn;cases nn
   have ngH:H g=none:=s2.free hg
   generalize hR:Pm.fin bs [] ⟨k0,0,i0,0,n0,1,0,0⟩ [] u0=R at q;refine ⟨fun n σ G=>∃ v4,σ=[some (.ref a),some (.ref r),some (.ref m),some (.ref g),v4]∧∃ p,Base CR H G r a p bs∧((∃ D s rest,Turn CP CR H G D r a m g bs R n p s rest)∨(G g=some (.lst [])∧∃ t,R = .ok (t,p)∧kP CP bs G m t)),⟨2*(bs.length - u0)+1,?_⟩,?_⟩
   ·refine ⟨none,rfl,u0,⟨s2.trans s3,?_,hu2⟩,.inl ⟨upd (fun _=>none) nw (.lst []),⟨m,nw,l,[],⟨k0,0,i0,0,n0,1,0,0⟩,[]⟩,[],⟨aA,⟨?_,trivial⟩,?_,rfl,hR,rfl,hu1,?_,by rw [ai (Ne.symm nng)],by rw [ai (Ne.symm nnr)]⟩⟩⟩
    ·obtain ⟨dz,rz⟩:=rd2
     exact ⟨dz,s3 _ _ (by rw [rz,f9])⟩
    ·exact ⟨⟨xm,s3 _ _ pt⟩,aA,s3 _ _ ls,.nil,hu1,aK 1⟩
    ·exact ⟨by simp,by simp,fun s hs=>by rw [aG.mp hs];exact nlg,fun s hs=>by rw [aG.mp hs];exact ⟨by rw [ai nmn],by rw [ai (Ne.symm nnl)]⟩,
      fun s hs=>by rw [aG.mp hs];exact ⟨s1.free nm,s1.free nl⟩⟩
    ·intro y o e;by_cases yn:y=nw
     ·rw [yn,aA] at e;rw [yn,←e];exact s3 _ _ ns
     ·rw [ai yn] at e;cases e
   ·rintro n σ G ⟨v4,rfl,p,B,hcase⟩
    rcases hcase with ⟨D,s,rest,T0⟩ | ⟨hgl,t,eR,hw⟩
    ·
     obtain ⟨hf,hrest⟩:=T0.st
     obtain ⟨xs,hpt⟩:=hf.pt
     have hls:G s.l=some (.lst (s.as.map V.ref)):=by
      have:=hf.ls
      rw [bC] at this;exact this
     have egl:(((s::rest).map (·.a)).reverse.map V.ref)=((rest.map (·.a)).reverse.map V.ref)++[V.ref s.a]:=by
      rw [aY,dM,aL];rfl
     have hgl:=T0.lst
     refine ⟨_,rfl,_,.inl ⟨_,SqL.of hgl,rfl⟩,?_⟩
     rw [show (!(((s::rest).map (·.a)).reverse.map V.ref).isEmpty)=true by rw [egl];simp]
     refine cK ⟨_,fun σ' G' h=>h,?_⟩
     refine ⟨_,rfl,_,rfl,g,_,_,V.ref s.a,rfl,rfl,SqL.of hgl,by rw [egl];exact eC _ _,?_⟩
     refine ⟨_,rfl,ex5 s.a s.n s.l s.d s.as ⟨rfl,⟨xs,hpt⟩,hls,fun G1 sm=>⟨_,rfl,?_⟩⟩⟩
     have hlenH:∀ {x:Addr},G1 x=none→G x=none:=fun h=>sm.free h
     by_cases hc:(s.d.kind=5∨s.d.kind=6)∧s.as.length<s.d.size
     ·
      rw [ag hc];have hneed:s.mem.length<Pm.need s.d:=by
       unfold Pm.need;rw [if_pos hc.1,←hf.mem.len];exact hc.2
      have hpush:=Pm.fin_push bs (rL rest) s.d s.mem p hneed
      rw [T0.run,show (rL rest).length=rest.length from au ..] at hpush;have ngr:g≠r:=g0 hgl B.rd
      have ngl:g≠s.l:=Ne.symm (T0.ds.ng s (by simp))
      have nar:s.a≠r:=jC ⟨xs,hpt⟩ B.rd
      have rd1':eS CR G1 r a p:=let ⟨z,hz'⟩:=B.rd;⟨z,sm _ _ hz'⟩
      have elv:((((s::rest).map (·.a)).reverse.map V.ref).length:Int)+1=((rest.length+2:Nat):Int):=by
       rw [au,dU,au,aj];omega
      refine cK ⟨_,rfl,.inl ⟨rfl,_,SqL.of (sm _ _ hgl)⟩,_,rfl,_,rfl,_,rfl,ex2 g _ ⟨rfl,.inl (SqL.of (sm _ _ hgl)),ex2 _ _ ⟨rfl,rfl,r,a,s.a,s.n,s.l,rest.length+2,p,bs,s.d,s.as,Pm.prevOf bs s.mem,congrArg (fun z=>[V.ref r,V.ref s.a,V.int z]) elv,rd1',(B.same.trans sm).seq hs,B.le,hz,⟨xs,sm _ _ hpt⟩,sm _ _ hls,?_,fun _=>tj hf (T0.dn.trans sm),?_,?_⟩⟩⟩
      ·have:=hf.bd
       have:=B.le
       simp only [c9] at *;omega
      ·intro y hy;obtain ⟨j,hj⟩:=dv hy
       obtain ⟨t,_,ht⟩:=hf.mem.get hj
       obtain ⟨n',l',⟨dx',hx'⟩,_⟩:=ht.pt
       exact ah hx' T0.dr
      ·cases em:Pm.memAt (decide (s.d.kind=6)) (Pm.prevOf bs s.mem) (rest.length+2) p (bs.drop p) with
       | error e =>
        have em':Pm.memAt (Pm.isRec s.d) (Pm.prevOf bs s.mem) (rest.length+2) p (bs.drop p) = .error e:=em
        rw [em'] at hpush;rw [hpush] at q;exact q
       | ok x =>
        have em':Pm.memAt (Pm.isRec s.d) (Pm.prevOf bs s.mem) (rest.length+2) p (bs.drop p) = .ok x:=em
        rw [em'] at hpush;obtain ⟨mu1,mu2⟩:=uN em B.le
        intro m' nw' lm G2 np rd2' hlh kk
        have hg1:=sm _ _ hgl
        have hg2:=kk g _ hg1 ngr ngl
        have nmg:m'≠g:=fun z=>by rw [←z,np.nm] at hg1;cases hg1
        have nlmg:lm≠g:=fun z=>by rw [←z,np.nl] at hg1;cases hg1
        have nnmg:nw'≠g:=fun z=>by rw [←z,np.nn] at hg1;cases hg1
        have hdep:=T0.dep
        have hle:=B.le
        refine ex3 g _ _ ⟨rfl,rfl,hg2,by rw [au,dU,au];exact gv (bF hdep (bF hle hz)) (by decide),?_⟩
        generalize hG3:upd G2 g (.lst ((((s::rest).map (·.a)).reverse.map V.ref)++[V.ref m']))=G3;have stay:∀ y o,G y=some o→y≠r→y≠s.l→y≠g→G3 y=some o:=fun y o e h1 h2 h3=>by
         rw [←hG3,ai h3];exact kk y o (sm y o e) h1 h2
        have pstay:∀ y d n' l',gu CP G y d n' l'→∀ o,G y=some o→G3 y=some o:=fun y d n' l' hp o e=>stay y o e (jC hp B.rd) (dC hp hls) (dC hp hgl)
        have dn3:bH D G3:=fun y o e=>stay y o (T0.dn y o e) (ah e T0.dr) (ah e (T0.ds.da s (by simp)).2) (ah e T0.dg)
        have trk:∀ s'∈s::rest,∃ ch',rk CP p bs G D s' ch':=T0.st.fr
        have newne:∀ {y:Addr} {o:HO},G y=some o→y≠m':=fun e z=>by
         have:=sm _ _ e
         rw [z,np.nm] at this;cases this
        have newnl:∀ {y:Addr} {o:HO},G y=some o→y≠lm:=fun e z=>by
         have:=sm _ _ e
         rw [z,np.nl] at this;cases this
        have newnn:∀ {y:Addr} {o:HO},G y=some o→y≠nw':=fun e z=>by
         have:=sm _ _ e
         rw [z,np.nn] at this;cases this
        generalize hD':upd D nw' (.lst (tF bs (Pm.newD (decide (s.d.kind=6)) p x)))=D';have Dnw:D nw'=none:=(T0.dn.trans sm).free np.nn
        have sD:bH D D':=fun y o e=>by rw [←hD',ai (ah e Dnw)];exact e
        have Dn:∀ y,y≠nw'→D y=none→D' y=none:=fun y h1 h2=>by rw [←hD',ai h1];exact h2
        have hnw3:G3 nw'=some (.lst (tF bs (Pm.newD (decide (s.d.kind=6)) p x))):=by rw [←hG3,ai nnmg];exact np.ns
        have dn3':bH D' G3:=fun y o e=>by
         by_cases yn:y=nw'
         ·rw [yn,←hD',aA] at e;rw [yn,←e];exact hnw3
         ·rw [←hD',ai yn] at e;exact dn3 y o e
        refine ⟨2*(bs.length - (p+x.2.1+x.1+x.2.2.2.2.2))+(rest.length+2),by rw [T0.ms,aj];omega,_,rfl,p+x.2.1+x.1+x.2.2.2.2.2,⟨fun b o e=>?_,?_,mu1⟩,
         .inl ⟨D',⟨m',nw',lm,[],Pm.newD (decide (s.d.kind=6)) p x,[]⟩,s::rest,⟨?_,⟨?_,?_,?_⟩,?_,?_,hpush.symm,by rw [aj,aj],by rw [aj,aj] at *;omega,dn3',Dn _ (Ne.symm nnmg) T0.dg,Dn _ (let ⟨z,hz'⟩:=B.rd;newnn hz') T0.dr⟩⟩⟩
        ·exact stay b o (B.same b o e) (ah e nr) (ah e (T0.ds.f0 s (by simp)).2) (ah e ngH)
        ·obtain ⟨dz,rz⟩:=rd2'
         exact ⟨dz,by rw [←hG3,ai (Ne.symm ngr)];exact rz⟩
        ·rw [←hG3,aA,aY (l:=s::rest),dM,aL]
         rfl
        ·obtain ⟨dz,pz⟩:=np.pt
         exact ⟨⟨dz,by rw [←hG3,ai nmg];exact pz⟩,by rw [←hD',aA],by rw [←hG3,ai nlmg];exact np.ls,.nil,by show 0+0+1≤_;omega,aK 1⟩
        ·refine ⟨⟨xs,pstay _ _ _ _ ⟨xs,hpt⟩ _ hpt⟩,sD _ _ hf.nm,by rw [←hG3,ai (Ne.symm ngl)];exact hlh,hf.mem.same sD,?_,hf.dp⟩
         have:=hf.bd
         simp only [c9,aP] at *;omega
        ·refine hrest.keep (by omega) sD fun s' hs'=>?_
         obtain ⟨ch',f'⟩:=trk s' (by simp [hs'])
         refine ⟨fun o e=>pstay _ _ _ _ f'.pt o e,fun o e=>stay _ o e (g0 f'.ls B.rd) ?_ (T0.ds.ng s' (by simp [hs']))⟩
         have nd:=T0.ds.nl
         rw [aY,aS] at nd;exact fun z=>nd.1 (z▸dA hs')
        ·refine ⟨?_,?_,fun s' hs'=>?_,fun s' hs'=>?_,fun s' hs'=>?_⟩
         ·rw [aY,aS];refine ⟨fun hm=>?_,T0.ds.na⟩
          obtain ⟨s',hs',e'⟩:=dj.mp hm
          obtain ⟨ch',f'⟩:=trk s' hs'
          obtain ⟨dz,pz⟩:=f'.pt
          exact newne pz e'
         ·rw [aY,aS];refine ⟨fun hm=>?_,T0.ds.nl⟩
          obtain ⟨s',hs',e'⟩:=dj.mp hm
          obtain ⟨ch',f'⟩:=trk s' hs'
          exact newnl f'.ls e'
         ·rcases aB.mp hs' with rfl | hs'
          ·exact nlmg
          ·exact T0.ds.ng s' hs'
         ·rcases aB.mp hs' with rfl | hs'
          ·exact ⟨Dn _ np.nmn ((T0.dn.trans sm).free np.nm),Dn _ (Ne.symm np.nnl) ((T0.dn.trans sm).free np.nl)⟩
          ·obtain ⟨ch',f'⟩:=trk s' hs'
           obtain ⟨dz,pz⟩:=f'.pt
           exact ⟨Dn _ (newnn pz) (T0.ds.da s' hs').1,Dn _ (newnn f'.ls) (T0.ds.da s' hs').2⟩
         ·rcases aB.mp hs' with rfl | hs'
          ·exact ⟨(B.same.trans sm).free np.nm,(B.same.trans sm).free np.nl⟩
          ·exact T0.ds.f0 s' hs'
        ·have:=T0.bot
         rw [aY] at this;rw [aY,aY,eW];exact this
     ·
      rw [af hc];have hneed:Pm.need s.d≤s.mem.length:=by
       unfold Pm.need;rw [←hf.mem.len];by_cases hk:s.d.kind=5∨s.d.kind=6
       ·rw [if_pos hk];exact fG fun z=>hc ⟨hk,z⟩
       ·rw [if_neg hk];exact aW _
      have hpop:=Pm.fin_pop bs (rL rest) s.d s.mem p hneed hf.dp
      rw [T0.run] at hpop;obtain ⟨dr2,hrd⟩:=B.rd
      have nar:s.a≠r:=jC ⟨xs,hpt⟩ B.rd
      have nag:s.a≠g:=dC ⟨xs,hpt⟩ hgl
      have nal:s.a≠s.l:=dC ⟨xs,hpt⟩ hls
      refine cA ⟨_,rfl,r,CR,dr2,_,_,rfl,sm _ _ hrd,T.cR,T.nPl,de a p,_,rfl,s.a,CP,xs,_,rfl,sm _ _ hpt,TP.cP,TP.nEn,(by show 9<1000;decide),?_⟩
      generalize hG2:upd G1 s.a (.ins CP xs (eJ "end" (.int (p:Int)) (pf s.d s.n s.l)))=G2;have hpt2:G2 s.a=some (.ins CP xs (pf { s.d with fin:=p } s.n s.l)):=by rw [←hG2,aA];rfl
      have st2:∀ y o,G y=some o→y≠s.a→G2 y=some o:=fun y o e h=>by rw [←hG2,ai h];exact sm y o e
      have hg2:=st2 g _ hgl (Ne.symm nag)
      refine ⟨_,rfl,.inl ⟨rfl,_,SqL.of hg2⟩,g,_,V.ref s.a,rfl,rfl,hg2,by rw [egl,aa,aP,Nat.add_sub_cancel];simp,?_⟩
      rw [egl,dO];generalize hG3:upd G2 g (.lst ((rest.map (·.a)).reverse.map V.ref))=G3;have hg3:G3 g=some (.lst ((rest.map (·.a)).reverse.map V.ref)):=by rw [←hG3,aA]
      have st3:∀ y o,G y=some o→y≠s.a→y≠g→G3 y=some o:=fun y o e h1 h2=>by rw [←hG3,ai h2];exact st2 y o e h1
      have hpt3:G3 s.a=some (.ins CP xs (pf { s.d with fin:=p } s.n s.l)):=by rw [←hG3,ai nag];exact hpt2
      have sameG3:bH H G3:=fun b o e=>st3 b o (B.same b o e) (ah e (T0.ds.f0 s (by simp)).1) (ah e ngH)
      have dn3:bH D G3:=fun y o e=>st3 y o (T0.dn y o e) (ah e (T0.ds.da s (by simp)).1) (ah e T0.dg)
      have hls3:G3 s.l=some (.lst (s.as.map V.ref)):=st3 _ _ hls (Ne.symm nal) (T0.ds.ng s (by simp))
      refine ⟨_,rfl,_,.inl ⟨_,SqL.of hg3,rfl⟩,?_⟩
      cases rest with
      | nil =>
       refine cA ⟨0,by rw [T0.ms,aj];omega,_,rfl,p,⟨sameG3,⟨dr2,st3 _ _ hrd (Ne.symm nar) (Ne.symm (g0 hgl B.rd))⟩,B.le⟩,.inr ⟨hg3,.node { s.d with fin:=p } s.mem,hpop,?_⟩⟩
       have hb:some s.a=some m:=T0.bot
       injection hb with hb;subst hb;exact .mk ⟨xs,hpt3⟩ (dn3 _ _ hf.nm) hls3 (hf.mem.same dn3)
      | cons s2 rest2 =>
       obtain ⟨hf2,hrest2⟩:=hrest
       obtain ⟨xs2,hpt_2⟩:=hf2.pt
       have nd:=T0.ds.na
       rw [aY,aS] at nd;have nd2:=nd.2
       rw [aY,aS] at nd2;have n12:s2.a≠s.a:=fun z=>nd.1 (z▸by simp)
       have n2g:s2.a≠g:=dC ⟨xs2,hpt_2⟩ hgl
       have hpt_23:=st3 _ _ hpt_2 n12 n2g
       rw [show (!((((s2::rest2).map (·.a)).reverse.map V.ref)).isEmpty)=true by rw [aY,dM,aL];simp]
       refine cK ⟨_,rfl,_,rfl,g,_,_,V.ref s2.a,rfl,rfl,SqL.of hg3,by rw [aY,dM,aL];exact eC _ _,_,rfl,
        s2.a,s.a,s2.n,s2.l,s.n,s.l,s2.d,{ s.d with fin:=p },rfl,⟨xs2,hpt_23⟩,⟨xs,hpt3⟩,fun G4 pt4 k4=>?_⟩
       have st4:∀ y o,G y=some o→y≠s.a→y≠g→y≠s2.a→G4 y=some o:=fun y o e h1 h2 h3=>k4 y o (st3 y o e h1 h2) h3
       have hls4:G4 s.l=some (.lst (s.as.map V.ref)):=k4 _ _ hls3 (Ne.symm (dC ⟨xs2,hpt_2⟩ hls))
       generalize hD:upd (upd D s.a (.ins CP xs (pf { s.d with fin:=p } s.n s.l))) s.l (.lst (s.as.map V.ref))=D'
       obtain ⟨ds1,ds2⟩:=T0.ds.da s (by simp)
       have sD:bH D D':=fun y o e=>by rw [←hD,ai (ah e ds2),ai (ah e ds1)];exact e
       have Da:D' s.a=some (.ins CP xs (pf { s.d with fin:=p } s.n s.l)):=by rw [←hD,ai nal,aA]
       have Dl:D' s.l=some (.lst (s.as.map V.ref)):=by rw [←hD,aA]
       have Dn:∀ y,y≠s.a→y≠s.l→D y=none→D' y=none:=fun y h1 h2 h3=>by rw [←hD,ai h2,ai h1];exact h3
       have dn4:bH D' G4:=fun y o e=>by
        by_cases y1:y=s.l
        ·rw [y1,Dl] at e;rw [y1,←e];exact hls4
        ·by_cases y2:y=s.a
         ·rw [y2,Da] at e;rw [y2,←e];exact k4 _ _ hpt3 (Ne.symm n12)
         ·rw [←hD,ai y1,ai y2] at e;exact st4 y o (T0.dn y o e) y2 (ah e T0.dg) (ah e (T0.ds.da s2 (by simp)).1)
       have ndl:=T0.ds.nl
       rw [aY,aS] at ndl;have Dst:∀ s'∈s2::rest2,D' s'.a=none∧D' s'.l=none:=fun s' hs'=>by
        obtain ⟨ch',f'⟩:=T0.st.fr s' (ax _ hs')
        obtain ⟨q1,q2⟩:=T0.ds.da s' (ax _ hs')
        refine ⟨Dn _ (fun z=>nd.1 (z▸dA hs')) (dC f'.pt hls) q1,Dn _ (Ne.symm (dC ⟨xs,hpt⟩ f'.ls)) (fun z=>ndl.1 (z▸dA hs')) q2⟩
       refine ⟨2*(bs.length - p)+(rest2.length+1),by rw [T0.ms,aj,aj];omega,_,rfl,p,
        ⟨fun b o e=>k4 b o (sameG3 b o e) (ah e (T0.ds.f0 s2 (by simp)).1),⟨dr2,st4 _ _ hrd (Ne.symm nar) (Ne.symm (g0 hgl B.rd)) (Ne.symm (jC ⟨xs2,hpt_2⟩ B.rd))⟩,B.le⟩,
        .inl ⟨D',⟨s2.a,s2.n,s2.l,s2.as++[s.a],{ s2.d with depth:=max s2.d.depth (s.d.depth+1) },s2.mem++[.node { s.d with fin:=p } s.mem]⟩,rest2,⟨?_,⟨?_,?_⟩,?_,?_,by rw [hpop];rfl,by rw [aj],?_,dn4,
         Dn _ (Ne.symm nag) (Ne.symm (T0.ds.ng s (by simp))) T0.dg,Dn _ (Ne.symm nar) (Ne.symm (g0 hls B.rd)) T0.dr⟩⟩⟩
       ·exact k4 g _ hg3 (Ne.symm n2g)
       ·refine ⟨pt4,sD _ _ hf2.nm,?_,(hf2.mem.same sD).snoc (.mk ⟨xs,Da⟩ (sD _ _ hf.nm) Dl (hf.mem.same sD)),?_,?_⟩
        ·show G4 s2.l=some (.lst ((s2.as++[s.a]++[]).map V.ref))
         rw [bC];exact st4 _ _ hf2.ls (Ne.symm (dC ⟨xs,hpt⟩ hf2.ls)) (T0.ds.ng s2 (by simp)) (Ne.symm (dC ⟨xs2,hpt_2⟩ hf2.ls))
        ·show (s2.as++[s.a]).length+0+1≤p
         have:=hf2.bd
         rw [aa];simp only [aP] at *;omega
        ·show 1≤max s2.d.depth (s.d.depth+1)
         omega
       ·refine hrest2.keep (aK _) sD fun s' hs'=>?_
        obtain ⟨ch',f'⟩:=T0.st.fr s' (by simp [hs'])
        refine ⟨fun o e=>?_,fun o e=>?_⟩
        ·refine st4 _ o e (fun z=>nd.1 (z▸?_)) (dC f'.pt hgl) (fun z=>nd2.1 (z▸dA hs'))
         rw [aY];exact ax _ (dA hs')
        ·exact st4 _ o e (Ne.symm (dC ⟨xs,hpt⟩ f'.ls)) (T0.ds.ng s' (by simp [hs'])) (Ne.symm (dC ⟨xs2,hpt_2⟩ f'.ls))
       ·refine ⟨nd.2,ndl.2,fun s' hs'=>?_,fun s' hs'=>?_,fun s' hs'=>?_⟩
        ·rcases aB.mp hs' with rfl | hs'
         ·exact T0.ds.ng s2 (by simp)
         ·exact T0.ds.ng s' (by simp [hs'])
        ·rcases aB.mp hs' with rfl | hs'
         ·exact Dst s2 (by simp)
         ·exact Dst s' (by simp [hs'])
        ·rcases aB.mp hs' with rfl | hs'
         ·exact T0.ds.f0 s2 (by simp)
         ·exact T0.ds.f0 s' (by simp [hs'])
       ·have:=T0.bot
        rw [aY,aY,eW] at this;exact this
       ·have:=T0.dep
        rw [aj,aj] at this;rw [aj];omega
    ·
     refine ⟨_,rfl,_,.inl ⟨_,SqL.of hgl,rfl⟩,cA ?_⟩
     subst eR;obtain ⟨dr2,hrd⟩:=B.rd
     have hsq:=B.same.seq hs
     refine ⟨_,rfl,ex5 r CR dr2 _ _ ⟨rfl,hrd,T.cR,T.nPl,de a p,_,rfl,ex2 a _ ⟨rfl,.inl hsq,ex2 _ _ ⟨rfl,rfl,_,rfl,?_⟩⟩⟩⟩
     rw [au];dsimp only at q;by_cases hlt:p<bs.length
     ·rw [if_pos hlt] at q;rw [ag (show (p:Int)<(bs.length:Int) by omega)]
      exact cK ⟨_,rfl,ex5 r CR dr2 _ _ ⟨rfl,hrd,T.cR,T.nPl,de a p,_,_,rfl,q⟩⟩
     ·rw [if_neg hlt] at q;rw [af (show ¬(p:Int)<(bs.length:Int) by omega)]
      exact cA ⟨_,rfl,q m G hw B.same⟩
end
theorem scIB:ba ["row","part"] ["row","part"] (aQ sIB):=fs_
theorem ok_IB {f:Addr} {fd:FuncData} (F:Fun K "inner_bytes" "inner_bytes" sIB f fd) (TP:TxP K mg CP):bt P w K mg base CX0 1 f fd ["row","part"] (vw K CP):=by
 refine F.ok scIB (fun vs H Q E h=>?_) (fun cdv A outer s H vs Q E hr h=>?_)
 ·obtain ⟨a,m,n,l,d,bs,rfl,_⟩:=h
  rfl
 ·obtain ⟨a,m,n,l,d,bs,rfl,hs,⟨dx,hm⟩,h1,h2,q⟩:=h
  refine ⟨_,aE (br (gi ik (pv 0) (eY (aV (pv 1) rfl)) (eY (aV (pv 1) rfl)))),?_⟩
  try dsimp only [cD];refine ⟨_,rfl,_,rfl,ex5 m CP dx _ _ ⟨rfl,hm,TP.cP,TP.nIn,rfl,_,rfl,_,rfl,ex5 m CP dx _ _ ⟨rfl,hm,TP.cP,TP.nEn,rfl,_,rfl,ex2 a _ ⟨rfl,hs,fun x hx=>?_⟩⟩⟩⟩
  have e:=jb bs d.ins (d.fin - d.ins) (by omega) (x:=(d.ins:Int)) (y:=(d.fin:Int)) rfl (by omega)
  rw [e];exact q x hx
structure Nd (CP:Addr) (H:Hp) (bs:List UInt8) (m:Addr) (v:Sw.Value) (p np:Nat) (n:List UInt8):Prop where
 tr:kP CP bs H m (Pm.trV v p np n.length)
 at_:Pm.At bs p v
 nm:(bs.drop np).take n.length=n∧np+n.length≤bs.length
 pl:v.plain=true
theorem Nd.same {CP:Addr} {H H':Hp} {bs:List UInt8} {m:Addr} {v:Sw.Value} {p np:Nat} {n:List UInt8} (h:Nd CP H bs m v p np n) (k:bH H H'):Nd CP H' bs m v p np n:=⟨h.tr.same k,h.at_,h.nm,h.pl⟩
theorem Nd.pt {CP:Addr} {H:Hp} {bs:List UInt8} {m:Addr} {v:Sw.Value} {p np:Nat} {n:List UInt8} (h:Nd CP H bs m v p np n) :
  ∃ (nl l:Addr) (as:List Addr) (dx:Addr),H nl=some (.lst (n.map bv))∧H m=some (.ins CP dx (pf (Pm.pdOf v p np n.length) nl l))∧H l=some (.lst (as.map V.ref))∧as.length=(Pm.rowOf v).length ∧
   ∀ (i:Nat) (a:Addr),as[i]? = some a→∃ n' w np',v.member i=some (n',w)∧Nd CP H bs a w (Pm.mplace v p i) np' n':=by
 have ht:=h.tr
 rw [Pm.trV_eq] at ht;cases ht with
 | mk h1 h0 h2 h3 =>
  rename_i nl l as
  obtain ⟨dx,h1⟩:=h1
  have en:tF bs (Pm.pdOf v p np n.length)=n.map bv:=congrArg (List.map bv) h.nm.1
  refine ⟨nl,l,as,dx,by rw [←en];exact h0,h1,h2,by rw [h3.len,Pm.trM_len],fun i a e=>?_⟩
  obtain ⟨t,e1,e2⟩:=h3.get e
  rw [Pm.trM_get] at e1;cases em:v.member i with
  | none=>rw [em] at e1;cases e1
  | some x =>
   obtain ⟨n',w⟩:=x
   rw [em] at e1;have e1:some (Pm.trV w (Pm.mplace v p i) (if Pm.namedOf v=true then Pm.mplace v p i - n'.length else 0) n'.length)=some t:=e1
   injection e1 with e1;subst e1;obtain ⟨a1,a2⟩:=h.at_.mem em
   obtain ⟨b1,b2⟩:=Pm.name_of h.pl em
   refine ex3 n' w _ ⟨rfl,e2,a1,?_,Pm.plain_mem h.pl em⟩
   cases hn:Pm.namedOf v with
   | true =>
    obtain ⟨c1,c2⟩:=a2 hn
    have:=a1.le
    rw [if_pos rfl];exact ⟨c2,by omega⟩
   | false =>
    rw [if_neg aI,b1 hn];exact ⟨rfl,by simp⟩
theorem Nd.whole {CP:Addr} {H:Hp} {bs:List UInt8} {m:Addr} {v:Sw.Value} (h:kP CP bs H m (Pm.trV v 0 0 0)) (e:v.enc=bs) (pl:v.plain=true):Nd CP H bs m v 0 0 [] :=
 ⟨h,by unfold Pm.At;rw [e];exact ⟨[],by simp⟩,⟨rfl,by simp⟩,pl⟩
def yi (K:Fg_):Sp:=fun vs H Q _=>∃ (x:Addr) (b:List UInt8),vs=[.ref x]∧SqL K H x (b.map bv)∧Q (.int ((Sw.ofLe b:Nat):Int)) H
def xX (K:Fg_) (CP:Addr):Sp:=fun vs H Q _=>∃ (a m:Addr) (bs:List UInt8) (z:Int) (p np:Nat) (n:List UInt8),vs=[.ref a,.ref m]∧SqL K H a (bs.map bv)∧Nd CP H bs m (.num z) p np n∧∀ H':Hp,bH H H'→Q (.int z) H'
theorem vL:ba ["row","amount","byte"] ["row"] (aQ sAO):=fs_
theorem ok_AO {f:Addr} {fd:FuncData} (F:Fun K "amount_of" "amount_of" sAO f fd) (hrev:mg "reversed" = none):bt P w K mg base CX0 1 f fd ["row"] (yi K):=by
 refine F.ok vL (fun vs H Q E h=>?_) (fun cdv A outer s H vs Q E hr h=>?_)
 ·obtain ⟨x,b,rfl,_⟩:=h
  rfl
 ·obtain ⟨x,b,rfl,hs,q⟩:=h
  refine ⟨_,aq (bb (i:=1) vL.nd rfl (.inl rfl) aX)
   (aq (mq PassesOwn.never rfl (pP rfl hrev (ae (pv 0) aD)) (iu (i:=2) vL.nd rfl (.inl rfl))
    (aE (bb (i:=1) vL.nd rfl (.inl rfl) (cY eZ (cY uH (pv 1) aX) (pv 2)))))
   (aE (br (pv 1)))),?_⟩
  try dsimp only [cD];refine ⟨_,rfl,ex2 x _ ⟨rfl,hs,wo (xs:=b.map bv) (fun i σ H'=>H'=H∧∃ (am:Int) (v2:Option V),σ=[some (.ref x),some (.int am),v2]∧am=((Sw.ofLe (b.drop (b.length - i)):Nat):Int)) ⟨rfl,ex2 0 none ⟨rfl,?_⟩⟩ ?_ ?_ ?_⟩⟩
  ·rw [Nat.sub_zero,dX];rfl
  ·rintro i σ H' _ ⟨rfl,_⟩
   exact hs
  ·rintro i y σ H' hi hy ⟨rfl,am,v2,rfl,ham⟩
   rw [au] at hi hy;rw [bq] at hy;have hlt:b.length - 1 - i<b.length:=by omega
   rw [aJ hlt] at hy;have hy:bv b[b.length - 1 - i]=y:=a8 hy
   subst hy;have ed:b.drop (b.length - (i+1))=b[b.length - 1 - i]::b.drop (b.length - i):=by
    have e1:b.length - (i+1)=b.length - 1 - i:=by omega
    have e2:b.length - 1 - i+1=b.length - i:=by omega
    rw [e1,bj hlt,e2]
   generalize b[b.length - 1 - i]=c at ed;refine ⟨_,rfl,ex2 _ _ ⟨rfl,rfl,.inr ⟨by decide,by decide⟩,_,rfl,ex2 _ _ ⟨rfl,rfl,?_⟩⟩⟩
   refine ⟨rfl,ex2 _ _ ⟨rfl,?_⟩⟩
   rw [ed];show am*256+(c.toNat:Int)=((c.toNat+256*Sw.ofLe (b.drop (b.length - i)):Nat):Int)
   rw [ham];omega
  ·rintro σ H' ⟨rfl,am,v2,rfl,ham⟩
   rw [au,Nat.sub_self,dW] at ham;rw [←ham] at q;exact ⟨_,rfl,q⟩
theorem yu:ba ["row","part","amount","told"] ["row","part"] (aQ sNO):=fs_
theorem ok_NO {f fIB fAO:Addr} {fd fdI fdA:FuncData} (F:Fun K "number_of" "number_of" sNO f fd) (TP:TxP K mg CP)
  (GI:Co P w K mg base CX0 1 fIB fdI ["row","part"] (vw K CP) "inner_bytes")
  (GA:Co P w K mg base CX0 1 fAO fdA ["row"] (yi K) "amount_of") :
  bt P w K mg base CX0 2 f fd ["row","part"] (xX K CP):=by
 refine F.ok yu (fun vs H Q E h=>?_) (fun cdv A outer s H vs Q E hr h=>?_)
 ·obtain ⟨a,m,bs,z,p,np,n,rfl,_⟩:=h
  rfl
 ·obtain ⟨a,m,bs,z,p,np,n,rfl,hs,nd,q⟩:=h
  refine ⟨_,aq (bb (i:=2) yu.nd rfl (.inl rfl) (bJ GA hr rfl cx (ae (bJ GI hr rfl cx (ae (pv 0) (ae (pv 1) aD))) aD)))
   (aq (bb (i:=3) yu.nd rfl (.inl rfl) (dE cg (pv 0) (cY eZ (aV (pv 1) rfl) aX) (fun _ _=>rfl)))
   (aE (br (jG (bh dR (cY oB (pv 3) aX) aX (bw _)) (dY dk (pv 2)) (pv 2))))),?_⟩
  try dsimp only [cD];obtain ⟨nn,l,as,dx,hn,h1,_⟩:=nd.pt
  obtain ⟨i1,i2⟩:=nd.at_.inner
  have hle:=nd.at_.le
  obtain ⟨c,hc,hsg⟩:=nd.at_.sign
  refine ⟨_,rfl,_,rfl,ex6 a m nn l _ bs ⟨rfl,hs,⟨dx,h1⟩,by show p+Pm.ioff _≤p+_;omega,hle,fun x hx=>?_⟩⟩
  have k1:bH H (upd H x (.lst (((bs.drop (Pm.pdOf (.num z) p np n.length).ins).take ((Pm.pdOf (.num z) p np n.length).fin - (Pm.pdOf (.num z) p np n.length).ins)).map bv))):=fun b o e=>(ai (ah e hx)).trans e
  have i1':((bs.drop (Pm.pdOf (.num z) p np n.length).ins).take ((Pm.pdOf (.num z) p np n.length).fin - (Pm.pdOf (.num z) p np n.length).ins))=Pm.inner (.num z):=i1
  refine ⟨x,Pm.inner (.num z),rfl,by rw [i1'];exact SqL.of aA,?_⟩
  rw [Pm.num_of];refine ⟨_,rfl,_,rfl,ex5 m CP dx _ _ ⟨rfl,k1 _ _ h1,TP.cP,TP.nPl,rfl,ex2 _ _ ⟨rfl,rfl,a,_,_,bv c,rfl,rfl,k1.seq hs,vc (show (((p:Nat):Int)+1)=((p+1:Nat):Int) by omega) (by rw [bq,hc];rfl),?_⟩⟩⟩
  have e2:((c.toNat:Int) % 2)=((c.toNat % 2:Nat):Int):=by omega
  refine ⟨_,rfl,ex2 _ _ ⟨rfl,rfl,(by show (0:Int)<2;decide),rfl,_,rfl,?_⟩⟩
  rw [iz,e2,hsg];by_cases hz:z<0
  ·rw [if_pos hz,ag (by decide)]
   refine cK ⟨_,rfl,_,rfl,?_⟩
   show Q (V.int (-((z.natAbs:Nat):Int))) _
   rw [show -((z.natAbs:Nat):Int)=z by omega]
   exact q _ k1
  ·rw [if_neg hz,af (by decide)]
   refine cA ⟨_,rfl,?_⟩
   show Q (V.int ((z.natAbs:Nat):Int)) _
   rw [show ((z.natAbs:Nat):Int)=z by omega]
   exact q _ k1
theorem kI {K:Fg_} {C T:Addr} {b:Bool} {oc:Value} {od:Option Addr} {cd:ClassData} {sl:Array (Option Value)} (h1:PySem.W.subIn K (.ref T) (.type "BaseException")=some true) (h2:K.lookup T=some ⟨oc,od,.cls cd,sl⟩) (h3:PySem.W.typeIn K (.ref T)=some (.type "type"))
  (h4:PySem.W.subIn K (.ref C) (.ref T)=some b):PySem.W.exmOne K (.ref C) (.ref T)=some b:=by
 unfold PySem.W.exmOne;rw [h1,if_pos (by decide)]
 unfold PySem.W.kitCls;have hc:PySem.W.clsIn K T=some cd:=by
  unfold PySem.W.clsIn;rw [h2]
 show (if ((PySem.W.clsIn K T).isSome&&PySem.W.typeIn K (.ref T)==some (.type "type"))=true then PySem.W.subIn K (.ref C) (.ref T) else none)=some b
 rw [hc,h3,if_pos (by simp),h4]
def uq (K:Fg_) (U:Addr):Sp:=fun vs H Q _=>∃ (e C fI:Addr) (v:V),vs=[.ref e,v]∧f6 K U C fI∧H e=some (XE e C none)∧∀ dx,H dx=none→dx≠e→Q .non (upd (upd H dx (XD dx [("answer",v)])) e (XE e C (some dx)))
def aNP:List V→List V:=fun _=>[.int (-5)]
def aLN:List V→List V:=fun vs=>.int (-4)::vs
def aNV:List V→List V:=fun _=>[.int (-9)]
theorem scUI:ba ["self","answer"] ["self","answer"] (aQ sUI):=fs_
theorem ok_UI {f:Addr} {fd:FuncData} (F:Fun K "__init__" "Refusal.__init__" sUI f fd):bt P w K mg base CX0 1 f fd ["self","answer"] (uq K U):=by
 refine F.ok scUI (fun vs H Q E h=>?_) (fun cdv A outer s H vs Q E hr h=>?_)
 ·obtain ⟨e,C,fI,v,rfl,_⟩:=h
  rfl
 ·obtain ⟨e,C,fI,v,rfl,c,he,q⟩:=h
  refine ⟨_,aE (ps_u1 (U:=U) (pv 0) (pv 1) rfl),?_⟩
  try dsimp only [cD];exact ⟨_,rfl,_,rfl,e,C,fI,rfl,c,he,fun dx h1 h2=>q dx h1 h2⟩
theorem qo {e C a dx:Addr} {H:Hp} {ans:List V} (he:H e=some (XE e C none)) (ha:H a=none) (hd:upd H a (.lst ans) dx=none) (ne:dx≠e) :
  let H':=upd (upd (upd H a (.lst ans)) dx (XD dx [("answer",.ref a)])) e (XE e C (some dx))
  H' e=some (XE e C (some dx))∧H' dx=some (XD dx [("answer",.ref a)])∧H' a=some (.lst ans):=by
 have nae:a≠e:=fun z=>by rw [z,he] at ha;cases ha
 have nad:a≠dx:=fun z=>by rw [z,aA] at hd;cases hd
 refine ⟨aA,?_,?_⟩
 ·rw [ai ne];exact aA
 ·rw [ai nae,ai nad];exact aA
theorem scUP:ba ["self"] ["self"] (aQ sUP):=fs_
theorem ok_UP {f fUI C fI:Addr} {fd fdU:FuncData} (F:Fun K "__init__" "NoPath.__init__" sUP f fd) (uc:f6 K U C fI) (cU:qj K U "__init__" fUI) (mU:mg "Refusal" = some (.ref U)) (GU:bt P w K mg base CX0 1 fUI fdU ["self","answer"] (uq K U)) (bU:cB K fdU ["self","answer"] []) :
  bt P w K mg base CX0 2 f fd ["self"] (iL C 0 aNP):=by
 refine F.ok scUP (fun vs H Q E h=>?_) (fun cdv A outer s H vs Q E hr h=>?_)
 ·obtain ⟨e,rest,rfl,hn,_⟩:=h
  rw [aj,hn]
  rfl
 ·obtain ⟨e,rest,rfl,hn,he,q⟩:=h
  obtain rfl:rest=[]:=cy.mp hn
  refine ⟨_,aE (cE (oy rfl mU cU GU hr bU .nil cx (ae (pv 0) (ae (dP (ae (dY dk aX) aD)) aD)))),?_⟩
  try dsimp only [cD]
  refine ⟨_,rfl,_,rfl,(by show 1≤sizeLine;decide),fun a ha=>⟨e,C,fI,.ref a,rfl,uc,?_,fun dx hd ne=>?_⟩⟩
  ·rw [ai (fun z=>by rw [←z,he] at ha;cases ha)]
   exact he
  ·obtain ⟨e1,e2,e3⟩:=qo he ha hd ne
   exact q dx a _ ne e1 e2 e3
theorem scUL:ba ["self","leading"] ["self","leading"] (aQ sUL):=fs_
theorem ok_UL {f fUI C fI:Addr} {fd fdU:FuncData} (F:Fun K "__init__" "LeadsNowhere.__init__" sUL f fd) (uc:f6 K U C fI) (cU:qj K U "__init__" fUI) (mU:mg "Refusal" = some (.ref U)) (GU:bt P w K mg base CX0 1 fUI fdU ["self","answer"] (uq K U)) (bU:cB K fdU ["self","answer"] []) :
  bt P w K mg base CX0 2 f fd ["self","leading"] (iL C 1 aLN):=by
 refine F.ok scUL (fun vs H Q E h=>?_) (fun cdv A outer s H vs Q E hr h=>?_)
 ·obtain ⟨e,rest,rfl,hn,_⟩:=h
  rw [aj,hn]
  rfl
 ·obtain ⟨e,rest,rfl,hn,he,q⟩:=h
  match rest,hn with
  | [v],_ =>
   refine ⟨_,aE (cE (oy rfl mU cU GU hr bU .nil cx (ae (pv 0) (ae (dP (ae (dY dk aX) (ae (pv 1) aD))) aD)))),?_⟩
   try dsimp only [cD]
   refine ⟨_,rfl,_,rfl,_,rfl,(by show 2≤sizeLine;decide),fun a ha=>⟨e,C,fI,.ref a,rfl,uc,?_,fun dx hd ne=>?_⟩⟩
   ·rw [ai (fun z=>by rw [←z,he] at ha;cases ha)]
    exact he
   ·obtain ⟨e1,e2,e3⟩:=qo he ha hd ne
    exact q dx a _ ne e1 e2 e3
theorem scUV:ba ["self"] ["self"] (aQ sUV):=fs_
theorem ok_UV {f fUI C fI:Addr} {fd fdU:FuncData} (F:Fun K "__init__" "NoValue.__init__" sUV f fd) (uc:f6 K U C fI) (cU:qj K U "__init__" fUI) (mU:mg "Refusal" = some (.ref U)) (GU:bt P w K mg base CX0 1 fUI fdU ["self","answer"] (uq K U)) (bU:cB K fdU ["self","answer"] []) :
  bt P w K mg base CX0 2 f fd ["self"] (iL C 0 aNV):=by
 refine F.ok scUV (fun vs H Q E h=>?_) (fun cdv A outer s H vs Q E hr h=>?_)
 ·obtain ⟨e,rest,rfl,hn,_⟩:=h
  rw [aj,hn]
  rfl
 ·obtain ⟨e,rest,rfl,hn,he,q⟩:=h
  obtain rfl:rest=[]:=cy.mp hn
  refine ⟨_,aE (cE (oy rfl mU cU GU hr bU .nil cx (ae (pv 0) (ae (dP (ae (dY dk aX) aD)) aD)))),?_⟩
  try dsimp only [cD]
  refine ⟨_,rfl,_,rfl,(by show 1≤sizeLine;decide),fun a ha=>⟨e,C,fI,.ref a,rfl,uc,?_,fun dx hd ne=>?_⟩⟩
  ·rw [ai (fun z=>by rw [←z,he] at ha;cases ha)]
   exact he
  ·obtain ⟨e1,e2,e3⟩:=qo he ha hd ne
   exact q dx a _ ne e1 e2 e3
def gq (H:Hp) (v:V):Sw.Step→Prop
 | .index z=>v = .int z
 | .name n=>∃ a,v = .ref a∧H a=some (.lst (n.map bv))
def StepN (H H':Hp) (v:V):Sw.Step→Prop
 | .index z=>v = .int z
 | .name n=>∃ a,v = .ref a∧H a=none∧H' a=some (.lst (n.map bv))
theorem gq.same {H H':Hp} {v:V}:∀ {s:Sw.Step},gq H v s→bH H H'→gq H' v s
 | .index _,h,_=>h
 | .name _,⟨a,e,h⟩,k=>⟨a,e,k _ _ h⟩
inductive du (H:Hp):List V→List Sw.Step→Prop
 | nil:du H [] []
 | cons {v:V} {vs:List V} {s:Sw.Step} {l:List Sw.Step}:gq H v s→du H vs l→du H (v::vs) (s::l)
theorem du.len {H:Hp} {vs:List V} {l:List Sw.Step} (h:du H vs l):vs.length=l.length:=by
 induction h with
 | nil=>rfl
 | cons _ _ ih=>rw [aj,aj,ih]
theorem du.same {H H':Hp} {vs:List V} {l:List Sw.Step} (h:du H vs l) (k:bH H H'):du H' vs l:=by
 induction h with
 | nil=>exact .nil
 | cons h1 _ ih=>exact .cons (h1.same k) ih
theorem du.get {H:Hp} {vs:List V} {l:List Sw.Step} (h:du H vs l):∀ {i:Nat} {v:V},vs[i]? = some v→∃ s,l[i]? = some s∧gq H v s:=by
 induction h with
 | nil=>intro i v e;simp at e
 | cons h1 _ ih =>
  intro i v e;cases i with
  | zero =>
   have e:some _=some v:=e
   injection e with e;subst e;exact ⟨_,rfl,h1⟩
  | succ i=>exact ih e
theorem du.snoc {H:Hp} {vs:List V} {l:List Sw.Step} {v:V} {s:Sw.Step} (h:du H vs l) (h1:gq H v s):du H (vs++[v]) (l++[s]):=by
 induction h with
 | nil=>exact .cons h1 .nil
 | cons h2 _ ih=>exact .cons h2 ih
theorem du.up {H:Hp} {vs:List V} {l:List Sw.Step} {D:Addr} {o:HO} (h:du H vs l) (hd:∀ v∈vs,v≠.ref D):du (upd H D o) vs l:=by
 induction h with
 | nil=>exact .nil
 | @cons v vs s l h1 _ ih =>
  refine .cons ?_ (ih fun v hv=>hd v (ax _ hv))
  cases s with
  | index z=>exact h1
  | name n =>
   obtain ⟨a,e,h1⟩:=h1
   refine ⟨a,e,?_⟩
   rw [ai (fun z=>hd v aR (by rw [e,z]))]
   exact h1
def sU:Sp:=fun vs H Q _=>∃ (v:V) (s:Sw.Step),vs=[v]∧gq H v s∧Q (.bl (match s with
 | .index _=>true
 | .name _=>false)) H
def xE (K:Fg_) (CP CN:Addr):Sp:=fun vs H Q E=>∃ (a m:Addr) (bs:List UInt8) (u:Sw.Value) (p np:Nat) (n:List UInt8),vs=[.ref a,.ref m]∧SqL K H a (bs.map bv)∧Nd CP H bs m u p np n ∧
 (match Pm.stepV u with
  | some s=>∀ (v:V) (H':Hp),bH H H'→StepN H H' v s→Q v H'
  | none=>ic E CN [.int (-5)])
def xF (K:Fg_) (CP CN:Addr):Sp:=fun vs H Q E=>∃ (a m:Addr) (bs:List UInt8) (u:Sw.Value) (p np:Nat) (n:List UInt8),vs=[.ref a,.ref m]∧SqL K H a (bs.map bv)∧bs.length≤65536∧Nd CP H bs m u p np n ∧
 (match Sw.pathOf u with
  | some l=>∀ (D:Addr) (ws:List V) (H':Hp),bH H H'→H D=none→H' D=some (.lst ws)→du H' ws l→Q (.ref D) H'
  | none=>ic E CN [.int (-5)])
def rIsI (K:Fg_):List V→Hp→VK→Prop:=fun vs H Q=>∃ (x:V) (T:String) (t:Value) (b:Bool),vs=[x,.ty T]∧kO K H x t∧PySem.W.kitOne K t (.type T)=some b∧Q (.bl b) H
theorem qd {X:Cx}:oe X (.builtin "isinstance") (rIsI X.K):=by
 intro pins s σ H xs us Q I r h;obtain ⟨x,T,t,b,rfl,ty,ek,q⟩:=h
 cases r with
 | cons r1 rr =>
  cases rr with
  | cons r2 rr =>
   cases rr;cases r2;exact tL I r1 ty ek fun tk=>⟨.bl b,H,I.tok _,rfl,q⟩
theorem scIN:ba ["step"] ["step"] (aQ sIN):=fs_
theorem ok_IN {f:Addr} {fd:FuncData} (F:Fun K "is_number" "is_number" sIN f fd) (mi:mg "isinstance" = none) (mt:mg "int" = none):bt P w K mg base CX0 1 f fd ["step"] sU:=by
 refine F.ok scIN (fun vs H Q E h=>?_) (fun cdv A outer s H vs Q E hr h=>?_)
 ·obtain ⟨v,t,rfl,_⟩:=h
  rfl
 ·obtain ⟨v,t,rfl,hv,q⟩:=h
  refine ⟨_,aE (br (bM qd (by rfl) mi boot_isinstance (ae (pv 0) (ae (vT (v:=.ty "int") (u:=.type "int") rfl mt (by decide +kernel) rfl) aD)))),?_⟩
  try dsimp only [cD];cases t with
  | index z =>
   have hv:v = .int z:=hv
   subst hv;exact ⟨_,rfl,_,"int",_,true,rfl,.int z,rfl,q⟩
  | name n =>
   obtain ⟨a,rfl,ha⟩:=hv
   exact ⟨_,rfl,_,"int",_,false,rfl,.lst ha,(by kernel_rfl),q⟩
theorem scRS:ba ["row","part"] ["row","part"] (aQ sRS):=fs_
theorem oO {v:Sw.Value} {p np nl:Nat} (c:Nat):decide (((Pm.pdOf v p np nl).kind:Int)=(c:Int))=decide (v.kind=c):=by
 show decide ((v.kind:Int)=(c:Int))=_
 by_cases z:v.kind=c
 ·rw [ag z,ag (by omega)]
 ·rw [af z,af (by omega)]
theorem ok_RS {f fIB fNO:Addr} {fd fdI fdN fdP:FuncData} (F:Fun K "read_step" "read_step" sRS f fd) (TP:TxP K mg CP) (B:TxB mg CP) (uc:f6 K U CN fUP) (mN0:mg "NoPath" = some (.ref CN))
  (GP:bt P w K mg base CX0 2 fUP fdP ["self"] (iL CN 0 aNP)) (bP:cB K fdP ["self"] [])
  (GI:Co P w K mg base CX0 1 fIB fdI ["row","part"] (vw K CP) "inner_bytes")
  (GN:Co P w K mg base CX0 2 fNO fdN ["row","part"] (xX K CP) "number_of") :
  bt P w K mg base (CXF P w) 4 f fd ["row","part"] (xE K CP CN):=by
 refine okX F scRS (fun vs H Q E h=>?_) (fun cdv A outer s H vs Q E hr h=>?_)
 ·obtain ⟨a,m,bs,u,p,np,n,rfl,_⟩:=h
  rfl
 ·obtain ⟨a,m,bs,u,p,np,n,rfl,hs,nd,q⟩:=h
  have hr1:cq 1 _:=hr.mono (by decide)
  have hr2:cq 2 _:=hr.mono (by decide)
  refine ⟨_,aq (ck (bh dR (aV (pv 1) rfl) (pgi B.k2 rfl) (bw _)) (aE (br (bJ GN hr2 rfl cx (ae (pv 0) (ae (pv 1) aD))))) bE)
   (aq (ck (bh dR (aV (pv 1) rfl) (pgi B.k4 rfl) (bw _)) (aE (br (bJ GI hr1 rfl cx (ae (pv 0) (ae (pv 1) aD))))) bE)
   (aE (ir uc GP bP rfl hr cC rfl rfl mN0))),?_⟩
  try dsimp only [cD];obtain ⟨nn,l,as,dx,hn,h1,_⟩:=nd.pt
  have hle:=nd.at_.le
  obtain ⟨i1,i2⟩:=nd.at_.inner
  refine ⟨_,rfl,ex5 m CP dx _ _ ⟨rfl,h1,TP.cP,TP.nKi,rfl,rfl,_,rfl,?_⟩⟩
  rw [iz,show (2:Int)=((2:Nat):Int) from rfl,oO];by_cases c2:u.kind=2
  ·rw [ag c2];cases u with
   | num z=>exact cK ⟨_,rfl,_,rfl,ex7 a m bs z p np n ⟨rfl,hs,nd,fun H' k=>q _ H' k rfl⟩⟩
   | _=>simp [Sw.Value.kind] at c2
  ·rw [af c2];refine cA ⟨_,rfl,ex5 m CP dx _ _ ⟨rfl,h1,TP.cP,TP.nKi,rfl,rfl,_,rfl,?_⟩⟩
   rw [iz,show (4:Int)=((4:Nat):Int) from rfl,oO];by_cases c4:u.kind=4
   ·rw [ag c4];cases u with
    | text t =>
     refine cK ⟨_,rfl,_,rfl,ex6 a m nn l _ bs ⟨rfl,hs,⟨dx,h1⟩,by show p+Pm.ioff _≤p+_;omega,hle,fun x hx=>?_⟩⟩
     refine q (.ref x) _ (fun b o e=>(ai (ah e hx)).trans e) ⟨x,rfl,hx,?_⟩
     rw [aA];show some (HO.lst (((bs.drop (p+Pm.ioff (.text t))).take (p+(Sw.Value.text t).enc.length - (p+Pm.ioff (.text t)))).map bv))=_
     rw [i1];rfl
    | _=>simp [Sw.Value.kind] at c4
   ·rw [af c4];have hn:Pm.stepV u=none:=by
     cases u with
     | num z=>exact absurd rfl c2
     | text t=>exact absurd rfl c4
     | _=>rfl
    rw [hn] at q;exact cA ⟨rfl,q⟩
theorem yo:ba ["row","whole","part"] ["row","whole"] (aQ sRP):=fs_
theorem rF {σ:St} {H:Hp} {A B:Hp→Prop} (h:A H):tYes σ H (fun b H3=>if b=true then A H3 else B H3):=by
 show (if true=true then A H else B H)
 rw [if_pos rfl];exact h
theorem v9 {l:List Sw.Value}:∀ {i:Nat} {x:Sw.Value},l[i]? = some x→Pm.stepV x=none→l.mapM Pm.stepV=none:=by
 induction l with
 | nil=>intro i x e _;simp at e
 | cons y l ih =>
  intro i x e h;rw [gy];cases i with
  | zero =>
   have e:some y=some x:=e
   injection e with e;subst e;rw [h];rfl
  | succ i =>
   rw [ih e h];cases Pm.stepV y<;>rfl
theorem tI {l:List Sw.Value} {li:List Sw.Step} {x:Sw.Value} {s:Sw.Step} (h:l.mapM Pm.stepV=some li) (h1:Pm.stepV x=some s):(l++[x]).mapM Pm.stepV=some (li++[s]):=by
 rw [List.mapM_append,h];show ((List.mapM Pm.stepV [x]).bind fun ys=>some (li++ys))=_
 rw [gy,h1];rfl
theorem l7:∀ m:Sw.Row,m.length≤Pm.cntR m
 | .nil=>aW _
 | .cons n v r=>by
  have:=l7 r
  rw [Pm.cntR_cons];show r.length+1≤_
  omega
theorem nM {u:Sw.Value} (h:u.kind≠5):Sw.pathOf u=none:=by
 cases u<;>first | rfl | exact absurd rfl h
theorem nN {u:Sw.Value} (h:u.kind=5):Sw.pathOf u=(Pm.rowVals (Pm.rowOf u)).mapM Pm.stepV:=by
 cases u<;>first | exact Pm.steps_eq _ | (exact absurd h (by intro z;cases z))
theorem ok_RP {f fRS:Addr} {fd fdS fdP:FuncData} (F:Fun K "read_path" "read_path" sRP f fd) (TP:TxP K mg CP) (B:TxB mg CP) (uc:f6 K U CN fUP) (mN0:mg "NoPath" = some (.ref CN))
  (GP:bt P w K mg base CX0 2 fUP fdP ["self"] (iL CN 0 aNP)) (bP:cB K fdP ["self"] [])
  (GS:Co P w K mg base (CXF P w) 4 fRS fdS ["row","part"] (xE K CP CN) "read_step") :
  bt P w K mg base (CXF P w) 5 f fd ["row","whole"] (xF K CP CN):=by
 refine okX F yo (fun vs H Q E h=>?_) (fun cdv A outer s H vs Q E hr h=>?_)
 ·obtain ⟨a,m,bs,u,p,np,n,rfl,_⟩:=h
  rfl
 ·obtain ⟨a,m,bs,u,p,np,n,rfl,hs,hz,nd,q⟩:=h
  have hr3:cq 3 _:=hr.mono (by decide)
  refine ⟨_,aq (ck (bh op_ne (aV (pv 1) rfl) (pgi B.k5 rfl) (bw _)) (aE (ir uc GP bP rfl hr3 cC rfl rfl mN0)) bE)
   (aE (br (yH rfl yo.nd (lF (aV (pv 1) rfl)) (qe (own:=[("part",2)]) (by kernel_rfl))
    (fun s H C cl fp=>iu (i:=2) yo.nd rfl (.inl rfl)) (fun s H C cl fp=>rM)
    (fun s H C cl fp pn xe fl hp=>bJ GS hr rfl (qG fl hp) (ae (pv 0) (ae (pv 2) aD)))
    tQ rfl ⟨outer,rfl⟩ rfl))),?_⟩
  try dsimp only [cD];obtain ⟨nn,l,as,dx,hn,h1,h2,hlen,hm⟩:=nd.pt
  have hle:=nd.at_.le
  have hc1:=Pm.cntV_le u
  have hc2:=l7 (Pm.rowOf u)
  rw [←Pm.cnt_row] at hc2;refine ⟨_,rfl,ex5 m CP dx _ _ ⟨rfl,h1,TP.cP,TP.nKi,rfl,rfl,_,rfl,?_⟩⟩
  rw [iz,show (5:Int)=((5:Nat):Int) from rfl,oO];by_cases c5:u.kind=5
  ·rw [ag c5];have hpath:=nN c5
   refine cA ⟨_,rfl,ex5 m CP dx _ _ ⟨rfl,h1,TP.cP,TP.nMe,rfl,l,rfl,⟨_,SqL.of h2⟩,fun D hD=>?_⟩⟩
   generalize hv:Pm.rowVals (Pm.rowOf u)=vals at hpath;have hvl:vals.length=as.length:=by rw [←hv,Pm.rowVals_len,hlen]
   refine rV (xs:=as.map V.ref) (fun i G=>bH H G∧∃ acc li,G D=some (.lst acc)∧acc.length=i∧(vals.take i).mapM Pm.stepV=some li∧du G acc li∧∀ v∈acc,v≠.ref D) ?_ ?_ ?_ ?_
   ·exact ⟨fun b o e=>(ai (ah e hD)).trans e,[],[],aA,rfl,rfl,.nil,fun v hv=>by cases hv⟩
   ·rintro i G _ ⟨k,_⟩
    exact k.seq (SqL.of h2)
   ·rintro i x G hx ⟨k,acc,li,hDl,hacc,hli,hst,hne⟩
    rw [bq] at hx;cases ea:as[i]? with
    | none=>rw [ea] at hx;cases hx
    | some a' =>
     rw [ea] at hx;have hx:some (V.ref a')=some x:=hx
     injection hx with hx;subst hx;obtain ⟨n',w',np',em,ndm⟩:=hm i a' ea
     have evi:vals[i]? = some w':=by
      rw [←hv,Pm.rowVals_get,←Pm.member_eq,em];rfl
     refine ⟨rfl,rF ?_⟩
     refine ⟨_,rfl,_,rfl,ex7 a a' bs w' _ np' n' ⟨rfl,k.seq hs,ndm.same k,?_⟩⟩
     cases es:Pm.stepV w' with
     | none =>
      rw [hpath,v9 evi es] at q;exact q
     | some st =>
      intro v G' kG hN
      have hilt:i<as.length:=(aN.mp ea).1
      refine ⟨acc,kG _ _ hDl,by rw [hacc,sizeLine_eq];omega,?_⟩
      have hvD:v≠.ref D∧gq G' v st:=by
       cases st with
       | index z =>
        have hN:v = .int z:=hN
        subst hN;exact ⟨fun z=>V.noConfusion z,rfl⟩
       | name nn =>
        obtain ⟨b,rfl,hb,hb'⟩:=hN
        refine ⟨fun z=>?_,b,rfl,hb'⟩
        injection z with z;rw [z,hDl] at hb;cases hb
      refine ⟨fun b o e=>(ai (ah e hD)).trans (kG b o (k b o e)),acc++[v],li++[st],aA,by rw [aa,hacc];rfl,?_,?_,fun v' hv'=>?_⟩
      ·rw [d9,evi];exact tI hli es
      ·refine du.up ((hst.same kG).snoc hvD.2) fun v' hv'=>?_
       rcases aF.mp hv' with hv' | hv'
       ·exact hne v' hv'
       ·rw [aG.mp hv'];exact hvD.1
      ·rcases aF.mp hv' with hv' | hv'
       ·exact hne v' hv'
       ·rw [aG.mp hv'];exact hvD.1
   ·rintro G ⟨k,acc,li,hDl,hacc,hli,hst,hne⟩
    rw [au,←hvl,fH] at hli;rw [hpath,hli] at q;exact q D acc G k hD hDl hst
  ·rw [af c5];rw [nM c5] at q;exact cK ⟨rfl,q⟩
def bD (n:List UInt8):PyData:=.list (n.map fun c=>.int (c.toNat:Int))
theorem vb {K:Fg_} {H:Hp}:∀ n:List UInt8,m8 K H (n.map bv) (n.map fun c=>.int (c.toNat:Int))
 | []=>.nil
 | c::n=>.cons (.int _) (vb n)
theorem wU {K:Fg_} {H:Hp} {a:Addr} {n:List UInt8} (h:SqL K H a (n.map bv)):Dp K H (.ref a) (bD n):=.lst h (vb n)
theorem rW:∀ n:List UInt8,PyData.canLayAll0 (n.map fun c=>.int (c.toNat:Int))=true
 | []=>rfl
 | c::n=>by
  show (PyData.canLay0 _&&PyData.canLayAll0 (n.map fun c=>.int (c.toNat:Int)))=true
  rw [rW n];rfl
theorem sk:∀ n:List UInt8,PyData.depthAll (n.map fun c=>.int (c.toNat:Int))=0
 | []=>rfl
 | c::n=>by
  show max (PyData.depth _) (PyData.depthAll (n.map fun c=>.int (c.toNat:Int)))=0
  rw [sk n];rfl
theorem oa (n:List UInt8):SeqAt.shaped (bD n)=true:=by
 unfold SeqAt.shaped;rw [aC,bo];refine ⟨rW n,?_⟩
 show PyData.depthAll (n.map fun c=>.int (c.toNat:Int))+1≤64
 rw [sk];decide
theorem wR:∀ n k:List UInt8,PyData.eqvAll (n.map fun c=>.int (c.toNat:Int)) (k.map fun c=>.int (c.toNat:Int))=(n==k)
 | [],[]=>rfl
 | [],_::_=>rfl
 | _::_,[]=>rfl
 | c::n,d::k=>by
  show (PyData.eqv (.int (c.toNat:Int)) (.int (d.toNat:Int))&&PyData.eqvAll (n.map fun c=>.int (c.toNat:Int)) (k.map fun c=>.int (c.toNat:Int)))=(c==d&&n==k)
  rw [wR n k];congr 1
  show ((c.toNat:Int)==(d.toNat:Int))=(c==d)
  by_cases e:c=d
  ·subst e;simp
  ·have hn:¬c.toNat=d.toNat:=fun z=>e (UInt8.toNat_inj.mp z)
   rw [beq_eq_false_iff_ne.mpr e,beq_eq_false_iff_ne.mpr (by omega)]
theorem rS:∀ (a b:List UInt8),HT.lexLtI (dS a) (dS b)=Sw.bytesBefore a b
 | [],[]=>rfl
 | [],_::_=>rfl
 | _::_,[]=>rfl
 | c::a,d::b=>by
  have ih:=rS a b
  show (if (c.toNat:Int)=(d.toNat:Int) then HT.lexLtI (dS a) (dS b) else decide ((c.toNat:Int)<(d.toNat:Int)))=(decide (c.toNat<d.toNat)||(c==d&&Sw.bytesBefore a b))
  by_cases e:c=d
  ·subst e;rw [if_pos rfl,ih,af (bK _),beq_self_eq_true];rfl
  ·have hn:¬c.toNat=d.toNat:=fun z=>e (UInt8.toNat_inj.mp z)
   rw [if_neg (by omega),beq_eq_false_iff_ne.mpr e,fu,Bool.or_false]
   by_cases hl:c.toNat<d.toNat
   ·rw [ag hl,ag (by omega)]
   ·rw [af hl,af (by omega)]
def fE (K:Fg_) (H:Hp) (m:Addr) (k:Nat) (as:List Addr):Prop:=∃ (C dx:Addr) (fs:List (Str×V)) (l:Addr),H m=some (.ins C dx fs)∧Cls K C∧cV K C "kind"∧cV K C "members"∧fs.lookup ("kind" : Str)=some (.int (k:Int))∧fs.lookup ("members" : Str)=some (.ref l)∧H l=some (.lst (as.map V.ref))
def sC (K:Fg_) (H:Hp) (m:Addr) (n:List UInt8):Prop:=∃ (C dx:Addr) (fs:List (Str×V)) (b:Addr),H m=some (.ins C dx fs)∧Cls K C∧cV K C "name"∧fs.lookup ("name" : Str)=some (.ref b)∧H b=some (.lst (n.map bv))
structure Fam (K:Fg_) (R:Hp→Addr→Sw.Value×Nat→Prop):Prop where
 same:∀ {H H':Hp} {a:Addr} {x:Sw.Value×Nat},R H a x→bH H H'→R H' a x
 hold:∀ {H:Hp} {a:Addr} {x:Sw.Value×Nat},R H a x→∃ as:List Addr,fE K H a x.1.kind as∧as.length=(Pm.rowOf x.1).length∧∀ (i:Nat) (a':Addr),as[i]? = some a'→∃ n w,x.1.member i=some (n,w)∧sC K H a' n∧R H a' (w,Pm.mplace x.1 x.2 i)
 pl:∀ {H:Hp} {a:Addr} {x:Sw.Value×Nat},R H a x→x.1.plain=true
theorem fE.same {K:Fg_} {H H':Hp} {m:Addr} {k:Nat} {as:List Addr} (h:fE K H m k as) (s:bH H H'):fE K H' m k as:=by
 obtain ⟨C,dx,fs,l,h1,h2,h3,h4,h5,h6,h7⟩:=h
 exact ⟨C,dx,fs,l,s _ _ h1,h2,h3,h4,h5,h6,s _ _ h7⟩
def mNo (u:Sw.Value) (s:Sw.Step):Int:=match u.memberOf s with
 | some i=>(i:Int)
 | none=>-1
theorem jH:∀ (m:Sw.Row) (i:Nat),m.names[i]? = (m.get? i).map fun (x:Sw.Bytes×Sw.Value)=>x.1
 | .nil,i=>rfl
 | .cons n v r,0=>rfl
 | .cons n v r,i+1=>jH r i
def pb (K:Fg_) (H:Hp) (as:List Addr) (ns:List (List UInt8)):Prop:=as.length=ns.length∧∀ (i:Nat) (a:Addr) (n:List UInt8),as[i]? = some a→ns[i]? = some n→sC K H a n
def vA (K:Fg_):Sp:=fun vs H Q _=>∃ (m b:Addr) (k:Nat) (as:List Addr) (ns:List (List UInt8)) (n:List UInt8),vs=[.ref m,.ref b]∧fE K H m k as∧pb K H as ns∧Sw.rising ns=true∧H b=some (.lst (n.map bv))∧Q (.int (((ns.filter fun x=>Sw.bytesBefore x n).length:Nat):Int)) H
def uv (K:Fg_):Sp:=fun vs H Q _=>∃ (R:Hp→Addr→Sw.Value×Nat→Prop) (m:Addr) (v:V) (x:Sw.Value×Nat) (s:Sw.Step),vs=[.ref m,v]∧Fam K R∧R H m x∧gq H v s∧Q (.int (mNo x.1 s)) H
theorem sX:ba ["holder","name","before","end","middle"] ["holder","name"] (aQ sCB):=fs_
theorem ok_CB {f:Addr} {fd:FuncData} (F:Fun K "count_before" "count_before" sCB f fd) (len:mg "len" = none):bt P w K mg base CX0 1 f fd ["holder","name"] (vA K):=by
 refine F.ok sX (fun vs H Q E h=>?_) (fun cdv A outer s H vs Q E hr h=>?_)
 ·obtain ⟨m,b,k,as,ns,n,rfl,_⟩:=h
  rfl
 ·obtain ⟨m,b,k,as,ns,n,rfl,⟨C,dx,fs,l,h1,hC,hk,hme,ek,eme,hl⟩,⟨hlen,hnm⟩,hris,hb,q⟩:=h
  refine ⟨_,aq (bb (i:=2) sX.nd rfl (.inl rfl) aX)
   (aq (bb (i:=3) sX.nd rfl (.inl rfl) (bM bW (by rfl) len a7 (ae (aV (pv 0) rfl) aD)))
   (aq (gW PassesOwn.never (bh iG (pv 2) (pv 3) (bw _))
    (aq (bb (i:=4) sX.nd rfl (.inl rfl) (cY oC (cY eZ (pv 2) (pv 3)) aX))
    (aE (ck (bh (yI hr.units0) (aV (dE cg (aV (pv 0) rfl) (pv 4) (fun _ _=>rfl)) rfl) (pv 1) (bw _))
     (aE (bb (i:=2) sX.nd rfl (.inl rfl) (cY eZ (pv 4) aX)))
     (aE (bb (i:=3) sX.nd rfl (.inl rfl) (pv 4)))))))
   (aE (br (pv 2))))),?_⟩
  try dsimp only [cD];refine ⟨_,rfl,ex5 m C dx fs _ ⟨rfl,h1,hC,hme,eme,l,_,rfl,.inl (SqL.of hl),?_⟩⟩
  rw [au,hlen];refine ⟨fun t σ G=>G=H∧∃ (bf en:Nat) (v4:Option V),σ=[some (.ref m),some (.ref b),some (.int (bf:Int)),some (.int (en:Int)),v4]∧bf≤en∧en≤ns.length∧t=en - bf∧(∀ j x,j<bf→ns[j]? = some x→Sw.bytesBefore x n=true)∧(∀ j x,en≤j→ns[j]? = some x→Sw.bytesBefore x n=false),⟨ns.length,rfl,ex3 0 ns.length none ⟨rfl,aW _,aK _,rfl,fun j x hj=>absurd hj (Nat.not_lt_zero _),fun j x hj e=>?_⟩⟩,?_⟩
  ·rw [bG.mpr hj] at e;cases e
  ·rintro t σ G ⟨rfl,bf,en,v4,rfl,hbe,hen,rfl,lo,hi⟩
   refine ⟨_,rfl,_,rfl,ex2 _ _ ⟨rfl,rfl,_,rfl,?_⟩⟩
   by_cases c:bf<en
   ·rw [ag (show ((bf:Nat):Int)<((en:Nat):Int) by omega)]
    refine cK ⟨_,fun σ' G' h=>h,?_⟩
    refine ⟨_,rfl,_,rfl,ex2 _ _ ⟨rfl,rfl,ex2 _ _ ⟨rfl,rfl,⟨by decide,by decide⟩,?_⟩⟩⟩
    have emid:(((bf:Nat):Int)+((en:Nat):Int)) / 2=(((bf+en) / 2:Nat):Int):=by omega
    generalize hmid:(bf+en) / 2=mid at emid;have hm1:bf≤mid:=by omega
    have hm2:mid<en:=by omega
    obtain ⟨a',ea⟩:∃ a',as[mid]? = some a':=⟨_,aJ (by omega)⟩
    obtain ⟨x,ex⟩:∃ x,ns[mid]? = some x:=⟨_,aJ (by omega)⟩
    obtain ⟨C',dx',fs',b',h1',hC',hn',en',hb'⟩:=hnm mid a' x ea ex
    have hat:atI (as.map V.ref) (((mid:Nat):Int))=some (V.ref a'):=gI (by rw [bq,ea];rfl)
    refine ⟨_,rfl,ex5 m C dx fs _ ⟨rfl,h1,hC,hme,eme,_,rfl,l,_,_,V.ref a',rfl,rfl,SqL.of hl,(by rw [emid];exact hat),a',C',dx',fs',_,rfl,h1',hC',hn',en',?_⟩⟩
    refine ⟨_,rfl,b',b,dS x,dS n,rfl,rfl,by rw [←jV];exact hb',by rw [←jV];exact hb,_,rfl,?_⟩
    rw [rS];cases hbf:Sw.bytesBefore x n with
    | true =>
     refine cK ⟨_,rfl,ex2 _ _ ⟨rfl,rfl,en - (mid+1),by omega,rfl,mid+1,en,some (V.int ((((bf:Nat):Int)+((en:Nat):Int)) / 2)),?_,by omega,hen,rfl,Pm.half_low hris ex hbf,hi⟩⟩
     show [some (V.ref m),some (V.ref b),some (V.int ((((bf:Nat):Int)+((en:Nat):Int)) / 2+1)),some (V.int (en:Int)),some (V.int ((((bf:Nat):Int)+((en:Nat):Int)) / 2))]=_
     rw [emid];rfl
    | false =>
     refine cA ⟨_,rfl,mid - bf,by omega,rfl,bf,mid,some (V.int ((((bf:Nat):Int)+((en:Nat):Int)) / 2)),?_,hm1,by omega,rfl,lo,Pm.half_high hris ex hbf⟩
     show [some (V.ref m),some (V.ref b),some (V.int (bf:Int)),some (V.int ((((bf:Nat):Int)+((en:Nat):Int)) / 2)),some (V.int ((((bf:Nat):Int)+((en:Nat):Int)) / 2))]=_
     rw [emid]
   ·rw [af (show ¬((bf:Nat):Int)<((en:Nat):Int) by omega)]
    have ebe:bf=en:=by omega
    subst ebe;rw [Pm.cnt_split hen lo hi] at q;exact cA ⟨_,rfl,q⟩
theorem scFM:ba ["holder","step","i"] ["holder","step"] (aQ sFM):=fs_
theorem ok_FM {f fIN fCB:Addr} {fd fdI fdC:FuncData} (F:Fun K "find_member" "find_member" sFM f fd) (k5:GI mg "LIST" 5) (k6:GI mg "RECORD" 6) (nm:GI mg "NO_MEMBER" (-1)) (len:mg "len" = none)
  (GI:Co P w K mg base CX0 1 fIN fdI ["step"] sU "is_number")
  (GC:Co P w K mg base CX0 1 fCB fdC ["holder","name"] (vA K) "count_before") :
  bt P w K mg base CX0 2 f fd ["holder","step"] (uv K):=by
 refine F.ok scFM (fun vs H Q E h=>?_) (fun cdv A outer s H vs Q E hr h=>?_)
 ·obtain ⟨R,m,v,x,st,rfl,_⟩:=h
  rfl
 ·obtain ⟨R,m,v,⟨u,p⟩,st,rfl,FM,hR,hv,q⟩:=h
  have hu:(A.deeper (envOfC "find_member" (aQ sFM) s.heap.objs.size f cdv)).units+64<cLine:=by
   have:=hr.un
   omega
  refine ⟨_,aq (ck (mf (bJ GI hr rfl cx (ae (pv 1) aD)))
    (aE (br (jG (PW.pt (kq (bh dR (aV (pv 0) rfl) (pgi k5 rfl) (bw _)) (i9 (jD iN iG aX (pv 1) (bM bW (by rfl) len a7 (ae (aV (pv 0) rfl) aD)))))) (pv 1) (pgi nm rfl)))) bE)
   (aq (ck (bh dR (aV (pv 0) rfl) (pgi k6 rfl) (bw _))
    (aq (bb (i:=2) scFM.nd rfl (.inl rfl) (bJ GC hr rfl cx (ae (pv 0) (ae (pv 1) aD))))
    (aE (ck (PW.pt (kq (bh iG (pv 2) (bM bW (by rfl) len a7 (ae (aV (pv 0) rfl) aD)) (bw _)) (i9 (bh (yK hu) (aV (dE cg (aV (pv 0) rfl) (pv 2) (fun _ _=>rfl)) rfl) (pv 1) (bw _)))))
     (aE (br (pv 2))) bE))) bE)
   (aE (br (pgi nm rfl)))),?_⟩
  try dsimp only [cD];obtain ⟨as,hH,hlen,hm⟩:=FM.hold hR
  have hpl:u.plain=true:=FM.pl hR
  obtain ⟨C,dx,fs,l,h1,hC,hk,hme,ek,eme,hl⟩:=hH
  dsimp only at q hlen hm ek;refine ⟨_,rfl,ex2 v st ⟨rfl,hv,_,rfl,?_⟩⟩
  cases st with
  | index z =>
   have hv:v = .int z:=hv
   subst hv;refine cK ⟨_,rfl,ex5 m C dx fs _ ⟨rfl,h1,hC,hk,ek,rfl,_,rfl,?_⟩⟩
   rw [iz];by_cases c5:u.kind=5
   ·rw [ag (show ((u.kind:Nat):Int)=5 by omega)]
    cases u with
    | list r =>
     refine cK ⟨_,rfl,ex2 _ _ ⟨rfl,rfl,_,rfl,?_⟩⟩
     have hmo:mNo (.list r) (.index z)=if 0≤z∧z<(r.length:Int) then z else -1:=by
      show (match (if 0≤z∧z<(r.length:Int) then some z.toNat else none) with
       | some i=>(i:Int)
       | none=>-1)=_
      by_cases c:0≤z∧z<(r.length:Int)
      ·rw [if_pos c,if_pos c];show ((z.toNat:Nat):Int)=z
       omega
      ·rw [if_neg c,if_neg c]
     rw [hmo] at q;have hlen:as.length=r.length:=hlen
     by_cases c0:0≤z
     ·rw [ag c0];refine cK ⟨_,rfl,ex5 m C dx fs _ ⟨rfl,h1,hC,hme,eme,l,_,rfl,.inl (SqL.of hl),ex2 _ _ ⟨rfl,rfl,_,rfl,?_⟩⟩⟩
      rw [au,hlen];by_cases c1:z<(r.length:Int)
      ·rw [ag c1];rw [if_pos ⟨c0,c1⟩] at q;exact cK ⟨_,rfl,q⟩
      ·rw [af c1];rw [if_neg (fun y=>c1 y.2)] at q
       exact cA q
     ·rw [af c0];rw [if_neg (fun y=>c0 y.1)] at q
      exact cA ⟨_,rfl,cA q⟩
    | _=>simp [Sw.Value.kind] at c5
   ·rw [af (show ¬((u.kind:Nat):Int)=5 by omega)]
    have hmo:mNo u (.index z) = -1:=by
     cases u<;>first | rfl | exact absurd rfl c5
    rw [hmo] at q;exact cA (cA q)
  | name k =>
   obtain ⟨b,rfl,hb⟩:=hv
   refine cA ⟨_,rfl,ex5 m C dx fs _ ⟨rfl,h1,hC,hk,ek,rfl,_,rfl,?_⟩⟩
   rw [iz];by_cases c6:u.kind=6
   ·rw [ag (show ((u.kind:Nat):Int)=6 by omega)]
    cases u with
    | rec_ r =>
     have hris:=Pm.rec_rising hpl
     have hlen:as.length=r.length:=hlen
     have hnl:r.names.length=as.length:=by rw [Pm.names_len,hlen]
     have hna:pb K H as r.names:=⟨hnl.symm,fun i a' n' ea en=>by
      obtain ⟨n2,w,em,hnm,_⟩:=hm i a' ea
      have em:r.get? i=some (n2,w):=em
      rw [jH,em] at en;have en:some n2=some n':=en
      injection en with en;rw [←en];exact hnm⟩
     refine cK ⟨_,rfl,_,rfl,ex6 m b 6 as r.names k ⟨rfl,⟨C,dx,fs,l,h1,hC,hk,hme,ek,eme,hl⟩,hna,hris,hb,?_⟩⟩
     have hmo:mNo (.rec_ r) (.name k)=match r.names.findIdx? (fun x=>x==k) with
      | some i=>(i:Int)
      | none=>-1:=rfl
     rw [hmo,Pm.find_cnt hris k] at q;generalize (r.names.filter fun x=>Sw.bytesBefore x k).length=c at q
     refine ⟨_,rfl,_,rfl,ex5 m C dx fs _ ⟨rfl,h1,hC,hme,eme,l,_,rfl,.inl (SqL.of hl),ex2 _ _ ⟨rfl,rfl,_,rfl,?_⟩⟩⟩
     rw [au];by_cases hc:c<as.length
     ·rw [ag (show ((c:Nat):Int)<((as.length:Nat):Int) by omega)]
      obtain ⟨a',ea⟩:∃ a',as[c]? = some a':=⟨_,aJ hc⟩
      obtain ⟨n',en⟩:∃ n',r.names[c]? = some n':=⟨_,aJ (by omega)⟩
      obtain ⟨C',dx',fs',b',h1',hC',hn',en',hb'⟩:=hna.2 c a' n' ea en
      refine cK ⟨_,rfl,ex5 m C dx fs _ ⟨rfl,h1,hC,hme,eme,_,rfl,l,_,_,V.ref a',rfl,rfl,SqL.of hl,gI (by rw [bq,ea];rfl),a',C',dx',fs',_,rfl,h1',hC',hn',en',?_⟩⟩
      refine ⟨_,rfl,bD n',bD k,wU (SqL.of hb'),wU (SqL.of hb),oa n',oa k,_,rfl,?_⟩
      rw [show PyData.eqv (bD n') (bD k)=(n'==k) from wR n' k];rw [en] at q;by_cases e:n'=k
      ·rw [e,beq_self_eq_true];rw [e,if_pos rfl] at q;exact cK ⟨_,rfl,q⟩
      ·rw [beq_eq_false_iff_ne.mpr e];rw [if_neg (fun z=>e (a8 z))] at q
       exact cA q
     ·rw [af (show ¬((c:Nat):Int)<((as.length:Nat):Int) by omega)]
      rw [bG.mpr (show r.names.length≤c by omega),if_neg (fun z=>nomatch z)] at q
      exact cA (cA q)
    | _=>simp [Sw.Value.kind] at c6
   ·rw [af (show ¬((u.kind:Nat):Int)=6 by omega)]
    have hmo:mNo u (.name k) = -1:=by
     cases u<;>first | rfl | exact absurd rfl c6
    rw [hmo] at q;exact cA q
inductive TrA (R:Addr→Sw.Value×Nat→Prop):List Addr→List (Sw.Value×Nat)→Prop
 | nil:TrA R [] []
 | cons {a:Addr} {as:List Addr} {x:Sw.Value×Nat} {xs:List (Sw.Value×Nat)}:R a x→TrA R as xs→TrA R (a::as) (x::xs)
theorem TrA.len {R:Addr→Sw.Value×Nat→Prop} {as:List Addr} {xs:List (Sw.Value×Nat)} (h:TrA R as xs):as.length=xs.length:=by
 induction h with
 | nil=>rfl
 | cons _ _ ih=>rw [aj,aj,ih]
theorem TrA.snoc {R:Addr→Sw.Value×Nat→Prop} {as:List Addr} {xs:List (Sw.Value×Nat)} {a:Addr} {x:Sw.Value×Nat} (h:TrA R as xs) (h1:R a x):TrA R (as++[a]) (xs++[x]):=by
 induction h with
 | nil=>exact .cons h1 .nil
 | cons h2 _ ih=>exact .cons h2 ih
theorem TrA.at_ {R:Addr→Sw.Value×Nat→Prop} {as:List Addr} {xs:List (Sw.Value×Nat)} (h:TrA R as xs):∀ {i:Nat} {x:Sw.Value×Nat},xs[i]? = some x→∃ a,as[i]? = some a∧R a x:=by
 induction h with
 | nil=>intro i x e;simp at e
 | cons h1 _ ih =>
  intro i x e;cases i with
  | zero =>
   have e:some _=some x:=e
   injection e with e;subst e;exact ⟨_,rfl,h1⟩
  | succ i=>exact ih e
theorem TrA.last {R:Addr→Sw.Value×Nat→Prop} {as:List Addr} {xs:List (Sw.Value×Nat)} {x:Sw.Value×Nat} (h:TrA R as xs) (e:xs.getLast? = some x):∃ as' a,as=as'++[a]∧R a x:=by
 rw [b9] at e;obtain ⟨a,ea,hn⟩:=h.at_ e
 rw [←h.len,←b9] at ea;obtain ⟨as',e'⟩:=List.getLast?_eq_some_iff.mp ea
 exact ⟨as',a,e',hn⟩
def jt (K:Fg_) (H:Hp) (v:Sw.Value) (l:List Sw.Step) (as:List Addr):Prop:=∀ (i:Nat) (a':Addr),as[i+1]? = some a' →
 ∃ (h:Addr) (k:Nat) (ms:List Addr) (y:Sw.Value×Nat) (st:Sw.Step) (j:Nat),as[i]? = some h∧(Pm.trail (v,0) l)[i]? = some y∧l[i]? = some st∧y.1.memberOf st=some j∧fE K H h k ms∧ms[j]? = some a'
theorem jt.snoc {K:Fg_} {H:Hp} {v:Sw.Value} {l:List Sw.Step} {as:List Addr} {h a:Addr} {k j:Nat} {ms:List Addr} {y:Sw.Value×Nat} {st:Sw.Step} (L:jt K H v l as) {i:Nat} (hl:as.length=i+1) (e1:as[i]? = some h) (e2:(Pm.trail (v,0) l)[i]? = some y) (e3:l[i]? = some st) (e4:y.1.memberOf st=some j) (e5:fE K H h k ms) (e6:ms[j]? = some a):jt K H v l (as++[a]):=by
 intro i' a' e
 by_cases c:i'+1<as.length
 ·rw [bz c] at e;obtain ⟨h',k',ms',y',st',j',f1,f⟩:=L i' a' e
  exact ⟨h',k',ms',y',st',j',by rw [bz (by omega)];exact f1,f⟩
 ·have hi:i'=i:=by
   have:=(aN.mp e).1
   rw [aa,aP] at this;omega
  subst hi;rw [eE (by omega),show i'+1 - as.length=0 by omega] at e
  have e:some a=some a':=e
  injection e with e;subst e;exact ⟨h,k,ms,y,st,j,by rw [bz (by omega)];exact e1,e2,e3,e4,e5,e6⟩
def uu (K:Fg_):Sp:=fun vs H Q _=>∃ (R:Hp→Addr→Sw.Value×Nat→Prop) (m d:Addr) (v:Sw.Value) (ws:List V) (l:List Sw.Step),vs=[.ref m,.ref d]∧Fam K R∧R H m (v,0)∧H d=some (.lst ws)∧du H ws l∧l.length≤65536 ∧
 ∀ (g:Addr) (as:List Addr) (H':Hp),bH H H'→H g=none→H' g=some (.lst (as.map V.ref))→TrA (R H) as (Pm.trail (v,0) l)→jt K H v l as→as[0]? = some m→Q (.ref g) H'
theorem uz:ba ["whole","steps","trail","step","holder","i"] ["whole","steps"] (aQ sFW):=fs_
theorem ok_FW {f fFM:Addr} {fd fdM:FuncData} (F:Fun K "follow" "follow" sFW f fd) (nm:GI mg "NO_MEMBER" (-1))
  (GM:Co P w K mg base CX0 2 fFM fdM ["holder","step"] (uv K) "find_member") :
  bt P w K mg base CX0 3 f fd ["whole","steps"] (uu K):=by
 refine F.ok uz (fun vs H Q E h=>?_) (fun cdv A outer s H vs Q E hr h=>?_)
 ·obtain ⟨R,m,d,v,ws,l,rfl,_⟩:=h
  rfl
 ·obtain ⟨R,m,d,v,ws,l,rfl,FM,nd,hd,hst,hl,q⟩:=h
  refine ⟨_,aq (bb (i:=2) uz.nd rfl (.inl rfl) (dP (ae (pv 0) aD)))
   (aq (mq PassesOwn.never rfl (lF (pv 1)) (iu (i:=3) uz.nd rfl (.inl rfl))
    (aq (bb (i:=4) uz.nd rfl (.inl rfl) (dE cg (pv 2) (dY dk aX) (fun _ _=>rfl)))
    (aq (bb (i:=5) uz.nd rfl (.inl rfl) (bJ GM hr rfl cx (ae (pv 4) (ae (pv 3) aD))))
    (aq (ck (bh dR (pv 5) (pgi nm rfl) (bw _)) (aE (br (pv 2))) bE)
    (aE (cE (gX aZ PySem.F.slot_list_append PySem.F.type_list_append gZ (pv 2) (ae (dE cg (aV (pv 4) rfl) (pv 5) (fun _ _=>rfl)) aD))))))))
   (aE (br (pv 2)))),?_⟩
  try dsimp only [cD];refine ⟨_,rfl,(by show 1≤sizeLine;decide),fun g hg=>?_⟩
  have k0:bH H (upd H g (.lst [.ref m])):=fun b o e=>(ai (ah e hg)).trans e
  have hwl:=hst.len
  refine ⟨_,rfl,d,rfl,⟨_,SqL.of (k0 _ _ hd)⟩,p5 (xs:=ws) (fun i σ G=>bH H G∧∃ (as:List Addr) (v4 v5 v6:Option V),σ=[some (.ref m),some (.ref d),some (.ref g),v4,v5,v6]∧G g=some (.lst (as.map V.ref))∧(Pm.trail (v,0) (l.take i)).length=i+1∧TrA (R H) as (Pm.trail (v,0) (l.take i))∧jt K H v l as∧as[0]? = some m) ?_ ?_ ?_ ?_⟩
  ·refine ⟨k0,[m],none,none,none,rfl,aA,?_,?_,(fun i a' e=>by cases i<;>simp at e),rfl⟩
   ·rw [dF];unfold Pm.trail;rfl
   ·rw [dF];unfold Pm.trail;exact .cons nd .nil
  ·rintro i σ G _ ⟨k,_⟩
   exact SqL.of (k _ _ hd)
  ·rintro i x σ G hx ⟨k,as,v4,v5,v6,rfl,hgl,htl,htr,hlk,hm0⟩
   obtain ⟨st,el,hsv⟩:=hst.get hx
   have hil:i<l.length:=(aN.mp el).1
   cases elast:(Pm.trail (v,0) (l.take i)).getLast? with
   | none=>exact absurd (a9.mp elast) (Pm.trail_ne _ _)
   | some y =>
    obtain ⟨as',a',eas,ndy⟩:=htr.last elast
    have htake:(l.take i).length=i:=by rw [aH];omega
    have hsplit:∀ r,Pm.trail (v,0) (l.take i++st::r)=Pm.trail (v,0) (l.take i)++(match Pm.go y st with
      | none=>[]
      | some z=>Pm.trail z r):=fun r=>Pm.trail_snoc (l.take i) (v,0) y st r (by rw [htl,htake]) elast
    have hlsp:l=l.take i++st::l.drop (i+1):=by
     have:=cI i l
     rw [bj hil] at this;rw [(aN.mp el).2] at this;exact this.symm
    refine ⟨_,rfl,_,rfl,g,_,_,V.ref a',rfl,rfl,SqL.of hgl,by rw [eas,aL];exact eC _ _,?_⟩
    refine ⟨_,rfl,_,rfl,ex5 R a' x y st ⟨rfl,FM,FM.same ndy k,hsv.same k,?_⟩⟩
    refine ⟨_,rfl,rfl,_,rfl,?_⟩
    rw [iz];unfold mNo;cases emo:y.1.memberOf st with
    | none =>
     have hgo:Pm.go y st=none:=Pm.go_no emo
     show (if decide ((-1:Int) = -1)=true then _ else _)
     rw [ag rfl];refine cK ⟨_,rfl,q g as G k hg hgl ?_ hlk hm0⟩
     rw [hlsp,hsplit,hgo,bC];exact htr
    | some j =>
     obtain ⟨z,em⟩:=Pm.member_some (Pm.memberOf_lt emo)
     obtain ⟨nz,wz⟩:=z
     have hgo:Pm.go y st=some (wz,Pm.mplace y.1 y.2 j):=Pm.go_of emo em
     show (if decide (((j:Nat):Int) = -1)=true then _ else _)
     rw [af (by omega)]
     obtain ⟨asy,⟨C,dy,fs,ly,hy1,hC,hki,hme,ek,eme,hy2⟩,hylen,hym⟩:=FM.hold ndy
     have hjl:j<asy.length:=by rw [hylen];exact Pm.memberOf_lt emo
     obtain ⟨n2,w2',em2,_,nd2⟩:=hym j asy[j] (aJ hjl)
     have ew:w2'=wz:=by
      rw [em] at em2;injection em2 with em2;injection em2 with _ em2;exact em2.symm
     subst ew;have hal:=htr.len
     refine cA ⟨_,rfl,.inl ⟨rfl,_,SqL.of hgl⟩,_,rfl,ex5 a' C dy fs _ ⟨rfl,k _ _ hy1,hC,hme,eme,_,rfl,ly,_,_,V.ref asy[j],rfl,rfl,SqL.of (k _ _ hy2),gI (by rw [bq,aJ hjl];rfl),g,ex2 _ _ ⟨rfl,rfl,hgl,by rw [au,hal,htl,sizeLine_eq];omega,?_⟩⟩⟩
     have hgH:∀ b o,H b=some o→b≠g:=fun b o e=>ah e hg
     have k2:bH H (upd G g (.lst (as.map V.ref++[V.ref asy[j]]))):=fun b o e=>(ai (hgH b o e)).trans (k b o e)
     have hyi:(Pm.trail (v,0) l)[i]? = some y:=by
      rw [hlsp,hsplit,bz (by rw [htl];omega)]
      rw [b9,htl] at elast;exact elast
     have hai:as[i]? = some a':=by rw [eas,eE (by have:=congrArg List.length eas;rw [aa,aP,hal,htl] at this;omega)];have:=congrArg List.length eas;rw [aa,aP,hal,htl] at this;rw [show i - as'.length=0 by omega];rfl
     refine ⟨k2,as++[asy[j]],_,_,_,rfl,?_,?_,?_,hlk.snoc (by rw [hal,htl]) hai hyi el emo ⟨C,dy,fs,ly,hy1,hC,hki,hme,ek,eme,hy2⟩ (aJ hjl),?_⟩
     ·rw [aA,aL];rfl
     ·rw [d9,el];show (Pm.trail (v,0) (l.take i++[st])).length=_
      rw [hsplit,hgo,aa,htl];unfold Pm.trail;rfl
     ·rw [d9,el];show TrA (R H) _ (Pm.trail (v,0) (l.take i++[st]))
      rw [hsplit,hgo];have ez:Pm.trail (w2',Pm.mplace y.1 y.2 j) []=[(w2',Pm.mplace y.1 y.2 j)]:=by unfold Pm.trail;rfl
      show TrA (R H) _ (_++Pm.trail (w2',Pm.mplace y.1 y.2 j) [])
      rw [ez];exact htr.snoc nd2
     ·rw [bz (by rw [hal,htl];omega)]
      exact hm0
  ·rintro σ G ⟨k,as,v4,v5,v6,rfl,hgl,htl,htr,hlk,hm0⟩
   rw [hwl,fH] at htr;exact ⟨_,rfl,q g as G k hg hgl htr hlk hm0⟩
def uo:Sp:=fun vs H Q _=>∃ n:Nat,vs=[.int (n:Int)]∧n<34359738368∧∀ (x:Addr) (H':Hp),bH H H'→H x=none→H' x=some (.lst ((Sw.vary n).map bv))→Q (.ref x) H'
theorem vE:ba ["amount","row","left"] ["amount"] (aQ sVR):=fs_
theorem ok_VR {f:Addr} {fd:FuncData} (F:Fun K "vary_row" "vary_row" sVR f fd):bt P w K mg base CX0 1 f fd ["amount"] uo:=by
 refine F.ok vE (fun vs H Q E h=>?_) (fun cdv A outer s H vs Q E hr h=>?_)
 ·obtain ⟨n,rfl,_⟩:=h
  rfl
 ·obtain ⟨n,rfl,hn,q⟩:=h
  refine ⟨_,aq (bb (i:=1) vE.nd rfl (.inl rfl) (dP aD))
   (aq (bb (i:=2) vE.nd rfl (.inl rfl) (pv 0))
   (aq (gW PassesOwn.never (bh wN (pv 2) aX (bw _))
    (aq (cE (gX aZ PySem.F.slot_list_append PySem.F.type_list_append gZ (pv 1) (ae (cY eZ (cY oB (pv 2) aX) aX) aD)))
    (aE (bb (i:=2) vE.nd rfl (.inl rfl) (cY oC (pv 2) aX)))))
   (aq (cE (gX aZ PySem.F.slot_list_append PySem.F.type_list_append gZ (pv 1) (ae (pv 2) aD)))
   (aE (br (pv 1)))))),?_⟩
  try dsimp only [cD];refine ⟨(by show 0≤sizeLine;decide),fun x hx=>?_⟩
  refine ⟨_,rfl,fun m σ G=>∃ (acc:List UInt8) (left:Nat),σ=[some (.int (n:Int)),some (.ref x),some (.int (left:Int))]∧bH H G∧G x=some (.lst (acc.map bv))∧acc++Sw.vary left=Sw.vary n∧m=left,ex3 n [] n ⟨rfl,fun b o e=>(ai (ah e hx)).trans e,aA,rfl,rfl⟩,?_⟩
  rintro m σ G ⟨acc,left,rfl,k,hG,hv,hm⟩
  have hsh:=iZ (n:=n) (by omega)
  have hal:acc.length+(Sw.vary left).length=(Sw.vary n).length:=by rw [←hv,aa]
  have hbd:acc.length<sizeLine:=by rw [sizeLine_eq];omega
  refine ⟨_,rfl,ex2 _ _ ⟨rfl,rfl,_,rfl,?_⟩⟩
  by_cases c:left<128
  ·rw [af (show ¬((128:Int)≤((left:Nat):Int)) by omega)]
   refine cA ⟨_,rfl,.inl ⟨rfl,_,SqL.of hG⟩,_,rfl,ex3 x _ _ ⟨rfl,rfl,hG,by rw [au];exact hbd,_,rfl,?_⟩⟩
   refine q x _ (fun b o e=>(ai (ah e hx)).trans (k b o e)) hx ?_
   rw [aA,←hv,iY c,aL];show _=some (HO.lst (acc.map bv++[bv (UInt8.ofNat left)]))
   rw [u6 (by omega)]
  ·rw [ag (show ((128:Int)≤((left:Nat):Int)) by omega)]
   refine cK ⟨_,fun σ' G' h=>h,?_⟩
   refine ⟨_,rfl,.inl ⟨rfl,_,SqL.of hG⟩,_,rfl,ex2 _ _ ⟨rfl,rfl,(by show (0:Int)<128;decide),ex2 _ _ ⟨rfl,rfl,ex3 x _ _ ⟨rfl,rfl,hG,by rw [au];exact hbd,?_⟩⟩⟩⟩
   refine ⟨_,rfl,ex2 _ _ ⟨rfl,rfl,⟨by decide,by decide⟩,left / 128,by omega,acc++[UInt8.ofNat (128+left % 128)],left / 128,?_,fun b o e=>(ai (ah e hx)).trans (k b o e),?_,?_,rfl⟩⟩
   ·show [some (V.int (n:Int)),some (V.ref x),some (V.int (((left:Nat):Int) / 128))]=_
    rw [show (((left:Nat):Int) / 128)=((left / 128:Nat):Int) by omega]
   ·rw [aA,aL];show some (HO.lst (acc.map bv++[V.int (((left:Nat):Int) % 128+128)]))=some (HO.lst (acc.map bv++[bv (UInt8.ofNat (128+left % 128))]))
    rw [u6 (by omega),show (((left:Nat):Int) % 128+128)=((128+left % 128:Nat):Int) by omega]
   ·rw [aO];show acc++(UInt8.ofNat (128+left % 128)::Sw.vary (left / 128))=_
    rw [←jw c,hv]
inductive Sh where
 | node (a l n r:Addr) (ms:List Sh)
def Sh.a:Sh→Addr
 | .node a _ _ _ _=>a
mutual
def Sh.adr:Sh→List Addr
 | .node a l _ _ ms=>a::l::Sh.adrs ms
def Sh.adrs:List Sh→List Addr
 | []=>[]
 | s::r=>s.adr++Sh.adrs r
end
mutual
def Sh.frz:Sh→List Addr
 | .node _ _ n r ms=>n::r::Sh.frzs ms
def Sh.frzs:List Sh→List Addr
 | []=>[]
 | s::r=>s.frz++Sh.frzs r
end
def nf (k:Nat) (n r:Addr) (len:Int) (l:Addr):List (Str×V):=[("kind",.int (k:Int)),("name",.ref n),("row",.ref r),("length",.int len),("members",.ref l)]
mutual
inductive NdT (CT:Addr) (H:Hp):Sh→Sw.Value→List UInt8→Prop
 | mk {a l n r dx:Addr} {ms:List Sh} {v:Sw.Value} {nm:List UInt8}:H a=some (.ins CT dx (nf v.kind n r (v.enc.length:Int) l))→H n=some (.lst (nm.map bv))→(Pm.isHold v∨H r=some (.lst (v.enc.map bv)))∧(∃ o,H r=some o) →
   H l=some (.lst (ms.map fun s=>V.ref s.a))→eD CT H ms (Pm.rowOf v)→NdT CT H (.node a l n r ms) v nm
inductive eD (CT:Addr) (H:Hp):List Sh→Sw.Row→Prop
 | nil:eD CT H [] .nil
 | cons {s:Sh} {ss:List Sh} {nm:List UInt8} {w:Sw.Value} {r:Sw.Row}:NdT CT H s w nm→eD CT H ss r→eD CT H (s::ss) (.cons nm w r)
end
def KpL (H H':Hp) (xs:List Addr):Prop:=∀ x∈xs,∀ o,H x=some o→H' x=some o
theorem KpL.of_same {H H':Hp} (k:bH H H') (xs:List Addr):KpL H H' xs:=fun x _ o e=>k x o e
theorem KpL.sub {H H':Hp} {xs ys:List Addr} (k:KpL H H' xs) (h:∀ y∈ys,y∈xs):KpL H H' ys:=fun x hx o e=>k x (h x hx) o e
mutual
theorem NdT.keep {CT:Addr} {H H':Hp}:∀ {s:Sh} {v:Sw.Value} {nm:List UInt8},NdT CT H s v nm→KpL H H' s.adr→KpL H H' s.frz→NdT CT H' s v nm
 | _,_,_,.mk h1 h2 h3 h4 h5,ka,kf=>by
  unfold Sh.adr at ka;unfold Sh.frz at kf;refine .mk (ka _ (by simp) _ h1) (kf _ (by simp) _ h2) ⟨h3.1.imp id fun z=>kf _ (by simp) _ z,h3.2.elim fun o z=>⟨o,kf _ (by simp) _ z⟩⟩ (ka _ (by simp) _ h4) (h5.keep (ka.sub fun y hy=>by simp [hy]) (kf.sub fun y hy=>by simp [hy]))
theorem eD.keep {CT:Addr} {H H':Hp}:∀ {ss:List Sh} {r:Sw.Row},eD CT H ss r→KpL H H' (Sh.adrs ss)→KpL H H' (Sh.frzs ss)→eD CT H' ss r
 | _,_,.nil,_,_=>.nil
 | _,_,.cons h1 h2,ka,kf=>by
  unfold Sh.adrs at ka;unfold Sh.frzs at kf;exact .cons (h1.keep (ka.sub fun y hy=>by simp [hy]) (kf.sub fun y hy=>by simp [hy])) (h2.keep (ka.sub fun y hy=>by simp [hy]) (kf.sub fun y hy=>by simp [hy]))
end
theorem NdT.same {CT:Addr} {H H':Hp} {s:Sh} {v:Sw.Value} {nm:List UInt8} (h:NdT CT H s v nm) (k:bH H H'):NdT CT H' s v nm:=h.keep (.of_same k _) (.of_same k _)
theorem eD.len {CT:Addr} {H:Hp}:∀ {ss:List Sh} {r:Sw.Row},eD CT H ss r→ss.length=r.length
 | _,_,.nil=>rfl
 | _,_,.cons _ h=>by
  rw [aj,h.len];rfl
theorem eD.get {CT:Addr} {H:Hp}:∀ {ss:List Sh} {r:Sw.Row},eD CT H ss r→∀ {i:Nat} {s:Sh},ss[i]? = some s→∃ n w,r.get? i=some (n,w)∧NdT CT H s w n
 | _,_,.nil,i,s,e=>by simp at e
 | _,_,.cons (s:=s0) h1 h2,0,s,e=>by
  have e:some s0=some s:=e
  injection e with e;subst e;exact ex2 _ _ ⟨rfl,h1⟩
 | _,_,.cons h1 h2,i+1,s,e=>h2.get e
mutual
theorem NdT.all {CT:Addr} {H:Hp}:∀ {s:Sh} {v:Sw.Value} {nm:List UInt8},NdT CT H s v nm→∀ x∈s.adr,∃ o,H x=some o
 | _,_,_,.mk h1 h2 h3 h4 h5,x,hx=>by
  unfold Sh.adr at hx;rcases aB.mp hx with rfl | hx
  ·exact ⟨_,h1⟩
  ·rcases aB.mp hx with rfl | hx
   ·exact ⟨_,h4⟩
   ·exact h5.all x hx
theorem eD.all {CT:Addr} {H:Hp}:∀ {ss:List Sh} {r:Sw.Row},eD CT H ss r→∀ x∈Sh.adrs ss,∃ o,H x=some o
 | _,_,.nil,x,hx=>by simp [Sh.adrs] at hx
 | _,_,.cons h1 h2,x,hx=>by
  unfold Sh.adrs at hx;rcases aF.mp hx with hx | hx
  ·exact h1.all x hx
  ·exact h2.all x hx
end
mutual
theorem NdT.allF {CT:Addr} {H:Hp}:∀ {s:Sh} {v:Sw.Value} {nm:List UInt8},NdT CT H s v nm→∀ x∈s.frz,∃ o,H x=some o
 | _,_,_,.mk h1 h2 h3 h4 h5,x,hx=>by
  unfold Sh.frz at hx;rcases aB.mp hx with rfl | hx
  ·exact ⟨_,h2⟩
  ·rcases aB.mp hx with rfl | hx
   ·exact h3.2
   ·exact h5.allF x hx
theorem eD.allF {CT:Addr} {H:Hp}:∀ {ss:List Sh} {r:Sw.Row},eD CT H ss r→∀ x∈Sh.frzs ss,∃ o,H x=some o
 | _,_,.nil,x,hx=>by simp [Sh.frzs] at hx
 | _,_,.cons h1 h2,x,hx=>by
  unfold Sh.frzs at hx;rcases aF.mp hx with hx | hx
  ·exact h1.allF x hx
  ·exact h2.allF x hx
end
theorem dq:∀ (a b:List Sh),Sh.adrs (a++b)=Sh.adrs a++Sh.adrs b
 | [],b=>rfl
 | s::a,b=>by
  show s.adr++Sh.adrs (a++b)=s.adr++Sh.adrs a++Sh.adrs b
  rw [dq a b,aO]
theorem cZ:∀ (a b:List Sh),Sh.frzs (a++b)=Sh.frzs a++Sh.frzs b
 | [],b=>rfl
 | s::a,b=>by
  show s.frz++Sh.frzs (a++b)=s.frz++Sh.frzs a++Sh.frzs b
  rw [cZ a b,aO]
theorem eD.append {CT:Addr} {H:Hp}:∀ {ss ts:List Sh} {m k:Sw.Row},eD CT H ss m→eD CT H ts k→eD CT H (ss++ts) (Pm.rapp m k)
 | _,_,_,_,.nil,h2=>h2
 | _,_,_,_,.cons h0 h1,h2=>.cons h0 (h1.append h2)
theorem eD.split {CT:Addr} {H:Hp}:∀ {ss:List Sh} {r:Sw.Row},eD CT H ss r→∀ {i:Nat} {s:Sh},ss[i]? = some s→∃ n w r1 r2,r=Pm.rapp r1 (.cons n w r2)∧r1.length=i∧eD CT H (ss.take i) r1∧NdT CT H s w n∧eD CT H (ss.drop (i+1)) r2
 | _,_,.nil,i,s,e=>by simp at e
 | _,_,.cons (s:=s0) h1 h2,0,s,e=>by
  have e:some s0=some s:=e
  injection e with e;subst e;exact ⟨_,_,.nil,_,rfl,rfl,.nil,h1,h2⟩
 | _,_,.cons h1 h2,i+1,s,e=>by
  obtain ⟨n,w,r1,r2,e1,e2,e3,e4,e5⟩:=h2.split e
  refine ⟨n,w,.cons _ _ r1,r2,by rw [e1];rfl,?_,.cons h1 e3,e4,e5⟩
  show r1.length+1=i+1
  rw [e2]
theorem eD.cut {CT:Addr} {H:Hp}:∀ {ss:List Sh} {r:Sw.Row},eD CT H ss r→∀ {i:Nat},i≤ss.length→∃ r1 r2,r=Pm.rapp r1 r2∧r1.length=i∧eD CT H (ss.take i) r1∧eD CT H (ss.drop i) r2
 | _,_,h,0,_=>⟨.nil,_,rfl,rfl,by rw [dF];exact .nil,by rw [dW];exact h⟩
 | _,_,.nil,i+1,hi=>by simp at hi
 | _,_,.cons h1 h2,i+1,hi=>by
  obtain ⟨r1,r2,e1,e2,e3,e4⟩:=h2.cut (i:=i) (by simpa using hi)
  refine ⟨.cons _ _ r1,r2,by rw [e1];rfl,?_,.cons h1 e3,e4⟩
  show r1.length+1=i+1
  rw [e2]
structure TxD (K:Fg_) (mg:Str→Option Value) (CT:Addr):Prop where
 cT:Cls K CT
 nKi:cV K CT "kind"
 nNa:cV K CT "name"
 nRo:cV K CT "row"
 nLe:cV K CT "length"
 nMe:cV K CT "members"
 mT:mg "Node" = some (.ref CT)
theorem nQ {α β:Type} {f:α→β} {xs:List α} {i:Nat} {y:β} (h:(xs.map f)[i]? = some y):∃ x,xs[i]? = some x∧f x=y:=by
 rw [bq] at h;cases e:xs[i]? with
 | none=>rw [e] at h;cases h
 | some x =>
  rw [e] at h;exact ⟨x,rfl,a8 h⟩
theorem jQ {K:Fg_} {mg:Str→Option Value} {CT:Addr} (TD:TxD K mg CT):Fam K (fun H a x=>∃ s nm,s.a=a∧NdT CT H s x.1 nm∧x.1.plain=true) where
 same:=fun ⟨s,nm,e,h,p⟩ k=>⟨s,nm,e,h.same k,p⟩
 pl:=fun ⟨_,_,_,_,p⟩=>p
 hold:=fun {H a x} ⟨s,nm,e,h,p⟩=>by
  cases h with
  | mk h1 h2 h3 h4 h5 =>
   rename_i a0 l n r dx ms
   have e:a0=a:=e
   subst e;refine ⟨ms.map Sh.a,⟨CT,dx,_,l,h1,TD.cT,TD.nKi,TD.nMe,rfl,rfl,by rw [dN];exact h4⟩,by rw [au];exact h5.len,fun i a' ea=>?_⟩
   obtain ⟨s',es,rfl⟩:=nQ ea
   obtain ⟨n',w,eg,hn⟩:=h5.get es
   have em:x.1.member i=some (n',w):=by rw [Pm.member_eq];exact eg
   refine ⟨n',w,em,?_,s',n',rfl,hn,Pm.plain_mem p em⟩
   cases hn with
   | mk g1 g2 g3 g4 g5=>exact ⟨CT,_,_,_,g1,TD.cT,TD.nNa,rfl,g2⟩
def Lk (K:Fg_) (H:Hp) (x:Sw.Value×Nat) (l:List Sw.Step) (as:List Addr):Prop:=∀ (i:Nat) (a':Addr),as[i+1]? = some a' →
 ∃ (h:Addr) (k:Nat) (ms:List Addr) (y:Sw.Value×Nat) (st:Sw.Step) (j:Nat),as[i]? = some h∧(Pm.trail x l)[i]? = some y∧l[i]? = some st∧y.1.memberOf st=some j∧fE K H h k ms∧ms[j]? = some a'
theorem jt.lk {K:Fg_} {H:Hp} {v:Sw.Value} {l:List Sw.Step} {as:List Addr} (h:jt K H v l as):Lk K H (v,0) l as:=h
theorem Lk.tail {K:Fg_} {H:Hp} {x y:Sw.Value×Nat} {st:Sw.Step} {l:List Sw.Step} {a0:Addr} {as:List Addr} (h:Lk K H x (st::l) (a0::as)) (hg:Pm.go x st=some y):Lk K H y l as:=by
 intro i a' e
 have e:(a0::as)[(i+1)+1]? = some a':=e
 obtain ⟨hh,k,ms,z,s',j,e1,e2,e3,e4,e5,e6⟩:=h (i+1) a' e
 refine ⟨hh,k,ms,z,s',j,e1,?_,e3,e4,e5,e6⟩
 have:Pm.trail x (st::l)=x::Pm.trail y l:=by
  conv=>lhs;unfold Pm.trail
  rw [hg]
 rw [this] at e2;exact e2
theorem Lk.front {K:Fg_} {H:Hp} {x:Sw.Value×Nat} {a:List Sw.Step} {s:Sw.Step} {as:List Addr} (h:Lk K H x (a++[s]) as) (ht:(Pm.trail x a).length=a.length+1):Lk K H x a (as.take (a.length+1)):=by
 intro i a' e
 have hi:i+1<a.length+1:=by
  have:=(aN.mp e).1
  rw [aH] at this;omega
 rw [a6 hi] at e;obtain ⟨hh,k,ms,z,s',j,e1,e2,e3,e4,e5,e6⟩:=h i a' e
 refine ⟨hh,k,ms,z,s',j,by rw [a6 (by omega)];exact e1,?_,by rw [bz (by omega)] at e3;exact e3,e4,e5,e6⟩
 cases el:(Pm.trail x a).getLast? with
 | none=>exact absurd (a9.mp el) (Pm.trail_ne _ _)
 | some y =>
  rw [Pm.trail_snoc a x y s [] ht el,bz (by omega)] at e2
  exact e2
theorem pY {K:Fg_} {CT:Addr} {H:Hp} {a l n r dx:Addr} {k k':Nat} {len:Int} {ms:List Addr} {ss:List Sh} (h1:H a=some (.ins CT dx (nf k n r len l))) (h4:H l=some (.lst (ss.map fun s=>V.ref s.a))) (hh:fE K H a k' ms):ms=ss.map Sh.a:=by
 obtain ⟨C,dx',fs,l',e1,_,_,_,_,e2,e3⟩:=hh
 rw [h1] at e1;injection e1 with e1;injection e1 with _ _ e1;subst e1;have e2:some (V.ref l)=some (V.ref l'):=e2
 injection e2 with e2;injection e2 with e2;subst e2;rw [h4] at e3;injection e3 with e3;injection e3 with e3;have:(ss.map Sh.a).map V.ref=ms.map V.ref:=by rw [dN];exact e3
 exact (List.map_inj_right (fun x y z=>by injection z) |>.mp this).symm
theorem nt (v:Sw.Value) (i:Nat) (x:Sw.Value):(v.with_ i x).kind=v.kind:=by cases v<;>rfl
theorem t9 {v:Sw.Value} (h:Pm.isHold v) (i:Nat) (x:Sw.Value):Pm.rowOf (v.with_ i x)=(Pm.rowOf v).set i x:=by
 cases v with
 | list m=>rfl
 | rec_ m=>rfl
 | _=>rcases h with h | h<;>cases h
theorem nW {v w:Sw.Value} (h:Pm.isHold v) (e:w.kind=v.kind):Pm.isHold w:=by
 unfold Pm.isHold at *
 rw [e];exact h
theorem rN {A B C D E:List Addr} {a l:Addr} (h:C.Perm (D++E)):(a::l::(A++(C++B))).Perm ((a::l::(A++B++D))++E):=by
 refine cX.mpr fun x=>?_
 have:=h.count_eq x
 simp only [cu,eP,dw] at *;omega
theorem nR {α:Type} {ms:List α} {i:Nat} {s:α} (h:ms[i]? = some s):ms=ms.take i++s::ms.drop (i+1):=by
 have hi:=(aN.mp h)
 have:=cI i ms
 rw [bj hi.1,hi.2] at this;exact this.symm
theorem grow {K:Fg_} {CT:Addr} {H:Hp}:∀ (a:List Sw.Step) (s:Sh) (v:Sw.Value) (nm:List UInt8) (p:Nat) (u:Sw.Value) (q:Nat),(Pm.trail (v,p) a).length=a.length+1→(Pm.trail (v,p) a).getLast? = some (u,q)→NdT CT H s v nm→s.adr.Nodup →
  ∃ (t:Sh) (nmu:List UInt8) (hs rest restF:List Addr) (put:Sh→Sh),NdT CT H t u nmu∧(∀ x∈hs,x∈rest)∧s.adr.Perm (rest++t.adr)∧s.frz.Perm (restF++t.frz) ∧
   (∀ x∈hs,∃ dx k n r len l,H x=some (.ins CT dx (nf k n r len l)))∧(∀ as,Lk K H (v,p) a as→as[0]? = some s.a→as.length=a.length+1→as=hs++[t.a])∧hs.Nodup ∧
   ∀ (H':Hp) (t':Sh) (u':Sw.Value) (g:Int),t'.a=t.a→(u'.enc.length:Int)=(u.enc.length:Int)+g→NdT CT H' t' u' nmu →
    (∀ x∈hs,∀ dx k n r len l,H x=some (.ins CT dx (nf k n r len l))→H' x=some (.ins CT dx (nf k n r (len+g) l)))→(∀ x∈rest,x∉hs→∀ o,H x=some o→H' x=some o)→KpL H H' restF →
    NdT CT H' (put t') (Pm.repl v a u') nm∧(put t').a=s.a∧(put t').adr.Perm (rest++t'.adr)∧(put t').frz.Perm (restF++t'.frz)
 | [],s,v,nm,p,u,q,_,h2,hd,_=>by
  have h2:some (v,p)=some (u,q):=by unfold Pm.trail at h2;exact h2
  injection h2 with h2;injection h2 with h2 h3;subst h2 h3;refine ⟨s,nm,[],[],[],id,hd,fun x hx=>hx,.refl _,.refl _,(fun x hx=>by simp at hx),(fun as _ h0 hl=>?_),.nil,fun H' t' u' g e1 e2 e3 _ _ _=>⟨?_,e1,.refl _,.refl _⟩⟩
  ·cases as with
   | nil=>simp at h0
   | cons b as =>
    have h0:some b=some s.a:=h0
    injection h0 with h0;have:as=[]:=by simpa using hl
    rw [this,h0];rfl
  ·unfold Pm.repl;exact e3
 | st::a,s,v,nm,p,u,q,h1,h2,hd,hnd=>by
  obtain ⟨i,n,w,e1,e2,e3,e4⟩:=Pm.trail_cons h1 h2
  have e1:v.memberOf st=some i:=e1
  have e2:v.member i=some (n,w):=e2
  have hgo:Pm.go (v,p) st=some (w,Pm.mplace v p i):=Pm.go_of e1 e2
  have hhold:=Pm.memberOf_hold e1
  cases hd with
  | mk d1 d2 d3 d4 d5 =>
   rename_i ra l n0 r0 dx ms
   have hlt:i<ms.length:=by rw [d5.len];exact Pm.memberOf_lt e1
   obtain ⟨s1,es1⟩:∃ s1,ms[i]? = some s1:=⟨_,aJ hlt⟩
   obtain ⟨n',w',r1,r2,f1,f2,f3,f4,f5⟩:=d5.split es1
   have hnw:n'=n∧w'=w:=by
    have z:(Pm.rowOf v).get? i=some (n,w):=by rw [←Pm.member_eq];exact e2
    have z2:=Pm.rapp_get r1 (.cons n' w' r2) 0
    rw [fk,f2,←f1,z] at z2;have z2:some (n,w)=some (n',w'):=z2
    injection z2 with z2;injection z2 with z2 z3;exact ⟨z2.symm,z3.symm⟩
   obtain ⟨rfl,rfl⟩:=hnw
   have hms:=nR es1
   have ead:Sh.adrs ms=Sh.adrs (ms.take i)++(s1.adr++Sh.adrs (ms.drop (i+1))):=by
    conv=>lhs;rw [hms,dq]
    rfl
   have efz:Sh.frzs ms=Sh.frzs (ms.take i)++(s1.frz++Sh.frzs (ms.drop (i+1))):=by
    conv=>lhs;rw [hms,cZ]
    rfl
   have hnd':(ra::l::(Sh.adrs (ms.take i)++(s1.adr++Sh.adrs (ms.drop (i+1))))).Nodup:=by
    rw [←ead];exact hnd
   have hnd1:s1.adr.Nodup:=((bc.mp ((bc.mp (aS.mp (aS.mp hnd').2).2).2.1)).1)
   obtain ⟨t,nmu,hs,rest,restF,put,g1,g2,g3,g4,g5,g6,g8,g7⟩:=grow a s1 w' n' _ u q e3 e4 f4 hnd1
   have hin:∀ x∈hs,x∈s1.adr:=fun x hx=>g3.mem_iff.mpr (az _ (g2 x hx))
   have hra:ra∉hs:=fun z=>(aS.mp hnd').1 (ax _ (ak _ (az _ (hin _ z))))
   have hap:=bc.mp (aS.mp (aS.mp hnd').2).2
   have hbp:=bc.mp hap.2.1
   refine ⟨t,nmu,ra::hs,ra::l::(Sh.adrs (ms.take i)++Sh.adrs (ms.drop (i+1))++rest),n0::r0::(Sh.frzs (ms.take i)++Sh.frzs (ms.drop (i+1))++restF),fun t'=>.node ra l n0 r0 (ms.take i++put t'::ms.drop (i+1)),g1,?_,?_,?_,?_,?_,?_,?_⟩
   ·intro x hx;rcases aB.mp hx with rfl | hx
    ·simp
    ·have:=g2 x hx
     simp [this]
   ·show (ra::l::Sh.adrs ms).Perm _
    rw [ead];exact rN g3
   ·show (n0::r0::Sh.frzs ms).Perm _
    rw [efz];exact rN g4
   ·intro x hx;rcases aB.mp hx with rfl | hx
    ·exact ⟨_,_,_,_,_,_,d1⟩
    ·exact g5 x hx
   ·intro as hlk h0 hl;cases as with
    | nil=>simp at h0
    | cons b as =>
     have h0:some b=some ra:=h0
     injection h0 with h0;subst h0;have hl':as.length=a.length+1:=by simpa using hl
     cases as with
     | nil=>simp at hl'
     | cons b1 as =>
      obtain ⟨hh,k,ma,y,s',j,x1,x2,x3,x4,x5,x6⟩:=hlk 0 b1 rfl
      have x1:some b=some hh:=x1
      injection x1 with x1;subst x1;rw [Pm.trail_head] at x2;injection x2 with x2;subst x2;have x3:some st=some s':=x3
      injection x3 with x3;subst x3;have x4:v.memberOf st=some j:=x4
      rw [e1] at x4;injection x4 with x4;subst x4;rw [pY d1 d4 x5] at x6;obtain ⟨s2,z1,z2⟩:=nQ x6
      rw [es1] at z1;injection z1 with z1;subst z1;rw [g6 (b1::as) (hlk.tail hgo) (by rw [←z2];rfl) hl']
      rfl
   ·exact aS.mpr ⟨hra,g8⟩
   ·intro H' t' u' g k1 k2 k3 k4 k5 k6
    obtain ⟨m1,m2,m3,m4⟩:=g7 H' t' u' g k1 k2 k3 (fun x hx=>k4 x (ax _ hx)) (fun x hx hn o eo=>k5 x (by simp [hx]) (fun z=>by
     rcases aB.mp z with rfl | z
     ·exact (aS.mp hnd').1 (ax _ (ak _ (az _ (g3.mem_iff.mpr (az _ hx)))))
     ·exact hn z) o eo) (k6.sub fun y hy=>by simp [hy])
    have nl:l∉ra::hs:=fun z=>by
     rcases aB.mp z with z | z
     ·exact (cQ d4 d1 (by intro z;cases z)) z
     ·obtain ⟨dx',k',n',r',len',l',eh⟩:=g5 l z
      rw [d4] at eh;cases eh
    have outs:∀ x∈Sh.adrs (ms.take i)++Sh.adrs (ms.drop (i+1)),x∉ra::hs:=fun x hx z=>by
     rcases aB.mp z with rfl | z
     ·refine (aS.mp hnd').1 (ax _ ?_)
      rcases aF.mp hx with hx | hx
      ·exact az _ hx
      ·exact ak _ (ak _ hx)
     ·rcases aF.mp hx with hx | hx
      ·exact hap.2.2 x hx x (az _ (hin x z)) rfl
      ·exact hbp.2.2 x (hin x z) x hx rfl
    have keepO:∀ x∈Sh.adrs (ms.take i)++Sh.adrs (ms.drop (i+1)),∀ o,H x=some o→H' x=some o:=fun x hx o eo=>k5 x (by
     rcases aF.mp hx with hx | hx<;>simp [hx]) (outs x hx) o eo
    have keepF:∀ x∈Sh.frzs (ms.take i)++Sh.frzs (ms.drop (i+1)),∀ o,H x=some o→H' x=some o:=fun x hx o eo=>k6 x (by
     rcases aF.mp hx with hx | hx<;>simp [hx]) o eo
    obtain ⟨pre,post,j1,j2,j3⟩:=Pm.with_enc e2
    obtain ⟨pre',post',j1',j2',j3'⟩:=Pm.repl_enc a w' _ u q e3 e4
    have elen:((v.with_ i (Pm.repl w' a u')).enc.length:Int)=(v.enc.length:Int)+g:=by
     rw [j3,j3',j1,j1'];simp only [aa];omega
    rw [Pm.repl_cons e1 e2];refine ⟨.mk (dx:=dx) ?_ (k6 _ (by simp) _ d2) ⟨.inl (nW hhold (nt _ _ _)),d3.2.elim fun o y=>⟨o,k6 _ (by simp) _ y⟩⟩ ?_ ?_,rfl,?_,?_⟩
    ·rw [elen,nt];exact k4 ra (by simp) _ _ _ _ _ _ d1
    ·have:=k5 l (by simp) nl _ d4
     rw [this];congr 2
     conv=>lhs;rw [hms]
     rw [aL,aL,aY,aY,m2]
    ·have erow:Pm.rowOf (v.with_ i (Pm.repl w' a u'))=Pm.rapp r1 (.cons n' (Pm.repl w' a u') r2):=by
      rw [t9 hhold,f1];rw [←f2];exact Pm.rapp_set r1 r2 n' w' _
     rw [erow];refine eD.append (f3.keep (fun x hx o eo=>keepO x (az _ hx) o eo) fun x hx o eo=>keepF x (az _ hx) o eo) (.cons m1 (f5.keep (fun x hx o eo=>keepO x (ak _ hx) o eo) fun x hx o eo=>keepF x (ak _ hx) o eo))
    ·show (ra::l::Sh.adrs (ms.take i++put t'::ms.drop (i+1))).Perm _
     rw [dq];exact rN m3
    ·show (n0::r0::Sh.frzs (ms.take i++put t'::ms.drop (i+1))).Perm _
     rw [cZ];exact rN m4
def nmR (n:List UInt8):List UInt8:=if n=[] then [] else Sw.vary n.length++n
def yj (K:Fg_) (CP:Addr):Sp:=fun vs H Q _=>∃ (a m n l:Addr) (d:PD) (bs:List UInt8),vs=[.ref a,.ref m]∧SqL K H a (bs.map bv)∧gu CP H m d n l∧d.place≤d.fin∧d.fin≤bs.length ∧
 ∀ x,H x=none→Q (.ref x) (upd H x (.lst (((bs.drop d.place).take (d.fin - d.place)).map bv)))
def xY (K:Fg_) (CP CT:Addr):Sp:=fun vs H Q _=>∃ (B:Hp) (z dx a m:Addr) (bs:List UInt8) (v:Sw.Value) (p np:Nat) (n:List UInt8),vs=[.ref z,.ref a,.ref m]∧H z=some (.ins CT dx [])∧SqL K H a (bs.map bv)∧bH B H∧Nd CP B bs m v p np n ∧
 ∀ (l r b:Addr) (H':Hp),H l=none→H r=none→l≠r→B b=some (.lst (n.map bv))→H' z=some (.ins CT dx (nf v.kind b r (v.enc.length:Int) l))→H' l=some (.lst [])→(Pm.isHold v∨H' r=some (.lst (v.enc.map bv)))→(∃ xs,H' r=some (.lst xs))→Kp H H' z→Q .non H'
def vr:Sp:=fun vs H Q _=>∃ (b:Addr) (n:List UInt8),vs=[.ref b]∧H b=some (.lst (n.map bv))∧(nmR n).length≤16777216∧∀ (x:Addr) (H':Hp),bH H H'→H x=none→H' x=some (.lst ((nmR n).map bv))→Q (.ref x) H'
def vt (CT:Addr):Sp:=fun vs H Q _=>∃ (a dx b r l:Addr) (k:Nat) (len:Int) (n:List UInt8),vs=[.ref a]∧H a=some (.ins CT dx (nf k b r len l))∧H b=some (.lst (n.map bv))∧n.length≤1000000∧∀ H':Hp,bH H H'→Q (.int (((nmR n).length:Int)+len)) H'
def vy (CT:Addr):Sp:=fun vs H Q _=>∃ (a dx b r l:Addr) (k:Nat) (len:Int) (xs:List V),vs=[.ref a]∧H a=some (.ins CT dx (nf k b r len l))∧H l=some (.lst xs)∧xs.length<34359738368∧∀ H':Hp,bH H H'→Q (.int ((Sw.vary xs.length).length:Int)) H'
def Lng (CT:Addr) (H H':Hp) (as:List Addr) (g:Int):Prop:=∀ x∈as,∀ dx k n r len l,H x=some (.ins CT dx (nf k n r len l))→H' x=some (.ins CT dx (nf k n r (len+g) l))
def jZ (CT:Addr) (H:Hp) (as:List Addr):Prop:=∀ x∈as,∃ dx k n r len l,H x=some (.ins CT dx (nf k n r len l))
def gO (CT CV:Addr) (H:Hp) (Q:VK) (E:XK) (a0:Addr) (len0:Int) (as ls:List Addr) (g:Int) (new:Hp→Prop):Prop :=
 if 16777216<len0+g then ic E CV [.int (-9)] else ∀ H':Hp,(∀ x o,H x=some o→x∉as→x∉ls→H' x=some o)→Lng CT H H' as g→new H'→Q (.ref a0) H'
def ur (CT CV:Addr):Sp:=fun vs H Q E=>∃ (gl a0:Addr) (as:List Addr) (g len0:Int),vs=[.ref gl,.int g]∧H gl=some (.lst (as.map V.ref))∧as.Nodup∧jZ CT H as∧as[0]? = some a0 ∧
 (∃ dx k n r l,H a0=some (.ins CT dx (nf k n r len0 l)))∧gO CT CV H Q E a0 len0 as [] g fun _=>True
theorem scAB:ba ["row","part"] ["row","part"] (aQ sAB):=fs_
theorem ok_AB {f:Addr} {fd:FuncData} (F:Fun K "all_bytes" "all_bytes" sAB f fd) (TP:TxP K mg CP):bt P w K mg base CX0 1 f fd ["row","part"] (yj K CP):=by
 refine F.ok scAB (fun vs H Q E h=>?_) (fun cdv A outer s H vs Q E hr h=>?_)
 ·obtain ⟨a,m,n,l,d,bs,rfl,_⟩:=h
  rfl
 ·obtain ⟨a,m,n,l,d,bs,rfl,hs,⟨dx,hm⟩,h1,h2,q⟩:=h
  refine ⟨_,aE (br (gi ik (pv 0) (eY (aV (pv 1) rfl)) (eY (aV (pv 1) rfl)))),?_⟩
  try dsimp only [cD];refine ⟨_,rfl,_,rfl,ex5 m CP dx _ _ ⟨rfl,hm,TP.cP,TP.nPl,rfl,_,rfl,_,rfl,ex5 m CP dx _ _ ⟨rfl,hm,TP.cP,TP.nEn,rfl,_,rfl,ex2 a _ ⟨rfl,hs,fun x hx=>?_⟩⟩⟩⟩
  have e:=jb bs d.place (d.fin - d.place) (by omega) (x:=(d.place:Int)) (y:=(d.fin:Int)) rfl (by omega)
  rw [e];exact q x hx
theorem scNI:ba ["self","row","part"] ["self","row","part"] (aQ sNI):=fs_
theorem ok_NI {f fAB:Addr} {fd fdA:FuncData} (F:Fun K "__init__" "Node.__init__" sNI f fd) (TP:TxP K mg CP) (B:TxB mg CP) (TD:TxD K mg CT)
  (GA:Co P w K mg base CX0 1 fAB fdA ["row","part"] (yj K CP) "all_bytes") :
  bt P w K mg base CX0 2 f fd ["self","row","part"] (xY K CP CT):=by
 refine F.ok scNI (fun vs H Q E h=>?_) (fun cdv A outer s H vs Q E hr h=>?_)
 ·obtain ⟨B',z,dx,a,m,bs,v,p,np,n,rfl,_⟩:=h
  rfl
 ·obtain ⟨B',z,dx,a,m,bs,v,p,np,n,rfl,hz,hs,hB',nd,q⟩:=h
  refine ⟨_,aq (cJ (pv 0) (aV (pv 2) rfl) rfl) (aq (cJ (pv 0) (aV (pv 2) rfl) rfl)
   (aq (cJ (pv 0) (jG (bh gY (aV (pv 2) rfl) (mr (ae (pgi B.k5 rfl) (ae (pgi B.k6 rfl) aD))) (by with_unfolding_all rfl)) (dP aD) (bJ GA hr rfl cx (ae (pv 1) (ae (pv 2) aD)))) rfl)
   (aq (cJ (pv 0) (cY gk (aV (pv 2) rfl) (aV (pv 2) rfl)) rfl) (aE (cJ (pv 0) (dP aD) rfl))))),?_⟩
  try dsimp only [cD];obtain ⟨b,lm,as,dm,hb,h1,_⟩:=nd.pt
  have h1:=hB' _ _ h1
  have nzm:m≠z:=cQ h1 hz (by intro y;injection y with _ _ y3;exact absurd (congrArg List.length y3) (by show ¬9=0;decide))
  refine ⟨_,rfl,m,CP,dm,_,_,rfl,h1,TP.cP,TP.nKi,rfl,_,rfl,z,CT,dx,[],rfl,hz,TD.cT,TD.nKi,(by show 0<1000;decide),?_⟩
  refine ⟨_,rfl,m,CP,dm,_,_,rfl,by rw [ai nzm];exact h1,TP.cP,TP.nNl,rfl,_,rfl,z,CT,dx,_,rfl,aA,TD.cT,TD.nNa,(by show 1<1000;decide),?_⟩
  generalize hH1:upd (upd H z _) z _=H1;have hz1:H1 z=some (.ins CT dx [("kind",.int (v.kind:Int)),("name",.ref b)]):=by
   rw [←hH1,aA];rfl
  have k1:∀ c o,H c=some o→c≠z→H1 c=some o:=fun c o e n=>by rw [←hH1,ai n,ai n];exact e
  have hm1:=k1 _ _ h1 nzm
  have hs1:SqL K H1 a (bs.map bv):=by
   rcases hs with (y | ⟨o,y⟩) | y
   ·exact .inl (.inl (k1 _ _ y (cQ y hz (by intro z;cases z))))
   ·exact .inl (.inr ⟨o,k1 _ _ y (cQ y hz (by intro z;cases z))⟩)
   ·exact .inr y
  have free1:∀ x,H1 x=none→H x=none:=fun x hx=>by
   cases e:H x with
   | none=>rfl
   | some o =>
    by_cases y:x=z
    ·rw [y,hz1] at hx;cases hx
    ·rw [k1 x o e y] at hx;cases hx
  refine ⟨_,rfl,ex5 m CP dm _ _ ⟨rfl,hm1,TP.cP,TP.nKi,rfl,(by show 2≤sizeLine;decide),fun t ht=>ex2 t _ ⟨rfl,.inr (SqT.of aA),rfl,rfl,_,rfl,?_⟩⟩⟩
  rw [show (if false=true then !inV (.int ((Pm.pdOf v p np n.length).kind:Int)) [.int 5,.int 6] else inV (.int ((Pm.pdOf v p np n.length).kind:Int)) [.int 5,.int 6])=decide (v.kind=5∨v.kind=6) from oQ (a:=5) (b:=6)]
  generalize hH2:upd H1 t (.tup [.int 5,.int 6])=H2;have k2:bH H1 H2:=fun c o e=>by rw [←hH2,ai (ah e ht)];exact e
  have at1:=nd.at_.take
  have hle:=nd.at_.le
  by_cases c:v.kind=5∨v.kind=6
  case' pos =>
   rw [ag c];refine cK ⟨aW _,fun r hr=>?_⟩
   have hrow:Pm.isHold v∨upd H2 r (.lst []) r=some (.lst (v.enc.map bv)):=.inl c
   generalize hH3:upd H2 r (.lst [])=H3 at hrow
  case' neg =>
   rw [af c];refine cA ⟨_,rfl,_,rfl,ex6 a m b lm _ bs ⟨rfl,k2.seq hs1,⟨dm,k2 _ _ hm1⟩,by show p≤p+_;omega,hle,fun r hr=>?_⟩⟩
   have e1:((bs.drop (Pm.pdOf v p np n.length).place).take ((Pm.pdOf v p np n.length).fin - (Pm.pdOf v p np n.length).place))=v.enc:=by
    show (bs.drop p).take (p+v.enc.length - p)=v.enc
    rw [Nat.add_sub_cancel_left];exact at1
   rw [e1];have hrow:Pm.isHold v∨upd H2 r (.lst (v.enc.map bv)) r=some (.lst (v.enc.map bv)):=.inr aA
   generalize hH3:upd H2 r (.lst (v.enc.map bv))=H3 at hrow
  all_goals (
   have k3:bH H2 H3:=fun c o e=>by rw [←hH3,ai (ah e hr)];exact e
   have hr3:∃ xs,H3 r=some (.lst xs):=by rw [←hH3,aA];exact ⟨_,rfl⟩
   have hz3:=k3 _ _ (k2 _ _ hz1)
   have hm3:=k3 _ _ (k2 _ _ hm1)
   have hrH:H r=none:=free1 r (k2.free hr)
   obtain ⟨xs,hr3⟩:=hr3
   have nrz:r≠z:=cQ hr3 hz3 (by intro y;cases y)
   refine ⟨_,rfl,z,CT,dx,_,rfl,hz3,TD.cT,TD.nRo,(by show 2<1000;decide),?_⟩
   refine ⟨_,rfl,m,CP,dm,_,_,rfl,by rw [ai nzm];exact hm3,TP.cP,TP.nEn,rfl,_,rfl,m,CP,dm,_,_,rfl,by rw [ai nzm];exact hm3,TP.cP,TP.nPl,rfl,_,_,rfl,rfl,_,rfl,z,CT,dx,_,rfl,aA,TD.cT,TD.nLe,(by show 3<1000;decide),?_⟩
   refine ⟨aW _,fun l hl=>?_⟩
   have nlz:l≠z:=fun y=>by rw [y,aA] at hl;cases hl
   have hl3:H3 l=none:=by rw [ai nlz,ai nlz] at hl;exact hl
   have nlr:l≠r:=fun y=>by rw [y,hr3] at hl3;cases hl3
   refine ⟨_,rfl,z,CT,dx,_,rfl,by rw [ai (Ne.symm nlz)];exact aA,TD.cT,TD.nMe,(by show 4<1000;decide),?_⟩
   refine q l r b _ (free1 l (k2.free (k3.free hl3))) hrH nlr hb ?_ ?_ ?_ ⟨xs,?_⟩ fun c o e nc=>?_
   ·rw [aA];have elen:(((Pm.pdOf v p np n.length).fin:Nat):Int) - (((Pm.pdOf v p np n.length).place:Nat):Int)=(v.enc.length:Int):=by
     show (((p+v.enc.length:Nat):Int)) - ((p:Nat):Int)=_
     omega
    show some (HO.ins CT dx [("kind",V.int (v.kind:Int)),("name",V.ref b),("row",V.ref r),("length",V.int ((((Pm.pdOf v p np n.length).fin:Nat):Int) - (((Pm.pdOf v p np n.length).place:Nat):Int))),("members",V.ref l)])=_
    rw [elen];rfl
   ·rw [ai nlz,aA]
   ·refine hrow.imp id fun y=>?_
    rw [ai nrz,ai (Ne.symm nlr),ai nrz,ai nrz];exact y
   ·rw [ai nrz,ai (Ne.symm nlr),ai nrz,ai nrz];exact hr3
   ·have e3:=k3 _ _ (k2 _ _ (k1 c o e nc))
    rw [ai nc,ai (ah e3 hl3),ai nc,ai nc];exact e3)
theorem scNW:ba ["name"] ["name"] (aQ sNW):=fs_
theorem ok_NW {f fVR:Addr} {fd fdV:FuncData} (F:Fun K "name_row" "name_row" sNW f fd) (len:mg "len" = none)
  (GV:Co P w K mg base CX0 1 fVR fdV ["amount"] uo "vary_row") :
  bt P w K mg base CX0 2 f fd ["name"] vr:=by
 refine F.ok scNW (fun vs H Q E h=>?_) (fun cdv A outer s H vs Q E hr h=>?_)
 ·obtain ⟨b,n,rfl,_⟩:=h
  rfl
 ·obtain ⟨b,n,rfl,hb,hn,q⟩:=h
  refine ⟨_,aE (br (jG (eB (pv 0) (fun _=>rfl)) (cY oE (bJ GV hr rfl cx (ae (bM bW (by rfl) len a7 (ae (pv 0) aD)) aD)) (pv 0)) (dP aD))),?_⟩
  try dsimp only [cD];refine ⟨_,rfl,_,.inl ⟨_,SqL.of hb,rfl⟩,?_⟩
  unfold nmR at q hn;cases n with
  | nil =>
   refine cA ⟨aW _,fun x hx=>?_⟩
   exact q x _ (fun c o e=>(ai (ah e hx)).trans e) hx (by rw [aA];rfl)
  | cons c n =>
   rw [if_neg (fun z=>nomatch z)] at q hn
   rw [aa] at hn;refine cK ⟨_,rfl,ex2 b _ ⟨rfl,.inl (SqL.of hb),(c::n).length,by show [V.int (((c::n).map bv).length:Int)]=_;rw [au],by omega,fun x H1 k1 hx h1=>?_⟩⟩
   have l5:=iZ (n:=(c::n).length) (by omega)
   refine ⟨_,rfl,ex4 x b _ _ ⟨rfl,rfl,SqL.of h1,SqL.of (k1 _ _ hb),?_,fun y hy=>?_⟩⟩
   ·rw [au,au,sizeLine_eq];omega
   ·refine q y _ (fun c o e=>(ai (ah (k1 _ _ e) hy)).trans (k1 _ _ e)) (k1.free hy) ?_
    rw [aA,aL]
theorem yO {n:List UInt8} (h:n.length≤1000000):(nmR n).length≤16777216:=by
 unfold nmR;have:=iZ (n:=n.length) (by omega)
 split
 ·exact aW _
 ·rw [aa];omega
theorem scML:ba ["node"] ["node"] (aQ sML):=fs_
theorem ok_ML {f fNW:Addr} {fd fdN:FuncData} (F:Fun K "member_length" "member_length" sML f fd) (TD:TxD K mg CT) (len:mg "len" = none)
  (GN:Co P w K mg base CX0 2 fNW fdN ["name"] vr "name_row") :
  bt P w K mg base CX0 3 f fd ["node"] (vt CT):=by
 refine F.ok scML (fun vs H Q E h=>?_) (fun cdv A outer s H vs Q E hr h=>?_)
 ·obtain ⟨a,dx,b,r,l,k,ln,n,rfl,_⟩:=h
  rfl
 ·obtain ⟨a,dx,b,r,l,k,ln,n,rfl,ha,hb,hn,q⟩:=h
  refine ⟨_,aE (br (cY eZ (bM bW (by rfl) len a7 (ae (bJ GN hr rfl cx (ae (aV (pv 0) rfl) aD)) aD)) (aV (pv 0) rfl))),?_⟩
  try dsimp only [cD];refine ⟨_,rfl,ex5 a CT dx _ _ ⟨rfl,ha,TD.cT,TD.nNa,rfl,ex2 b n ⟨rfl,hb,yO hn,fun x H1 k1 hx h1=>?_⟩⟩⟩
  refine ex2 x _ ⟨rfl,.inl (SqL.of h1),_,rfl,ex5 a CT dx _ _ ⟨rfl,k1 _ _ ha,TD.cT,TD.nLe,rfl,ex2 _ _ ⟨rfl,rfl,?_⟩⟩⟩
  rw [au];exact q H1 k1
theorem scCO:ba ["holder"] ["holder"] (aQ sCO):=fs_
theorem ok_CO {f fVR:Addr} {fd fdV:FuncData} (F:Fun K "count_length" "count_length" sCO f fd) (TD:TxD K mg CT) (len:mg "len" = none)
  (GV:Co P w K mg base CX0 1 fVR fdV ["amount"] uo "vary_row") :
  bt P w K mg base CX0 2 f fd ["holder"] (vy CT):=by
 refine F.ok scCO (fun vs H Q E h=>?_) (fun cdv A outer s H vs Q E hr h=>?_)
 ·obtain ⟨a,dx,b,r,l,k,ln,xs,rfl,_⟩:=h
  rfl
 ·obtain ⟨a,dx,b,r,l,k,ln,xs,rfl,ha,hl,hn,q⟩:=h
  refine ⟨_,aE (br (bM bW (by rfl) len a7 (ae (bJ GV hr rfl cx (ae (bM bW (by rfl) len a7 (ae (aV (pv 0) rfl) aD)) aD)) aD))),?_⟩
  try dsimp only [cD];refine ⟨_,rfl,ex5 a CT dx _ _ ⟨rfl,ha,TD.cT,TD.nMe,rfl,ex2 l _ ⟨rfl,.inl (SqL.of hl),xs.length,rfl,hn,fun x H1 k1 hx h1=>?_⟩⟩⟩
  refine ex2 x _ ⟨rfl,.inl (SqL.of h1),?_⟩
  rw [au];exact q H1 k1
theorem yP {k k':Nat} {n n' r r' l l':Addr} {a b g:Int} (h:nf k n r a l=nf k' n' r' b l'):nf k n r (a+g) l=nf k' n' r' (b+g) l':=by
 unfold nf at *
 injection h with h1 h;injection h with h2 h;injection h with h3 h;injection h with h4 h;injection h with h5 _;injection h1 with _ h1;injection h2 with _ h2;injection h3 with _ h3;injection h4 with _ h4;injection h5 with _ h5;injection h4 with h4;rw [h1,h2,h3,h4,h5]
theorem scLN:ba ["holders","grown","holder"] ["holders","grown"] (aQ sLN):=fs_
theorem ok_LN {f:Addr} {fd fdV:FuncData} (F:Fun K "lengthen" "lengthen" sLN f fd) (TD:TxD K mg CT) (lv:GI mg "LONGEST_VALUE" 16777216)
  (ucV:f6 K U CV fUV) (mV0:mg "NoValue" = some (.ref CV)) (GV:bt P w K mg base CX0 2 fUV fdV ["self"] (iL CV 0 aNV)) (bV:cB K fdV ["self"] []) :
  bt P w K mg base (CXF P w) 4 f fd ["holders","grown"] (ur CT CV):=by
 refine okX F scLN (fun vs H Q E h=>?_) (fun cdv A outer s H vs Q E hr h=>?_)
 ·obtain ⟨gl,a0,as,g,len0,rfl,_⟩:=h
  rfl
 ·obtain ⟨gl,a0,as,g,len0,rfl,hgl,hnd,hno,h0,⟨d0,k0,n0,r0,l0,ha0⟩,q⟩:=h
  refine ⟨_,aq (mq PassesOwn.leaving rfl (lF (pv 0)) (iu (i:=2) scLN.nd rfl (.inl rfl)) (aE (kr (pv 2) (pv 1) qS)))
   (aq (ck (bh iH (aV (dE cg (pv 0) aX (fun _ _=>rfl)) rfl) (pgi lv rfl) (bw _)) (aE (ir ucV GV bV rfl hr cC rfl rfl mV0)) bE)
   (aE (br (dE cg (pv 0) aX (fun _ _=>rfl))))),?_⟩
  try dsimp only [cD]
  have hgn:gl∉as:=fun z=>by
   obtain ⟨dx,k,n,r,len,l,e⟩:=hno gl z
   rw [hgl] at e
   cases e
  refine ⟨_,rfl,gl,rfl,⟨_,SqL.of hgl⟩,p5 (xs:=as.map V.ref) (fun i σ G=>(∃ v2,σ=[some (.ref gl),some (.int g),v2])∧(∀ x o,H x=some o→x∉as.take i→G x=some o)∧Lng CT H G (as.take i) g) ⟨⟨none,rfl⟩,fun x o e _=>e,fun x hx=>by simp at hx⟩ ?_ ?_ ?_⟩
  ·rintro i σ G _ ⟨_,kG,_⟩
   exact SqL.of (kG _ _ hgl fun z=>hgn (List.mem_of_mem_take z))
  ·rintro i x σ G hx ⟨⟨v2,rfl⟩,kG,lG⟩
   obtain ⟨h,eh,rfl⟩:=nQ hx
   have hi:i<as.length:=(aN.mp eh).1
   have hnt:h∉as.take i:=fun z=>by
    obtain ⟨j,ej⟩:=dv z
    have hj:j<i:=by
     have:=(aN.mp ej).1
     rw [aH] at this
     omega
    rw [a6 hj] at ej
    have:=(List.getElem?_inj (by omega) hnd).mp (ej.trans eh.symm)
    omega
   obtain ⟨dx,k,n,r,len,l,e⟩:=hno h (cN eh)
   have eG:=kG _ _ e hnt
   have etk:as.take (i+1)=as.take i++[h]:=by rw [d9,eh];rfl
   refine ⟨_,rfl,ex5 h CT dx _ _ ⟨rfl,eG,TD.cT,TD.nLe,rfl,_,rfl,ex2 _ _ ⟨rfl,rfl,dx,_,eG,(by show 5<1000;decide),?_⟩⟩⟩
   refine ⟨⟨_,rfl⟩,fun x o ex hx=>?_,fun x hx dx' k' n' r' len' l' ex=>?_⟩
   ·rw [etk] at hx
    rw [ai (fun z=>hx (by rw [z];simp))]
    exact kG x o ex fun z=>hx (az _ z)
   ·rw [etk] at hx
    by_cases hxh:x=h
    ·subst hxh
     rw [e] at ex
     injection ex with ex
     injection ex with _ ex1 ex2
     subst ex1
     have:nf k n r len l=nf k' n' r' len' l':=ex2
     rw [aA,←yP this]
     rfl
    ·rw [ai hxh]
     rcases aF.mp hx with hx | hx
     ·exact lG x hx _ _ _ _ _ _ ex
     ·exact absurd (aG.mp hx) hxh
  ·rintro σ G ⟨⟨v2,rfl⟩,kG,lG⟩
   rw [au,fH] at kG lG
   have hg2:=kG _ _ hgl hgn
   have hm0:a0∈as:=cN h0
   have hG0:=lG a0 hm0 _ _ _ _ _ _ ha0
   have hat:atI (as.map V.ref) 0=some (V.ref a0):=gI (j:=0) (by rw [bq,h0];rfl)
   refine ⟨_,rfl,gl,_,_,V.ref a0,rfl,rfl,SqL.of hg2,hat,ex5 a0 CT d0 _ _ ⟨rfl,hG0,TD.cT,TD.nLe,rfl,ex2 _ _ ⟨rfl,rfl,_,rfl,?_⟩⟩⟩
   unfold gO at q
   by_cases c:16777216<len0+g
   ·rw [ag c]
    rw [if_pos c] at q
    exact cK ⟨rfl,q⟩
   ·rw [af c]
    rw [if_neg c] at q
    exact cA ⟨_,rfl,gl,_,_,V.ref a0,rfl,rfl,SqL.of hg2,hat,q G (fun x o e hn _=>kG x o e hn) lG trivial⟩
def vp (CT CV:Addr):Sp:=fun vs H Q E=>∃ (gl h y a0:Addr) (hs:List Addr) (i:Nat) (dh nh rh lh dy ny ry ly:Addr) (kh ky:Nat) (lenh leny len0:Int) (ms:List V) (n:List UInt8),vs=[.ref gl,.int (i:Int)]∧H gl=some (.lst ((hs++[h]).map V.ref))∧(hs++[h]).Nodup∧jZ CT H (hs++[h]) ∧
 (hs++[h])[0]? = some a0∧(∃ dx k n r l,H a0=some (.ins CT dx (nf k n r len0 l)))∧H h=some (.ins CT dh (nf kh nh rh lenh lh))∧H lh=some (.lst ms)∧ms.length<16777216∧ms[i]? = some (V.ref y)∧H y=some (.ins CT dy (nf ky ny ry leny ly))∧H ny=some (.lst (n.map bv))∧n.length≤1000000∧gl≠lh∧ny≠lh ∧
 gO CT CV H Q E a0 len0 (hs++[h]) [lh] (((Sw.vary (ms.length - 1)).length:Int) - ((Sw.vary ms.length).length:Int) - (((nmR n).length:Int)+leny)) fun H'=>H' lh=some (.lst (ms.eraseIdx i))
theorem vH:ba ["holders","i","holder","before","gone"] ["holders","i"] (aQ sRM):=fs_
theorem ok_RM {f fCO fML fLN:Addr} {fd fdC fdM fdL:FuncData} (F:Fun K "remove_member" "remove_member" sRM f fd) (TD:TxD K mg CT)
  (GC:Co P w K mg base CX0 2 fCO fdC ["holder"] (vy CT) "count_length")
  (GM:Co P w K mg base CX0 3 fML fdM ["node"] (vt CT) "member_length")
  (GL:Co P w K mg base (CXF P w) 4 fLN fdL ["holders","grown"] (ur CT CV) "lengthen") :
  bt P w K mg base (CXF P w) 5 f fd ["holders","i"] (vp CT CV):=by
 refine okX F vH (fun vs H Q E h=>?_) (fun cdv A outer s H vs Q E hr h=>?_)
 ·obtain ⟨gl,h,y,a0,hs,i,dh,nh,rh,lh,dy,ny,ry,ly,kh,ky,lenh,leny,len0,ms,n,rfl,_⟩:=h
  rfl
 ·obtain ⟨gl,h,x,a0,hs,i,dh,nh,rh,lh,dx,nx,rx,lx,kh,kx,lenh,lenx,len0,ms,n,rfl,hgl,hnd,hno,h0,⟨d0,k0,n0,r0,l0,ha0⟩,hh,hlh,hmz,hi,hx,hnx,hn,ngl,nnl,q⟩:=h
  have hr2:cq 2 _:=hr.mono (by decide)
  have hr3:cq 3 _:=hr.mono (by decide)
  refine ⟨_,aq (bb (i:=2) vH.nd rfl (.inl rfl) (dE cg (pv 0) (dY dk aX) (fun _ _=>rfl)))
   (aq (bb (i:=3) vH.nd rfl (.inl rfl) (bJ GC hr2 rfl cx (ae (pv 2) aD)))
   (aq (bb (i:=4) vH.nd rfl (.inl rfl) (gX aZ PySem.F.slot_list_pop PySem.F.type_list_pop uM (aV (pv 2) rfl) (ae (pv 1) aD)))
   (aE (br (bJ GL hr rfl di (ae (pv 0) (ae (cY gk (cY gk (bJ GC hr2 rfl cx (ae (pv 2) aD)) (pv 3)) (bJ GM hr3 rfl cx (ae (pv 4) aD))) aD))))))),?_⟩
  try dsimp only [cD];have hil:i<ms.length:=(aN.mp hi).1
  refine ⟨_,rfl,_,rfl,gl,_,_,V.ref h,rfl,rfl,SqL.of hgl,by rw [aL];exact eC _ _,?_⟩
  refine ⟨_,rfl,h,dh,nh,rh,lh,kh,lenh,ms,rfl,hh,hlh,by omega,fun H1 k1=>?_⟩
  have hsi:seqIndex? (i:Int) ms.length=some i:=by
   unfold seqIndex?
   simp only [show ¬((i:Int)<0) by omega,if_false]
   rw [if_pos (by simp;omega)]
   rfl
  refine ⟨_,rfl,ex5 h CT dh _ (.ref lh) ⟨rfl,k1 _ _ hh,TD.cT,TD.nMe,rfl,.inl ⟨rfl,_,SqL.of (k1 _ _ hlh)⟩,_,rfl,lh,ms,(i:Int),i,V.ref x,rfl,rfl,k1 _ _ hlh,by omega,by omega,hsi,hi,?_⟩⟩
  generalize hH2:upd H1 lh (.lst (ms.eraseIdx i))=H2;have hl2:H2 lh=some (.lst (ms.eraseIdx i)):=by rw [←hH2,aA]
  have k2:∀ y o,H y=some o→y≠lh→H2 y=some o:=fun y o e ne=>by rw [←hH2,ai ne];exact k1 y o e
  have nins:∀ {y:Addr} {C d:Addr} {fs:List (Str×V)},H y=some (.ins C d fs)→y≠lh:=fun e=>cQ e hlh (by intro z;cases z)
  have hml:(ms.eraseIdx i).length=ms.length - 1:=by
   rw [List.length_eraseIdx,if_pos hil]
  refine ⟨_,rfl,_,rfl,h,dh,nh,rh,lh,kh,lenh,_,rfl,k2 _ _ hh (nins hh),hl2,by rw [hml];omega,fun H3 k3=>?_⟩
  refine ⟨_,rfl,ex2 _ _ ⟨rfl,rfl,_,rfl,ex8 x dx nx rx lx kx lenx n ⟨rfl,k3 _ _ (k2 _ _ hx (nins hx)),k3 _ _ (k2 _ _ hnx nnl),hn,fun H4 k4=>?_⟩⟩⟩
  have k24:bH H2 H4:=k3.trans k4
  refine ex2 _ _ ⟨rfl,rfl,gl,a0,hs++[h],_,len0,rfl,k24 _ _ (k2 _ _ hgl ngl),hnd,fun y hy=>?_,h0,⟨d0,k0,n0,r0,l0,k24 _ _ (k2 _ _ ha0 (nins ha0))⟩,?_⟩
  ·obtain ⟨dy,ky,ny,ry,leny,ly,e⟩:=hno y hy
   exact ⟨dy,ky,ny,ry,leny,ly,k24 _ _ (k2 _ _ e (nins e))⟩
  ·rw [hml];unfold gO at *
   by_cases c:16777216<len0+(((Sw.vary (ms.length - 1)).length:Int) - ((Sw.vary ms.length).length:Int) - (((nmR n).length:Int)+lenx))
   ·rw [if_pos c] at q ⊢;exact q
   ·rw [if_neg c] at q ⊢;intro H' f1 f2 _
    refine q H' (fun y o e n1 n2=>f1 y o (k24 _ _ (k2 y o e (fun z=>n2 (by rw [z];simp)))) n1 (by simp)) (fun y hy dy ky ny ry leny ly e=>f2 y hy _ _ _ _ _ _ (k24 _ _ (k2 _ _ e (nins e)))) ?_
    refine f1 lh _ (k24 _ _ hl2) (fun z=>?_) (by simp)
    obtain ⟨dy,ky,ny,ry,leny,ly,e⟩:=hno lh z
    rw [hlh] at e;cases e
def pE (CT CV:Addr):Sp:=fun vs H Q E=>∃ (gl h x a0:Addr) (hs:List Addr) (i:Nat) (dh nh rh lh dx nx rx lx:Addr) (kh kx:Nat) (lenh lenx len0:Int) (ms:List V) (n:List UInt8),vs=[.ref gl,.int (i:Int),.ref x]∧H gl=some (.lst ((hs++[h]).map V.ref))∧(hs++[h]).Nodup∧jZ CT H (hs++[h]) ∧
 (hs++[h])[0]? = some a0∧(∃ dx k n r l,H a0=some (.ins CT dx (nf k n r len0 l)))∧H h=some (.ins CT dh (nf kh nh rh lenh lh))∧H lh=some (.lst ms)∧ms.length<16777216∧i≤ms.length∧H x=some (.ins CT dx (nf kx nx rx lenx lx))∧H nx=some (.lst (n.map bv))∧n.length≤1000000∧gl≠lh∧nx≠lh ∧
 gO CT CV H Q E a0 len0 (hs++[h]) [lh] (((nmR n).length:Int)+lenx+((Sw.vary (ms.length+1)).length:Int) - ((Sw.vary ms.length).length:Int)) fun H'=>H' lh=some (.lst (ms.take i++V.ref x::ms.drop i))
theorem yw:ba ["holders","i","x","holder","before"] ["holders","i","x"] (aQ sIM):=fs_
theorem ok_IM {f fCO fML fLN:Addr} {fd fdC fdM fdL:FuncData} (F:Fun K "insert_member" "insert_member" sIM f fd) (TD:TxD K mg CT)
  (GC:Co P w K mg base CX0 2 fCO fdC ["holder"] (vy CT) "count_length")
  (GM:Co P w K mg base CX0 3 fML fdM ["node"] (vt CT) "member_length")
  (GL:Co P w K mg base (CXF P w) 4 fLN fdL ["holders","grown"] (ur CT CV) "lengthen") :
  bt P w K mg base (CXF P w) 5 f fd ["holders","i","x"] (pE CT CV):=by
 refine okX F yw (fun vs H Q E h=>?_) (fun cdv A outer s H vs Q E hr h=>?_)
 ·obtain ⟨gl,h,x,a0,hs,i,dh,nh,rh,lh,dx,nx,rx,lx,kh,kx,lenh,lenx,len0,ms,n,rfl,_⟩:=h
  rfl
 ·obtain ⟨gl,h,x,a0,hs,i,dh,nh,rh,lh,dx,nx,rx,lx,kh,kx,lenh,lenx,len0,ms,n,rfl,hgl,hnd,hno,h0,⟨d0,k0,n0,r0,l0,ha0⟩,hh,hlh,hmz,hi,hx,hnx,hn,ngl,nnl,q⟩:=h
  have hr2:cq 2 _:=hr.mono (by decide)
  have hr3:cq 3 _:=hr.mono (by decide)
  refine ⟨_,aq (bb (i:=3) yw.nd rfl (.inl rfl) (dE cg (pv 0) (dY dk aX) (fun _ _=>rfl)))
   (aq (bb (i:=4) yw.nd rfl (.inl rfl) (bJ GC hr2 rfl cx (ae (pv 3) aD)))
   (aq (cE (gX aZ PySem.F.slot_list_insert PySem.F.type_list_insert tH (aV (pv 3) rfl) (ae (pv 1) (ae (pv 2) aD))))
   (aE (br (bJ GL hr rfl di (ae (pv 0) (ae (cY gk (cY eZ (bJ GM hr3 rfl cx (ae (pv 2) aD)) (bJ GC hr2 rfl cx (ae (pv 3) aD))) (pv 4)) aD))))))),?_⟩
  try dsimp only [cD];refine ⟨_,rfl,_,rfl,gl,_,_,V.ref h,rfl,rfl,SqL.of hgl,by rw [aL];exact eC _ _,?_⟩
  refine ⟨_,rfl,h,dh,nh,rh,lh,kh,lenh,ms,rfl,hh,hlh,by omega,fun H1 k1=>?_⟩
  refine ⟨_,rfl,ex5 h CT dh _ (.ref lh) ⟨rfl,k1 _ _ hh,TD.cT,TD.nMe,rfl,.inl ⟨rfl,_,SqL.of (k1 _ _ hlh)⟩,_,rfl,_,rfl,lh,ms,i,V.ref x,rfl,rfl,k1 _ _ hlh,hi,by rw [sizeLine_eq];omega,?_⟩⟩
  generalize hH2:upd H1 lh (.lst (ms.take i++V.ref x::ms.drop i))=H2;have hl2:H2 lh=some (.lst (ms.take i++V.ref x::ms.drop i)):=by rw [←hH2,aA]
  have k2:∀ y o,H y=some o→y≠lh→H2 y=some o:=fun y o e ne=>by rw [←hH2,ai ne];exact k1 y o e
  have nins:∀ {y:Addr} {C d:Addr} {fs:List (Str×V)},H y=some (.ins C d fs)→y≠lh:=fun e=>cQ e hlh (by intro z;cases z)
  have hml:(ms.take i++V.ref x::ms.drop i).length=ms.length+1:=by
   rw [aa,aj,aH,ay];omega
  refine ⟨_,rfl,_,rfl,ex8 x dx nx rx lx kx lenx n ⟨rfl,k2 _ _ hx (nins hx),k2 _ _ hnx nnl,hn,fun H3 k3=>?_⟩⟩
  refine ⟨_,rfl,h,dh,nh,rh,lh,kh,lenh,_,rfl,k3 _ _ (k2 _ _ hh (nins hh)),k3 _ _ hl2,by rw [hml];omega,fun H4 k4=>?_⟩
  have k24:bH H2 H4:=k3.trans k4
  refine ex2 _ _ ⟨rfl,rfl,_,rfl,ex2 _ _ ⟨rfl,rfl,gl,a0,hs++[h],_,len0,rfl,k24 _ _ (k2 _ _ hgl ngl),hnd,fun y hy=>?_,h0,⟨d0,k0,n0,r0,l0,k24 _ _ (k2 _ _ ha0 (nins ha0))⟩,?_⟩⟩
  ·obtain ⟨dy,ky,ny,ry,leny,ly,e⟩:=hno y hy
   exact ⟨dy,ky,ny,ry,leny,ly,k24 _ _ (k2 _ _ e (nins e))⟩
  ·rw [hml];unfold gO at *
   by_cases c:16777216<len0+(((nmR n).length:Int)+lenx+((Sw.vary (ms.length+1)).length:Int) - ((Sw.vary ms.length).length:Int))
   ·rw [if_pos c] at q ⊢;exact q
   ·rw [if_neg c] at q ⊢;intro H' f1 f2 _
    refine q H' (fun y o e n1 n2=>f1 y o (k24 _ _ (k2 y o e (fun z=>n2 (by rw [z];simp)))) n1 (by simp)) (fun y hy dy ky ny ry leny ly e=>f2 y hy _ _ _ _ _ _ (k24 _ _ (k2 _ _ e (nins e)))) ?_
    refine f1 lh _ (k24 _ _ hl2) (fun z=>?_) (by simp)
    obtain ⟨dy,ky,ny,ry,leny,ly,e⟩:=hno lh z
    rw [hlh] at e;cases e
structure j4 (CT:Addr) (B H:Hp) (s:Sh) (v:Sw.Value):Prop where
 sb:bH B H
 ok:NdT CT H s v []
 nd:s.adr.Nodup
 fz:∀ x∈s.frz,x∉s.adr
 fb:∀ x∈s.adr,B x=none
 pl:v.plain=true
 dp:v.deep≤64
 ln:v.enc.length≤16777216
structure jY (K:Fg_) (CT:Addr) (H:Hp) (s:Sh) (v:Sw.Value) (nm:List UInt8) (p:Nat) (a:List Sw.Step) (u:Sw.Value) (t:Sh) (nmu:List UInt8) (hs rest restF:List Addr) (put:Sh→Sh):Prop where
 ok:NdT CT H t u nmu
 inR:∀ x∈hs,x∈rest
 adr:s.adr.Perm (rest++t.adr)
 frz:s.frz.Perm (restF++t.frz)
 nodes:∀ x∈hs,∃ dx k n r len l,H x=some (.ins CT dx (nf k n r len l))
 way:∀ as,Lk K H (v,p) a as→as[0]? = some s.a→as.length=a.length+1→as=hs++[t.a]
 ndh:hs.Nodup
 fin:∀ (H':Hp) (t':Sh) (u':Sw.Value) (g:Int),t'.a=t.a→(u'.enc.length:Int)=(u.enc.length:Int)+g→NdT CT H' t' u' nmu →
    (∀ x∈hs,∀ dx k n r len l,H x=some (.ins CT dx (nf k n r len l))→H' x=some (.ins CT dx (nf k n r (len+g) l)))→(∀ x∈rest,x∉hs→∀ o,H x=some o→H' x=some o)→KpL H H' restF →
    NdT CT H' (put t') (Pm.repl v a u') nm∧(put t').a=s.a∧(put t').adr.Perm (rest++t'.adr)∧(put t').frz.Perm (restF++t'.frz)
theorem oh {K:Fg_} {CT:Addr} {H:Hp} {a:List Sw.Step} {s:Sh} {v:Sw.Value} {nm:List UInt8} {p:Nat} {u:Sw.Value} {q:Nat} (h1:(Pm.trail (v,p) a).length=a.length+1) (h2:(Pm.trail (v,p) a).getLast? = some (u,q)) (h3:NdT CT H s v nm) (h4:s.adr.Nodup) :
  ∃ t nmu hs rest restF put,jY K CT H s v nm p a u t nmu hs rest restF put:=by
 obtain ⟨t,nmu,hs,rest,restF,put,g1,g2,g3,g4,g5,g6,g7,g8⟩:=grow (K:=K) a s v nm p u q h1 h2 h3 h4
 exact ⟨t,nmu,hs,rest,restF,put,g1,g2,g3,g4,g5,g6,g7,g8⟩
theorem jY.ndt {K:Fg_} {CT:Addr} {H:Hp} {s:Sh} {v:Sw.Value} {nm:List UInt8} {p:Nat} {a:List Sw.Step} {u:Sw.Value} {t:Sh} {nmu:List UInt8} {hs rest restF:List Addr} {put:Sh→Sh} (W:jY K CT H s v nm p a u t nmu hs rest restF put) (hn:s.adr.Nodup):(hs++[t.a]).Nodup:=by
 rw [bc];refine ⟨W.ndh,by simp,fun x hx y hy z=>?_⟩
 rw [aG.mp hy] at z;have h1:(rest++t.adr).Nodup:=W.adr.nodup_iff.mp hn
 refine (bc.mp h1).2.2 x (W.inR x hx) t.a ?_ z
 cases t;unfold Sh.adr;exact aR
theorem jY.nodesAt {K:Fg_} {CT:Addr} {H:Hp} {s:Sh} {v:Sw.Value} {nm:List UInt8} {p:Nat} {a:List Sw.Step} {u:Sw.Value} {t:Sh} {nmu:List UInt8} {hs rest restF:List Addr} {put:Sh→Sh} (W:jY K CT H s v nm p a u t nmu hs rest restF put):jZ CT H (hs++[t.a]):=by
 intro x hx;rcases aF.mp hx with hx | hx
 ·exact W.nodes x hx
 ·rw [aG.mp hx];cases W.ok with
  | mk h1 _ _ _ _=>exact ⟨_,_,_,_,_,_,h1⟩
theorem tT {K:Fg_} {CT:Addr} {B H H':Hp} {s:Sh} {v:Sw.Value} {p:Nat} {a:List Sw.Step} {u u':Sw.Value} {ta tl tn tr:Addr} {tms tms':List Sh} {nmu:List UInt8} {hs rest restF:List Addr} {put:Sh→Sh} {g:Int} {xa xf gone:List Addr}
  (G:j4 CT B H s v) (W:jY K CT H s v [] p a u (.node ta tl tn tr tms) nmu hs rest restF put) (hu:Pm.isHold u) (hk:u'.kind=u.kind) (hlen:(u'.enc.length:Int)=(u.enc.length:Int)+g)
  (f1:∀ x o,H x=some o→x∉hs++[ta]→x∉[tl]→H' x=some o) (f2:Lng CT H H' (hs++[ta]) g) (f3:H' tl=some (.lst (tms'.map fun s=>V.ref s.a))) (f4:eD CT H' tms' (Pm.rowOf u'))
  (hxa:(s.adr++xa).Nodup) (hperm:(Sh.adrs tms++xa).Perm (Sh.adrs tms'++gone)) (hfr:∀ x∈Sh.frzs tms',x∈Sh.frzs tms∨x∈xf) (hxf:∀ x∈xf,x∉s.adr++xa) (hfx:∀ x∈s.frz,x∉xa) (hB:∀ x∈xa,B x=none)
  (hpl:(Pm.repl v a u').plain=true) (hdp:(Pm.repl v a u').deep≤64) (hln:(Pm.repl v a u').enc.length≤16777216) :
  ∃ s':Sh,s'.a=s.a∧j4 CT B H' s' (Pm.repl v a u'):=by
 have hmem:∀ x,x∈s.adr↔x∈rest++(ta::tl::Sh.adrs tms):=fun x=>W.adr.mem_iff
 have hsn:(rest++(ta::tl::Sh.adrs tms)).Nodup:=W.adr.nodup_iff.mp G.nd
 have hta:ta∈s.adr:=(hmem ta).mpr (by simp)
 have htl:tl∈s.adr:=(hmem tl).mpr (by simp)
 have hhs:∀ x∈hs++[ta],x∈s.adr:=fun x hx=>by
  rcases aF.mp hx with hx | hx
  ·exact (hmem x).mpr (az _ (W.inR x hx))
  ·rw [aG.mp hx];exact hta
 have hsb:bH B H':=fun x o e=>by
  refine f1 x o (G.sb x o e) (fun z=>?_) (fun z=>?_)
  ·rw [G.fb x (hhs x z)] at e;cases e
  ·rw [aG.mp z,G.fb tl htl] at e;cases e
 have hfrz:∀ x∈s.frz,∀ o,H x=some o→H' x=some o:=fun x hx o e=>f1 x o e (fun z=>G.fz x hx (hhs x z)) (fun z=>G.fz x hx (by rw [aG.mp z];exact htl))
 have hmf:∀ x,x∈s.frz↔x∈restF++(tn::tr::Sh.frzs tms):=fun x=>W.frz.mem_iff
 obtain ⟨w1,w2,w3,w4⟩:=W.fin H' (.node ta tl tn tr tms') u' g rfl hlen (by
   cases W.ok with
   | mk h1 h2 h3 h4 h5 =>
    rename_i dx
    refine .mk (dx:=dx) ?_ (hfrz _ ((hmf _).mpr (by simp)) _ h2) ⟨.inl (nW hu hk),h3.2.elim fun o y=>⟨o,hfrz _ ((hmf _).mpr (by simp)) _ y⟩⟩ f3 f4
    rw [hk,hlen];exact f2 ta (by simp) _ _ _ _ _ _ h1) (fun x hx=>f2 x (az _ hx)) (fun x hx hn o e=>f1 x o e (fun z=>by
   rcases aF.mp z with z | z
   ·exact hn z
   ·rw [aG.mp z] at hx;exact (bc.mp hsn).2.2 ta hx ta (by simp) rfl) (fun z=>by
   rw [aG.mp z] at hx;exact (bc.mp hsn).2.2 tl hx tl (by simp) rfl)) (fun x hx o e=>hfrz x ((hmf x).mpr (az _ hx)) o e)
 have hall:(s.adr++xa).Perm ((put (.node ta tl tn tr tms')).adr++gone):=by
  refine cX.mpr fun x=>?_
  have e1:=W.adr.count_eq x
  have e2:=w3.count_eq x
  have e3:=hperm.count_eq x
  simp only [Sh.adr,dw,eP] at *;omega
 have hnew:∀ x∈(put (.node ta tl tn tr tms')).adr,x∈s.adr++xa:=fun x hx=>hall.mem_iff.mpr (az _ hx)
 refine ⟨put (.node ta tl tn tr tms'),w2,hsb,w1,(bc.mp (hall.nodup_iff.mp hxa)).1,fun x hx z=>?_,fun x hx=>?_,hpl,hdp,hln⟩
 ·have hz:=hnew x z
  have hx:=w4.mem_iff.mp hx
  have hold:x∈s.frz→False:=fun y=>by
   rcases aF.mp hz with hz | hz
   ·exact G.fz x y hz
   ·exact hfx x y hz
  rcases aF.mp hx with hx | hx
  ·exact hold ((hmf x).mpr (az _ hx))
  ·unfold Sh.frz at hx;rcases aB.mp hx with rfl | hx
   ·exact hold ((hmf _).mpr (by simp))
   ·rcases aB.mp hx with rfl | hx
    ·exact hold ((hmf _).mpr (by simp))
    ·rcases hfr x hx with y | y
     ·exact hold ((hmf x).mpr (by simp [y]))
     ·exact hxf x y hz
 ·rcases aF.mp (hnew x hx) with hx | hx
  ·exact G.fb x hx
  ·exact hB x hx
theorem NdT.node {CT:Addr} {H:Hp} {s:Sh} {v:Sw.Value} {nm:List UInt8} (h:NdT CT H s v nm):∃ dx n r l,H s.a=some (.ins CT dx (nf v.kind n r (v.enc.length:Int) l)):=by
 cases h with
 | mk h1 _ _ _ _=>exact ⟨_,_,_,_,h1⟩
theorem sv (xs:List V):nq xs none (some (-1))=xs.dropLast:=by
 unfold nq;rw [HT.sIx_none,dW,Nat.sub_zero,List.dropLast_eq_take];congr 1
 show (if (-1:Int)<0 then ((-1:Int)+(xs.length:Int)).toNat else min (-1:Int).toNat xs.length)=_
 rw [if_pos (by decide)]
 omega
theorem jW {xs:List V} {k:Nat} {y:V} (hk:0<k) (h:xs[xs.length - k]? = some y) (hl:k≤xs.length):atI xs (-(k:Int))=some y:=by
 unfold atI ixN;rw [if_neg (by omega),if_pos (by omega)]
 show xs[(-(k:Int)+(xs.length:Int)).toNat]? = _
 rw [show (-(k:Int)+(xs.length:Int)).toNat=xs.length - k by omega]
 exact h
theorem uC {a:List Sw.Step} {v u u':Sw.Value} {p q:Nat} {g:Int} (h1:(Pm.trail (v,p) a).length=a.length+1) (h2:(Pm.trail (v,p) a).getLast? = some (u,q)) (h:(u'.enc.length:Int)=(u.enc.length:Int)+g):((Pm.repl v a u').enc.length:Int)=(v.enc.length:Int)+g:=by
 obtain ⟨pre,post,e1,_,e3⟩:=Pm.repl_enc a v p u q h1 h2
 rw [e3,e1];simp only [aa];omega
def Chg (CT CL CV:Addr) (B:Hp) (v:Sw.Value) (l:List Sw.Step) (d:Sw.Deed) (Q:VK) (E:XK):Prop:=match v.doneAt l d with
 | none=>ic E CL [.int (-4),.int (((v.leads l).length:Nat):Int)]
 | some v'=>if v'.ok=false then ic E CV [.int (-9)] else ∀ (s':Sh) (H':Hp),j4 CT B H' s' v'→Q (.ref s'.a) H'
theorem uI {w:Sw.Value} (hp:w.plain=true) (h:16777216<w.enc.length):w.ok=false:=by
 rw [Pm.ok_of hp,af (p:=w.enc.length≤Sw.MOST) (by unfold Sw.MOST;omega),gA]
theorem rO {w:Sw.Value} (hp:w.plain=true) (hd:w.deep≤64) (h:w.enc.length≤16777216):w.ok=true:=by
 rw [Pm.ok_of hp,ag (p:=w.deep≤Sw.DEEP) hd,ag (p:=w.enc.length≤Sw.MOST) h]
 rfl
theorem rP {w:Sw.Value} (hp:w.plain=true) (h:64<w.deep):w.ok=false:=by
 rw [Pm.ok_of hp,af (p:=w.deep≤Sw.DEEP) (by unfold Sw.DEEP;omega),fu]
theorem oJ {K:Fg_} {CT CL CV:Addr} {B H H1:Hp} {s:Sh} {v:Sw.Value} {a:List Sw.Step} {u u':Sw.Value} {q0:Nat} {ta tl tn tr:Addr} {tms tms':List Sh} {nmu:List UInt8} {hs rest restF:List Addr} {put:Sh→Sh} {g:Int} {xa xf gone:List Addr} {Q:VK} {E:XK} {l:List Sw.Step} {d:Sw.Deed}
  (G:j4 CT B H s v) (W:jY K CT H s v [] 0 a u (.node ta tl tn tr tms) nmu hs rest restF put) (h1:(Pm.trail (v,0) a).length=a.length+1) (h2:(Pm.trail (v,0) a).getLast? = some (u,q0)) (k1:∀ x o,H x=some o→x∈s.adr++s.frz∨B x=some o→H1 x=some o) (hu:Pm.isHold u) (hk:u'.kind=u.kind) (hlen:(u'.enc.length:Int)=(u.enc.length:Int)+g)
  (f4:∀ H',(∀ x o,H1 x=some o→x∉hs++[ta]→x∉[tl]→H' x=some o)→eD CT H' tms' (Pm.rowOf u'))
  (hxa:(s.adr++xa).Nodup) (hperm:(Sh.adrs tms++xa).Perm (Sh.adrs tms'++gone)) (hfr:∀ x∈Sh.frzs tms',x∈Sh.frzs tms∨x∈xf) (hxf:∀ x∈xf,x∉s.adr++xa) (hfx:∀ x∈s.frz,x∉xa) (hB:∀ x∈xa,B x=none)
  (hd:v.doneAt l d=some (Pm.repl v a u')) (hpl:(Pm.repl v a u').plain=true) (hdp:(Pm.repl v a u').deep≤64) (q:Chg CT CL CV B v l d Q E) :
  gO CT CV H1 Q E s.a (v.enc.length:Int) (hs++[ta]) [tl] g fun H'=>H' tl=some (.lst (tms'.map fun s=>V.ref s.a)):=by
 classical
 have hl:=uC h1 h2 hlen
 unfold gO;unfold Chg at q;rw [hd] at q;dsimp only at q;rw [←hl];by_cases c:16777216<(Pm.repl v a u').enc.length
 ·rw [if_pos (by omega)]
  rw [if_pos (uI hpl c)] at q;exact q
 ·rw [if_neg (by omega)]
  rw [rO hpl hdp (by omega),if_neg (fun z=>nomatch z)] at q
  intro H' f1 f2 f3
  have hmem:∀ x,x∈s.adr↔x∈rest++(ta::tl::Sh.adrs tms):=fun x=>W.adr.mem_iff
  have hhs:∀ x∈hs++[ta],x∈s.adr:=fun x hx=>by
   rcases aF.mp hx with hx | hx
   ·exact (hmem x).mpr (az _ (W.inR x hx))
   ·rw [aG.mp hx];exact (hmem ta).mpr (by simp)
  let H0:Hp:=fun x=>if x∈s.adr++s.frz∨(∃ o,B x=some o) then H x else none
  have e0:∀ x o,H0 x=some o→H1 x=some o:=fun x o e=>by
   have e:(if x∈s.adr++s.frz∨(∃ o,B x=some o) then H x else none)=some o:=e
   by_cases hx:x∈s.adr++s.frz∨(∃ o,B x=some o)
   ·rw [if_pos hx] at e;rcases hx with hx | ⟨o',hx⟩
    ·exact k1 x o e (.inl hx)
    ·have:=G.sb x o' hx
     rw [e] at this;injection this with this;subst this;exact k1 x o e (.inr hx)
   ·rw [if_neg hx] at e;cases e
  have kp0:∀ xs,(∀ x∈xs,x∈s.adr++s.frz)→KpL H H0 xs:=fun xs hxs x hx o e=>by
   show (if x∈s.adr++s.frz∨(∃ o,B x=some o) then H x else none)=some o
   rw [if_pos (.inl (hxs x hx))];exact e
  have G0:j4 CT B H0 s v:=⟨fun x o e=>by
   show (if x∈s.adr++s.frz∨(∃ o,B x=some o) then H x else none)=some o
   rw [if_pos (.inr ⟨o,e⟩)];exact G.sb x o e,G.ok.keep (kp0 _ fun x hx=>az _ hx) (kp0 _ fun x hx=>ak _ hx),G.nd,G.fz,G.fb,G.pl,G.dp,G.ln⟩
  have hsame:∀ x∈s.adr++s.frz,H0 x=H x:=fun x hx=>if_pos (.inl hx)
  have htf:∀ x∈restF++(tn::tr::Sh.frzs tms),x∈s.adr++s.frz:=fun x hx=>ak _ (W.frz.mem_iff.mpr hx)
  have hta':∀ x∈rest++(ta::tl::Sh.adrs tms),x∈s.adr++s.frz:=fun x hx=>az _ ((hmem x).mpr hx)
  have W0:jY K CT H0 s v [] 0 a u (.node ta tl tn tr tms) nmu hs rest restF put:=by
   refine ⟨W.ok.keep (kp0 _ fun x hx=>hta' x (ak _ hx)) (kp0 _ fun x hx=>htf x (ak _ hx)),W.inR,W.adr,W.frz,fun x hx=>?_,fun as hlk=>W.way as fun i a' e=>?_,W.ndh,fun H' t' u' g b1 b2 b3 b4 b5 b6=>W.fin H' t' u' g b1 b2 b3 (fun x hx dx k n r len l e=>b4 x hx _ _ _ _ _ _ (by rw [hsame x (hta' x (az _ (W.inR x hx)))];exact e)) (fun x hx hn o e=>b5 x hx hn o (by rw [hsame x (hta' x (az _ hx))];exact e)) fun x hx o e=>b6 x hx o (by rw [hsame x (htf x (az _ hx))];exact e)⟩
   ·obtain ⟨dx,k,n,r,len,l,e⟩:=W.nodes x hx
    exact ⟨dx,k,n,r,len,l,by rw [hsame x (hta' x (az _ (W.inR x hx)))];exact e⟩
   ·obtain ⟨hh,k,ms,y,st,j,z1,z2,z3,z4,⟨C,dx,fs,l',w1,w2,w3,w4,w5,w6,w7⟩,z6⟩:=hlk i a' e
    have back:∀ x o,H0 x=some o→H x=some o:=fun x o e=>by
     have e:(if x∈s.adr++s.frz∨(∃ o,B x=some o) then H x else none)=some o:=e
     by_cases hx:x∈s.adr++s.frz∨(∃ o,B x=some o)
     ·rw [if_pos hx] at e;exact e
     ·rw [if_neg hx] at e;cases e
    exact ⟨hh,k,ms,y,st,j,z1,z2,z3,z4,⟨C,dx,fs,l',back _ _ w1,w2,w3,w4,w5,w6,back _ _ w7⟩,z6⟩
  obtain ⟨s',es,G'⟩:=tT G0 W0 hu hk hlen (fun x o e n1 n2=>f1 x o (e0 x o e) n1 n2) (fun x hx dx k n r len l e=>f2 x hx _ _ _ _ _ _ (e0 _ _ e)) f3 (f4 H' f1) hxa hperm hfr hxf hfx hB hpl hdp (by omega)
  have:=q s' H' G'
  rw [es] at this;exact this
def xx (CT CL CV:Addr):Sp:=fun vs H Q E=>∃ (B:Hp) (s:Sh) (v:Sw.Value) (d:Addr) (ws:List V) (l:List Sw.Step),vs=[.ref s.a,.ref d]∧j4 CT B H s v∧B d=some (.lst ws)∧du B ws l∧l.length≤65536∧Chg CT CL CV B v l .take Q E
theorem qz {H:Hp} {ws:List V} {la:List Sw.Step} {ls:Sw.Step} (h:du H ws (la++[ls])):∃ w0,ws[ws.length - 1]? = some w0∧gq H w0 ls:=by
 have hl:=h.len
 rw [aa,aP] at hl;obtain ⟨w0,e⟩:∃ w0,ws[ws.length - 1]? = some w0:=⟨_,aJ (by omega)⟩
 obtain ⟨s,es,hs⟩:=h.get e
 rw [show ws.length - 1=la.length by omega,cw] at es
 injection es with es;subst es;exact ⟨w0,e,hs⟩
theorem mz:∀ (r:Sw.Row) (i:Nat) (n:List UInt8) (w:Sw.Value),r.get? i=some (n,w)→n∈r.names
 | .nil,_,_,_,h=>by cases h
 | .cons n' v' r,0,n,w,h=>by
  have h:some (n',v')=some (n,w):=h
  have h:=a8 h
  rw [Prod.mk.injEq] at h;rw [←h.1];exact aR
 | .cons n' v' r,i+1,n,w,h=>ax _ (mz r i n w h)
theorem tG {v:Sw.Value} (hp:v.plain=true) {i:Nat} {n:List UInt8} {w:Sw.Value} (h:v.member i=some (n,w)) (hn:Pm.namedOf v=true):Sw.nameOk n=true:=by
 cases v with
 | rec_ m =>
  have hp:(m.plain&&(m.names.all Sw.nameOk&&Sw.rising m.names))=true:=hp
  rw [aC,aC] at hp;rw [Pm.member_eq] at h;exact df.mp hp.2.1 n (mz m i n w h)
 | _=>cases hn
theorem pU {u:Sw.Value} (hp:u.plain=true) {i:Nat} {n:List UInt8} {w:Sw.Value} (hm:u.member i=some (n,w)):n.length≤255:=by
 obtain ⟨h1,h2⟩:=Pm.name_of hp hm
 cases e:Pm.namedOf u with
 | false=>rw [h1 e];exact aW _
 | true =>
  have:=tG hp hm e
  unfold Sw.nameOk at this;rw [aC,aC,bo,bo] at this;exact this.2.1
theorem uX {α:Type} {ms:List α} {i:Nat} (h:i<ms.length):ms.eraseIdx i=ms.take i++ms.drop (i+1):=List.eraseIdx_eq_take_drop_succ ms i
theorem ym:ba ["top","steps","trail","leading"] ["top","steps"] (aQ sTA):=fs_
theorem ok_TA {f fFW fFM fRM:Addr} {fd fdW fdF fdR fdL:FuncData} (F:Fun K "take_at" "take_at" sTA f fd) (TD:TxD K mg CT) (len:mg "len" = none) (uc:f6 K U CL fUL) (mL0:mg "LeadsNowhere" = some (.ref CL))
  (GL:bt P w K mg base CX0 2 fUL fdL ["self","leading"] (iL CL 1 aLN)) (bL:cB K fdL ["self","leading"] [])
  (GF:Co P w K mg base CX0 3 fFW fdW ["whole","steps"] (uu K) "follow")
  (GM:Co P w K mg base CX0 2 fFM fdF ["holder","step"] (uv K) "find_member")
  (GR:Co P w K mg base (CXF P w) 5 fRM fdR ["holders","i"] (vp CT CV) "remove_member") :
  bt P w K mg base (CXF P w) 6 f fd ["top","steps"] (xx CT CL CV):=by
 refine okX F ym (fun vs H Q E h=>?_) (fun cdv A outer s H vs Q E hr h=>?_)
 ·obtain ⟨B,s,v,d,ws,l,rfl,_⟩:=h
  rfl
 ·obtain ⟨B,sh,v,d,ws,l,rfl,G,hd,hst,hl,q⟩:=h
  have hr2:cq 2 _:=hr.mono (by decide)
  have hr3:cq 3 _:=hr.mono (by decide)
  refine ⟨_,aq (bb (i:=2) ym.nd rfl (.inl rfl) (bJ GF hr3 rfl cx (ae (pv 0) (ae (pv 1) aD))))
   (aq (bb (i:=3) ym.nd rfl (.inl rfl) (cY gk (bM bW (by rfl) len a7 (ae (pv 2) aD)) aX))
   (aq (ck (PW.pt (kZ (mj (eB (pv 1) (fun _=>rfl))) (jh (bh iG (pv 3) (bM bW (by rfl) len a7 (ae (pv 1) aD)) (bw _)))))
    (aE (ji uc GL bL rfl hr3 cC rfl rfl mL0 (ae (pv 3) aD) (by decide))) bE)
   (aE (br (bJ GR hr rfl di (ae (gi ik (pv 2) ow (eY (dY dk aX))) (ae (bJ GM hr2 rfl cx (ae (dE cg (pv 2) (dY dk aX) (fun _ _=>rfl)) (ae (dE cg (pv 1) (dY dk aX) (fun _ _=>rfl)) aD))) aD))))))),?_⟩
  try dsimp only [cD];have hdH:=G.sb _ _ hd
  refine ⟨_,rfl,_,rfl,ex6 _ sh.a d v ws l ⟨rfl,jQ TD,ex2 sh [] ⟨rfl,G.ok,G.pl⟩,hdH,hst.same G.sb,hl,fun g as H1 k1 hg0 hg htr hlk hm0=>?_⟩⟩
  have hal:=htr.len
  have htl:(Pm.trail (v,0) l).length=(v.leads l).length+1:=Pm.trail_len l (v,0)
  have hle:=Pm.leads_le l v
  have hwl:=hst.len
  have hd1:=k1 _ _ hdH
  refine ⟨_,rfl,ex2 g _ ⟨rfl,.inl (SqL.of hg),ex2 _ _ ⟨rfl,rfl,?_⟩⟩⟩
  have elead:(((as.map V.ref).length:Nat):Int) - 1=(((v.leads l).length:Nat):Int):=by
   rw [au,hal,htl];omega
  refine ⟨_,rfl,_,.inl ⟨_,SqL.of hd1,rfl⟩,?_⟩
  have bad:(l=[]∨(Pm.trail (v,0) l).length≤l.length)→ic E CL [.int (-4),.int (((v.leads l).length:Nat):Int)]:=fun c=>by
   unfold Chg at q;rw [Pm.take_none c] at q;exact q
  rcases bX l with el | ⟨la,ls,el⟩
  ·have ew:ws=[]:=by
    rw [el] at hwl;exact cy.mp hwl
   subst ew;refine cK ⟨_,rfl,rfl,?_⟩
   show ic E CL [.int (-4),.int ((((as.map V.ref).length:Nat):Int) - 1)]
   rw [elead];exact bad (.inl el)
  ·rw [bY] at el;have hne:ws≠[]:=fun z=>by
    rw [z,el,aa] at hwl;exact absurd hwl (by simp)
   have hemp:(!ws.isEmpty)=true:=by
    cases ws with
    | nil=>exact absurd rfl hne
    | cons _ _=>rfl
   rw [hemp];refine cA ⟨_,rfl,_,rfl,ex2 d _ ⟨rfl,.inl (SqL.of hd1),ex2 _ _ ⟨rfl,rfl,_,rfl,?_⟩⟩⟩
   show (if decide ((((as.map V.ref).length:Nat):Int) - 1<((ws.length:Nat):Int))=true then _ else _)
   rw [elead,hwl];by_cases c:(Pm.trail (v,0) l).length=l.length+1
   ·rw [af (show ¬((((v.leads l).length:Nat):Int)<((l.length:Nat):Int)) by omega)]
    cases elast:(Pm.trail (v,0) l).getLast? with
    | none=>exact absurd (a9.mp elast) (Pm.trail_ne _ _)
    | some y =>
     subst el;obtain ⟨u,p,i,n,t1,t2,t3,t4,t5,t6⟩:=Pm.trail_front c elast
     obtain ⟨t,nmu,hs,rest,restF,put,W⟩:=oh (K:=K) t1 t2 G.ok G.nd
     have hll:as.length=la.length+2:=by rw [hal,c,aa,aP]
     have hway:=W.way (as.take (la.length+1)) (hlk.lk.front t1) (by rw [a6 (by omega)];exact hm0) (by rw [aH];omega)
     have hdl:as.dropLast=hs++[t.a]:=by rw [List.dropLast_eq_take,hll];exact hway
     have htaA:as[la.length]? = some t.a:=by
      have e1:(as.take (la.length+1))[la.length]? = as[la.length]?:=a6 (by omega)
      rw [←e1,hway];have e2:hs.length=la.length:=by
       have:=congrArg List.length hway
       rw [aH,aa,aP] at this;omega
      rw [←e2,cw]
     obtain ⟨w0,ew0,hw0⟩:=qz hst
     have hup:=Pm.trail_last_pl G.pl t2
     have hhold:=Pm.memberOf_hold t3
     refine cA ⟨_,rfl,_,rfl,_,rfl,ex2 g _ ⟨rfl,SqL.of hg,fun g2 hg2=>?_⟩⟩
     rw [sv,←List.map_dropLast,hdl];have k2:bH H1 (upd H1 g2 (.lst ((hs++[t.a]).map V.ref))):=fun b o e=>(ai (ah e hg2)).trans e
     have k12:=k1.trans k2
     refine ⟨_,rfl,_,rfl,g,_,_,V.ref t.a,rfl,rfl,SqL.of (k2 _ _ hg),?_,_,rfl,_,rfl,ex4 d _ _ w0 ⟨rfl,rfl,SqL.of (k2 _ _ hd1),jW (k:=1) (by omega) ew0 (by cases ws with | nil=>exact absurd rfl hne | cons _ _=>simp),?_⟩⟩
     ·refine jW (k:=2) (by omega) ?_ (by rw [au];omega)
      rw [au,bq,show as.length - 2=la.length by omega,htaA]
      rfl
     ·refine ex5 _ t.a w0 (u,p) ls ⟨rfl,jQ TD,ex2 t nmu ⟨rfl,W.ok.same k12,hup⟩,(hw0.same G.sb).same k12,?_⟩
      have hmo:mNo u ls=(i:Int):=by unfold mNo;rw [t3]
      show vp CT CV [.ref g2,.int (mNo u ls)] _ _ _
      rw [hmo];have hndt:=W.ndt G.nd
      have hnat:=W.nodesAt
      obtain ⟨ta,tl,tn,tr,tms⟩:=t
      have Wok:=W.ok
      cases Wok with
      | mk h1 h2 h3 h4 h5 =>
       rename_i dt
       have hil:i<tms.length:=by rw [h5.len];exact Pm.memberOf_lt t3
       obtain ⟨sy,esy⟩:∃ sy,tms[i]? = some sy:=⟨_,aJ hil⟩
       obtain ⟨n',w',r1,r2,f1,f2,f3,f4,f5⟩:=h5.split esy
       have hmem:u.member i=some (n',w'):=by
        have z2:=Pm.rapp_get r1 (.cons n' w' r2) 0
        rw [fk,f2,←f1] at z2;rw [Pm.member_eq];exact z2
       have hn':=pU hup hmem
       obtain ⟨d0,n0,r0,l0,ha0⟩:=G.ok.node
       have hus:=Pm.row_short hhold
       have hul:u.enc.length≤v.enc.length:=by
        obtain ⟨pre,post,e1,_,_⟩:=Pm.repl_enc la v 0 u p t1 t2
        rw [e1];simp only [aa];omega
       have hvl:=G.ln
       have htms:=h5.len
       have hgn:∀ {x:Addr} {o:HO},H x=some o→x≠g2:=fun e=>ah (k1 _ _ e) hg2
       have f4':=f4
       cases f4 with
       | mk y1 y2 y3 y4 y5 =>
        rename_i ya yl yn yr yd yms
        have hyn:yn≠tl:=fun z=>by
         have hf:yn∈sh.frz:=W.frz.mem_iff.mpr (ak _ (by
          unfold Sh.frz;refine ax _ (ax _ ?_)
          rw [nR esy,cZ];refine ak _ ?_
          show yn∈(Sh.node ya yl yn yr yms).frz++_
          unfold Sh.frz;simp))
         exact G.fz yn hf (W.adr.mem_iff.mpr (by rw [z];simp [Sh.adr]))
        refine ⟨g2,ta,ya,sh.a,hs,i,dt,tn,tr,tl,yd,yn,yr,yl,u.kind,w'.kind,_,_,(v.enc.length:Int),_,n',rfl,aA,hndt,fun x hx=>?_,?_,⟨d0,_,n0,r0,l0,k12 _ _ ha0⟩,k12 _ _ h1,k12 _ _ h4,by rw [au];omega,by rw [bq,esy];rfl,k12 _ _ y1,k12 _ _ y2,by omega,fun z=>hgn h4 z.symm,hyn,?_⟩
        ·obtain ⟨dx,k,n,r,ln,lx,e⟩:=hnat x hx
         exact ⟨dx,k,n,r,ln,lx,k12 _ _ e⟩
        ·show (hs++[ta])[0]? = some sh.a
         rw [show hs++[ta]=as.take (la.length+1) from hway.symm,a6 (by omega)]
         exact hm0
        ·rw [au,show (tms.map fun s=>V.ref s.a).eraseIdx i=(tms.take i++tms.drop (i+1)).map (fun s=>V.ref s.a) by rw [uX (by rw [au];exact hil),aL,fL,gR]]
         have hlen:((Pm.withRow u (Pm.rapp r1 r2)).enc.length:Int)=(u.enc.length:Int)+(((Sw.vary (tms.length - 1)).length:Int) - ((Sw.vary tms.length).length:Int) - (((nmR n').length:Int)+(w'.enc.length:Int))):=by
          have:=Pm.len_more hhold (r1:=r1) (r2:=r2) (n:=n') (w:=w')
          rw [←f1,Pm.row_self hhold,Pm.nmB_is hup hmem] at this;have e3:tms.length=r1.length+r2.length+1:=by
           rw [htms,f1,Pm.rapp_len];show r1.length+(r2.length+1)=_
           omega
          rw [e3,show r1.length+r2.length+1 - 1=r1.length+r2.length by omega]
          unfold nmR;omega
         obtain ⟨u',d1,d2,d3,_⟩:=Pm.done_take t3 hup
         have hdn:=Pm.take_done t3 f1 f2
         rw [d1] at hdn;injection hdn with hdn;subst hdn;obtain ⟨rd1,rd2,rd3⟩:=Pm.repl_deep la v 0 u p (Pm.withRow u (Pm.rapp r1 r2)) t1 t2
         have hv64:=G.dp
         have hadr:∀ x∈Sh.adrs tms,x∈sh.adr:=fun x hx=>W.adr.mem_iff.mpr (ak _ (by unfold Sh.adr;simp [hx]))
         have hfz:∀ x∈Sh.frzs tms,x∈sh.frz:=fun x hx=>W.frz.mem_iff.mpr (ak _ (by unfold Sh.frz;simp [hx]))
         have hnd2:(rest++(ta::tl::Sh.adrs tms)).Nodup:=W.adr.nodup_iff.mp G.nd
         have hnd3:=bc.mp hnd2
         have eA:Sh.adrs tms=Sh.adrs (tms.take i)++((Sh.node ya yl yn yr yms).adr++Sh.adrs (tms.drop (i+1))):=by
          conv=>lhs;rw [nR esy,dq]
          rfl
         have eF:Sh.frzs tms=Sh.frzs (tms.take i)++((Sh.node ya yl yn yr yms).frz++Sh.frzs (tms.drop (i+1))):=by
          conv=>lhs;rw [nR esy,cZ]
          rfl
         refine oJ (CL:=CL) (xa:=[]) (xf:=[]) (gone:=(Sh.node ya yl yn yr yms).adr) (tms':=tms.take i++tms.drop (i+1)) (u':=Pm.withRow u (Pm.rapp r1 r2)) (l:=la++[ls]) (d:=.take) G W t1 t2 (fun x o e _=>k12 _ _ e) hhold (Pm.withRow_kind _ _) hlen (fun H' kk=>?_) (by rw [bC];exact G.nd) ?_ ?_ (fun x hx=>by simp at hx) (fun x _ hx=>by simp at hx) (fun x hx=>by simp at hx) ?_ (Pm.repl_plain la v _ G.pl d2) (by omega) q
         ·rw [Pm.withRow_row hhold];have hk:∀ x∈Sh.adrs (tms.take i)++Sh.adrs (tms.drop (i+1)),∀ o,H x=some o→H' x=some o:=fun x hx o e=>by
           have hx':x∈Sh.adrs tms:=by
            rw [eA];rcases aF.mp hx with hx | hx
            ·exact az _ hx
            ·exact ak _ (ak _ hx)
           refine kk x o (k12 _ _ e) (fun z=>?_) (fun z=>?_)
           ·rcases aF.mp z with z | z
            ·exact hnd3.2.2 x (W.inR x z) x (by simp [hx']) rfl
            ·rw [aG.mp z] at hx'
             exact (aS.mp hnd3.2.1).1 (ax _ hx')
           ·rw [aG.mp z] at hx'
            exact (aS.mp (aS.mp hnd3.2.1).2).1 hx'
          have hkf:∀ x∈Sh.frzs (tms.take i)++Sh.frzs (tms.drop (i+1)),∀ o,H x=some o→H' x=some o:=fun x hx o e=>by
           have hx':x∈sh.frz:=hfz x (by
            rw [eF];rcases aF.mp hx with hx | hx
            ·exact az _ hx
            ·exact ak _ (ak _ hx))
           refine kk x o (k12 _ _ e) (fun z=>G.fz x hx' ?_) (fun z=>G.fz x hx' ?_)
           ·refine W.adr.mem_iff.mpr ?_
            rcases aF.mp z with z | z
            ·exact az _ (W.inR x z)
            ·rw [aG.mp z];exact ak _ (by unfold Sh.adr;simp)
           ·refine W.adr.mem_iff.mpr ?_
            rw [aG.mp z];exact ak _ (by unfold Sh.adr;simp)
          exact eD.append (f3.keep (fun x hx o e=>hk x (az _ hx) o e) fun x hx o e=>hkf x (az _ hx) o e) (f5.keep (fun x hx o e=>hk x (ak _ hx) o e) fun x hx o e=>hkf x (ak _ hx) o e)
         ·rw [bC,eA,dq];refine cX.mpr fun x=>?_
          simp only [dw];omega
         ·intro x hx;rw [cZ] at hx;rw [eF];rcases aF.mp hx with hx | hx
          ·exact .inl (az _ hx)
          ·exact .inl (ak _ (ak _ hx))
         ·rw [Pm.doneAt_snoc la v 0 u p ls _ t1 t2,d1];rfl
   ·rw [ag (show ((((v.leads l).length:Nat):Int)<((l.length:Nat):Int)) by omega)]
    refine cK ⟨_,rfl,rfl,?_⟩
    show ic E CL [.int (-4),.int ((((as.map V.ref).length:Nat):Int) - 1)]
    rw [elead];exact bad (.inr (by omega))
def p9 (v:Sw.Value) (l:List Sw.Step) (d:Sw.Deed):List Int:=match v.doneAt l d with
 | none=>[-4,(((v.leads l).length:Nat):Int)]
 | some y=>if y.ok=false then [-9] else 0::dS y.enc
def qa (v w:Sw.Value) (d:Sw.Deed):List Int:=match Sw.pathOf w with
 | none=>[-5]
 | some l=>p9 v l d
theorem qX (v:Sw.Value) (l:List Sw.Step) (d:Sw.Deed):vf (Values.changed v l (v.doneAt l d))=p9 v l d:=by
 unfold p9 Values.changed;cases v.doneAt l d with
 | none=>rfl
 | some y =>
  show vf (if y.ok=false then Values.num (-9) else Values.gives y.enc)=if y.ok=false then [-9] else 0::dS y.enc
  by_cases c:y.ok=false
  ·rw [if_pos c,if_pos c];rfl
  ·rw [if_neg c,if_neg c];exact tY y.enc
theorem vU (v w:Sw.Value) (d:Sw.Deed):vf (Values.ofPath w fun (l:List Sw.Step)=>Values.changed v l (v.doneAt l d))=qa v w d:=by
 unfold Values.ofPath qa;cases Sw.pathOf w with
 | none=>rfl
 | some l=>exact qX v l d
structure PN where
 a:Addr
 m:Addr
 b:Addr
 r:Addr
 dx:Addr
 l:Addr
 w:Sw.Value
 p:Nat
 np:Nat
 n:List UInt8
 nm:List UInt8
structure vi (CP CT:Addr) (B:Hp) (bs:List UInt8) (G:Hp) (c:PN):Prop where
 nd:Nd CP B bs c.m c.w c.p c.np c.n
 at_:G c.a=some (.ins CT c.dx (nf c.w.kind c.b c.r (c.w.enc.length:Int) c.l))
 nm:G c.b=some (.lst (c.nm.map bv))
 row:Pm.isHold c.w∨G c.r=some (.lst (c.w.enc.map bv))
 rl:∃ xs,G c.r=some (.lst xs)
theorem vi.same {CP CT:Addr} {B:Hp} {bs:List UInt8} {G G':Hp} {c:PN} (h:vi CP CT B bs G c) (k:∀ x o,x=c.a∨x=c.b∨x=c.r→G x=some o→G' x=some o):vi CP CT B bs G' c :=
 ⟨h.nd,k _ _ (.inl rfl) h.at_,k _ _ (.inr (.inl rfl)) h.nm,h.row.imp id fun y=>k _ _ (.inr (.inr rfl)) y,let ⟨xs,y⟩:=h.rl;⟨xs,k _ _ (.inr (.inr rfl)) y⟩⟩
inductive fN (CT:Addr) (H:Hp):List PN→List Sh→Prop
 | nil:fN CT H [] []
 | cons {c:PN} {cs:List PN} {s:Sh} {ss:List Sh}:s.a=c.a→NdT CT H s c.w c.nm→fN CT H cs ss→fN CT H (c::cs) (s::ss)
theorem fN.append {CT:Addr} {H:Hp} {cs:List PN} {ss:List Sh} {ds:List PN} {ts:List Sh} (h:fN CT H cs ss) (k:fN CT H ds ts):fN CT H (cs++ds) (ss++ts):=by
 induction h with
 | nil=>exact k
 | cons h1 h2 _ ih=>exact .cons h1 h2 ih
theorem fN.split {CT:Addr} {H:Hp}:∀ (cs ds:List PN) {ss:List Sh},fN CT H (cs++ds) ss→∃ s1 s2,ss=s1++s2∧fN CT H cs s1∧fN CT H ds s2
 | [],ds,ss,h=>⟨[],ss,rfl,.nil,h⟩
 | c::cs,ds,_,.cons h1 h2 h3=>by
  obtain ⟨s1,s2,rfl,e1,e2⟩:=fN.split cs ds h3
  exact ⟨_::s1,s2,rfl,.cons h1 h2 e1,e2⟩
inductive m6:List PN→Sw.Row→Prop
 | nil:m6 [] .nil
 | cons {c:PN} {cs:List PN} {r:Sw.Row}:m6 cs r→m6 (c::cs) (.cons c.nm c.w r)
theorem fN.row {CT:Addr} {H:Hp} {cs:List PN} {r:Sw.Row} (h:m6 cs r):∀ {ss:List Sh},fN CT H cs ss→eD CT H ss r∧ss.map Sh.a=cs.map (·.a):=by
 induction h with
 | nil =>
  intro ss k;cases k;exact ⟨.nil,rfl⟩
 | cons _ ih =>
  intro ss k;cases k with
  | cons k1 k2 k3 =>
   obtain ⟨e1,e2⟩:=ih k3
   exact ⟨.cons k2 e1,by rw [aY,aY,e2,k1]⟩
def sizes (cs:List PN):Nat:=(cs.map fun c=>Pm.cntV c.w+1).sum
theorem ip (a b:List PN):sizes (a++b)=sizes a+sizes b:=by
 unfold sizes;rw [aL,List.sum_append]
theorem m6.sizes {cs:List PN} {r:Sw.Row} (h:m6 cs r):sizes cs=Pm.cntR r:=by
 induction h with
 | nil=>rw [Pm.cntR_nil];rfl
 | cons _ ih =>
  rw [Pm.cntR_cons,←ih];unfold L2.J.sizes;rw [aY,gQ];omega
theorem kj:∀ cs:List PN,cs.length≤sizes cs
 | []=>aW _
 | c::cs=>by
  have:=kj cs
  unfold sizes at *
  rw [aY,gQ,aj];omega
theorem pN:∀ (r:Sw.Row) (cs:List PN),cs.length=r.length→(∀ j c,cs[j]? = some c→r.get? j=some (c.nm,c.w))→m6 cs r
 | .nil,[],_,_=>.nil
 | .nil,_::_,h,_=>by cases h
 | .cons n w r,[],h,_=>by cases h
 | .cons n w r,c::cs,h,k=>by
  have e:some (n,w)=some (c.nm,c.w):=k 0 c rfl
  injection e with e;injection e with e1 e2;subst e1 e2;exact .cons (pN r cs (Nat.succ.inj h) fun j c' e=>k (j+1) c' e)
structure MemI (CP CT:Addr) (B:Hp) (bs:List UInt8) (G0 G:Hp) (D:Addr) (u:Sw.Value) (as:List Addr) (i:Nat) (cs:List PN):Prop where
 same:bH G0 G
 len:cs.length=i
 list:G D=some (.lst (cs.map fun c=>V.ref c.a))
 ok:∀ c∈cs,vi CP CT B bs G c∧G0 c.a=none∧c.a≠D∧(∃ o,B c.b=some o)∧G0 c.r=none∧c.r≠D
 nd:(cs.map (·.a)).Nodup
 idx:∀ j c,cs[j]? = some c→(Pm.rowOf u).get? j=some (c.nm,c.w)∧as[j]? = some c.m
structure MkI (CP CT:Addr) (B H G:Hp) (bs:List UInt8) (gP gN top:Addr) (v:Sw.Value) (X XF:List Addr) (pend:List PN):Prop where
 same:bH H G
 parts:G gP=some (.lst (pend.map fun c=>V.ref c.m))
 nodes:G gN=some (.lst (pend.map fun c=>V.ref c.a))
 ok:∀ c∈pend,vi CP CT B bs G c∧H c.a=none∧((∃ o,B c.b=some o)∨H c.b=none)∧H c.r=none∧c.b≠gP∧c.b≠gN∧c.r≠gP∧c.r≠gN∧c.b∉X∧c.r∉X
 nd:(X++pend.map (·.a)).Nodup
 xs:∀ x∈X,H x=none∧x≠gP∧x≠gN∧∃ o,G x=some o
 fs:∀ x∈XF,(H x=none∨∃ o,B x=some o)∧x≠gP∧x≠gN∧x∉X∧∃ xs,G x=some (.lst xs)
 gs:gP≠gN∧H gP=none∧H gN=none
 wand:∀ (Hs:Hp) (ss:List Sh),KpL G Hs X→KpL G Hs XF→fN CT Hs pend ss→∃ s:Sh,s.a=top∧NdT CT Hs s v []∧s.adr.Perm (X++Sh.adrs ss)∧s.frz.Perm (XF++Sh.frzs ss)
def vv (K:Fg_) (CP CT:Addr):Sp:=fun vs H Q _=>∃ (B:Hp) (a m:Addr) (bs:List UInt8) (v:Sw.Value) (p np:Nat) (n:List UInt8),vs=[.ref a,.ref m]∧bH B H∧SqL K B a (bs.map bv)∧bs.length≤65536∧Nd CP B bs m v p np n ∧
 ∀ (s:Sh) (H':Hp),bH H H'→NdT CT H' s v []→s.adr.Nodup→(∀ x∈s.adr,H x=none)→(∀ x∈s.frz,x∉s.adr)→(∀ x∈s.frz,H x=none∨∃ o,B x=some o)→Q (.ref s.a) H'
theorem pH:ba ["row","part","top","parts","nodes","node","members","member"] ["row","part"] (aQ sMK):=fs_
theorem ok_MK {f fNI:Addr} {fd fdI:FuncData} (F:Fun K "make_tree" "make_tree" sMK f fd) (TP:TxP K mg CP) (TD:TxD K mg CT) (M:Mk K CT fNI)
  (GN:bt P w K mg base CX0 2 fNI fdI ["self","row","part"] (xY K CP CT)) (bN:cB K fdI ["self","row","part"] []) :
  bt P w K mg base CX0 4 f fd ["row","part"] (vv K CP CT):=by
 refine F.ok pH (fun vs H Q E h=>?_) (fun cdv A outer s H vs Q E hr h=>?_)
 ·obtain ⟨B,a,m,bs,v,p,np,n,rfl,_⟩:=h
  rfl
 ·obtain ⟨B,a,m,bs,v,p,np,n,rfl,hB,hs,hz,nd,q⟩:=h
  refine ⟨_,aq (bb (i:=2) pH.nd rfl (.inl rfl) (jF M GN hr rfl TD.mT bN .nil cx (ae (pv 0) (ae (pv 1) aD))))
   (aq (cJ (pv 2) (dP aD) rfl)
   (aq (bb (i:=3) pH.nd rfl (.inl rfl) (dP (ae (pv 1) aD)))
   (aq (bb (i:=4) pH.nd rfl (.inl rfl) (dP (ae (pv 2) aD)))
   (aq (gW PassesOwn.never (eB (pv 4) (fun _=>rfl))
    (aq (bb (i:=5) pH.nd rfl (.inl rfl) (oA aZ PySem.F.slot_list_pop PySem.F.type_list_pop oG (pv 4)))
    (aq (bb (i:=6) pH.nd rfl (.inl rfl) (aV (oA aZ PySem.F.slot_list_pop PySem.F.type_list_pop oG (pv 3)) rfl))
    (aq (cJ (pv 5) (pe_lc rfl pH.nd (lF (pv 6)) (qe (own:=[("member",7)]) (by kernel_rfl)) (fun s H C cl fp=>iu (i:=7) pH.nd rfl (.inl rfl)) (fun s H C cl fp=>rM) (fun s H C cl fp=>jF M GN hr rfl TD.mT bN .nil cx (ae (pv 0) (ae (pv 7) aD)))) rfl)
    (aq (cE (gX aZ PySem.F.slot_list_extend PySem.F.type_list_extend gc (pv 3) (ae (pv 6) aD)))
    (aE (cE (gX aZ PySem.F.slot_list_extend PySem.F.type_list_extend gc (pv 4) (ae (aV (pv 5) rfl) aD)))))))))
   (aE (br (pv 2))))))),?_⟩
  try dsimp only [cD];have hpl:=nd.pl
  have hcnt:=Pm.cntV_le v
  have hvle:=nd.at_.le
  refine ⟨_,rfl,_,rfl,fun z dz nz ndz nedz=>?_⟩
  have sc:bH H (upd (upd H dz (.own z)) z (.ins CT dz [])):=fun b o e=>by
   rw [ai (ah e nz),ai (ah e ndz)];exact e
  refine ⟨B,z,dz,a,m,bs,v,p,np,n,rfl,aA,sc.seq (hB.seq hs),hB.trans sc,nd,fun l r b H1 hl hr hlr hb hz1 hl1 hrow hrl k1=>⟨rfl,?_⟩⟩
  have s1:bH H H1:=bH.made nz ndz k1
  have hrH:H r=none:=sc.free hr
  refine ⟨aW _,fun t ht=>⟨_,rfl,z,CT,dz,_,rfl,(ai (ah hz1 ht)).trans hz1,TD.cT,TD.nNa,(by show 5<1000;decide),?_⟩⟩
  have ntz:t≠z:=fun y=>by rw [y,hz1] at ht;cases ht
  generalize hH2:upd (upd H1 t (.lst [])) z _=H2;have hz2:H2 z=some (.ins CT dz (nf v.kind t r (v.enc.length:Int) l)):=by rw [←hH2,aA];rfl
  have ht2:H2 t=some (.lst []):=by rw [←hH2,ai ntz,aA]
  have k2:∀ x o,H1 x=some o→x≠z→H2 x=some o:=fun x o e n=>by rw [←hH2,ai n,ai (ah e ht)];exact e
  have s2:bH H H2:=fun x o e=>k2 x o (s1 x o e) (ah e nz)
  obtain ⟨xr,hr1⟩:=hrl
  have nrz:r≠z:=cQ hr1 hz1 (by intro y;cases y)
  have hr2:=k2 _ _ hr1 nrz
  have htH:H t=none:=s1.free ht
  refine ⟨_,rfl,(by show 1≤sizeLine;decide),fun gP hgP=>?_⟩
  refine ⟨_,rfl,(by show 1≤sizeLine;decide),fun gN hgN=>?_⟩
  generalize hH3:upd (upd H2 gP (.lst [V.ref m])) gN (.lst [V.ref z])=H3;have s3:bH H2 H3:=fun x o e=>by
   rw [←hH3,ai (fun y=>by rw [←y,ai (ah e hgP),e] at hgN;cases hgN),ai (ah e hgP)]
   exact e
  have nPN:gP≠gN:=fun y=>by rw [←y,aA] at hgN;cases hgN
  have hgN2:H2 gN=none:=by rw [ai (Ne.symm nPN)] at hgN;exact hgN
  have hP3:H3 gP=some (.lst [V.ref m]):=by rw [←hH3,ai nPN,aA]
  have hN3:H3 gN=some (.lst [V.ref z]):=by rw [←hH3,aA]
  refine ⟨fun tm σ G=>∃ v5 v6 v7,σ=[some (.ref a),some (.ref m),some (.ref z),some (.ref gP),some (.ref gN),v5,v6,v7]∧∃ X XF pend,MkI CP CT B H G bs gP gN z v X XF pend∧tm=sizes pend∧tm≤Pm.cntV v+1,
   ⟨Pm.cntV v+1,none,none,none,rfl,[],[],[⟨z,m,t,r,dz,l,v,p,np,n,[]⟩],?_,by unfold sizes;simp,aK _⟩,?_⟩
  ·refine ⟨s2.trans s3,hP3,hN3,fun c hc=>?_,by simp,(fun x hx=>by simp at hx),(fun x hx=>by simp at hx),⟨nPN,s2.free hgP,s2.free hgN2⟩,fun Hs ss _ _ hsh=>?_⟩
   ·rw [aG.mp hc];refine ⟨⟨nd,s3 _ _ hz2,s3 _ _ ht2,hrow.imp id fun y=>s3 _ _ (k2 _ _ y nrz),xr,s3 _ _ hr2⟩,nz,.inr htH,hrH,ah ht2 hgP,ah ht2 hgN2,ah hr2 hgP,ah hr2 hgN2,by simp,by simp⟩
   ·cases hsh with
    | cons e1 e2 e3 =>
     cases e3;exact ⟨_,e1,e2,by simp [Sh.adrs],by simp [Sh.frzs]⟩
  ·rintro tm σ G ⟨v5,v6,v7,rfl,X,XF,pend,I,rfl,htm⟩
   refine ⟨_,rfl,_,.inl ⟨_,SqL.of I.nodes,rfl⟩,?_⟩
   rcases bX pend with ep | ⟨rest,c,ep⟩
   ·subst ep;obtain ⟨s',e1,e2,e3,e4⟩:=I.wand G [] (fun x _ o e=>e) (fun x _ o e=>e) .nil
    have e3:s'.adr.Perm (X++[]):=e3
    have e4:s'.frz.Perm (XF++[]):=e4
    rw [bC] at e3 e4;have hx:=I.nd
    rw [List.map_nil,bC] at hx;refine cA ⟨_,rfl,?_⟩
    rw [←e1];exact q s' G I.same e2 (e3.nodup_iff.mpr hx) (fun x hx=>(I.xs x (e3.mem_iff.mp hx)).1) (fun x hx hy=>(I.fs x (e4.mem_iff.mp hx)).2.2.2.1 (e3.mem_iff.mp hy)) (fun x hx=>(I.fs x (e4.mem_iff.mp hx)).1)
   ·rw [bY] at ep;subst ep;obtain ⟨cok,ca0,cb0,cr0,cbP,cbN,crP,crN,cbX,crX⟩:=I.ok c (by simp)
    have hnodes:=I.nodes
    have hparts:=I.parts
    rw [aL] at hnodes hparts;have hemp:(!((rest++[c]).map fun c=>V.ref c.a).isEmpty)=true:=by rw [aL];simp
    rw [hemp];have nPN:=I.gs.1
    refine cK ⟨_,fun σ' G' h=>h,?_⟩
    refine ⟨_,rfl,.inl ⟨rfl,_,SqL.of hnodes⟩,gN,_,V.ref c.a,rfl,rfl,hnodes,by rw [aa];simp,?_⟩
    rw [show (rest.map (fun c=>V.ref c.a)++[c].map fun c=>V.ref c.a).dropLast=rest.map fun c=>V.ref c.a from dO]
    generalize hG1:upd G gN (.lst (rest.map fun c=>V.ref c.a))=G1
    have hP1:G1 gP=some (.lst (rest.map (fun c=>V.ref c.m)++[c].map fun c=>V.ref c.m)):=by rw [←hG1,ai nPN];exact hparts
    obtain ⟨bm,lm,asm,dm,hbm,hm1,hlm,hlen,hmm⟩:=cok.nd.pt
    have hmG:G c.m=_:=I.same _ _ (hB _ _ hm1)
    have mP:c.m≠gP:=ah (hB _ _ hm1) I.gs.2.1
    have mN:c.m≠gN:=ah (hB _ _ hm1) I.gs.2.2
    have lP:lm≠gP:=ah (hB _ _ hlm) I.gs.2.1
    have lN:lm≠gN:=ah (hB _ _ hlm) I.gs.2.2
    refine ⟨_,rfl,.inl ⟨rfl,_,SqL.of hP1⟩,gP,_,V.ref c.m,rfl,rfl,hP1,by rw [aa];simp,?_⟩
    rw [show (rest.map (fun c=>V.ref c.m)++[c].map fun c=>V.ref c.m).dropLast=rest.map fun c=>V.ref c.m from dO]
    generalize hG2:upd G1 gP (.lst (rest.map fun c=>V.ref c.m))=G2
    have kG:∀ x o,G x=some o→x≠gP→x≠gN→G2 x=some o:=fun x o e n1 n2=>by rw [←hG2,ai n1,←hG1,ai n2];exact e
    have hN2:G2 gN=some (.lst (rest.map fun c=>V.ref c.a)):=by rw [←hG2,ai (Ne.symm nPN),←hG1,aA]
    have hP2:G2 gP=some (.lst (rest.map fun c=>V.ref c.m)):=by rw [←hG2,aA]
    have sH2:bH H G2:=fun x o e=>kG x o (I.same x o e) (ah e I.gs.2.1) (ah e I.gs.2.2)
    have sB2:bH B G2:=hB.trans sH2
    refine ex5 c.m CP dm _ _ ⟨rfl,sB2 _ _ hm1,TP.cP,TP.nMe,rfl,?_⟩
    refine ⟨_,rfl,lm,rfl,⟨_,SqL.of (sB2 _ _ hlm)⟩,fun D hD=>?_⟩
    have nDP:D≠gP:=fun y=>by rw [y,hP2] at hD;cases hD
    have nDN:D≠gN:=fun y=>by rw [y,hN2] at hD;cases hD
    refine rV (xs:=asm.map V.ref) (fun i Gi=>∃ cs,MemI CP CT B bs G2 Gi D c.w asm i cs) ?_ ?_ ?_ ?_
    ·exact ⟨[],fun x o e=>(ai (ah e hD)).trans e,rfl,aA,(fun c hc=>by simp at hc),by simp,fun j c e=>by simp at e⟩
    ·rintro i Gi _ ⟨cs,J⟩
     exact J.same.seq (SqL.of (sB2 _ _ hlm))
    ·rintro i x Gi hx ⟨cs,J⟩
     obtain ⟨mi,emi,rfl⟩:=nQ hx
     have hil:i<asm.length:=(aN.mp emi).1
     obtain ⟨ni,wi,npi,emem,ndi⟩:=hmm i mi emi
     refine ⟨rfl,rF ?_⟩
     refine ⟨_,rfl,_,rfl,fun z2 dz2 nz2 ndz2 nedz2=>?_⟩
     have sc2:bH Gi (upd (upd Gi dz2 (.own z2)) z2 (.ins CT dz2 [])):=fun b o e=>by
      rw [ai (ah e nz2),ai (ah e ndz2)];exact e
     have sBi:bH B Gi:=sB2.trans J.same
     refine ⟨B,z2,dz2,a,mi,bs,wi,_,npi,ni,rfl,aA,sc2.seq (sBi.seq hs),sBi.trans sc2,ndi,fun l2 r2 b2 G3 hl2 hr2 hlr2 hb2 hz3 hl3 hrow2 hrl2 k3=>⟨rfl,?_⟩⟩
     have s3':bH Gi G3:=bH.made nz2 ndz2 k3
     obtain ⟨xr2,hrl2⟩:=hrl2
     have hDi:Gi D=some (.lst (cs.map fun c=>V.ref c.a)):=J.list
     have nz2D:z2≠D:=fun y=>by rw [y,hDi] at nz2;cases nz2
     have nr2D:r2≠D:=fun y=>by
      have:=sc2 _ _ hDi
      rw [←y,hr2] at this;cases this
     have nb2D:b2≠D:=ah (sB2 _ _ hb2) hD
     have hcl:cs.length<sizeLine:=by
      rw [J.len,sizeLine_eq];have h1:=Pm.cntV_le c.w
      have h2:=cok.nd.at_.le
      have h3:=l7 (Pm.rowOf c.w)
      rw [←Pm.cnt_row] at h3;omega
     refine ⟨_,s3' _ _ hDi,by rw [au];exact hcl,cs++[⟨z2,mi,b2,r2,dz2,l2,wi,Pm.mplace c.w c.p i,npi,ni,ni⟩],?_⟩
     have kD:∀ x o,G3 x=some o→x≠D→upd G3 D (.lst ((cs.map fun c=>V.ref c.a)++[V.ref z2])) x=some o:=fun x o e n=>(ai n).trans e
     refine ⟨fun x o e=>kD x o (s3' _ _ (J.same x o e)) (ah e hD),by rw [aa,J.len];rfl,by rw [aA,aL];rfl,fun c' hc'=>?_,?_,fun j c' e=>?_⟩
     ·rcases aF.mp hc' with hc' | hc'
      ·obtain ⟨o1,o2,o3,o4,o5,o6⟩:=J.ok c' hc'
       refine ⟨o1.same fun x o hx e=>kD x o (s3' _ _ e) ?_,o2,o3,o4,o5,o6⟩
       rcases hx with rfl | rfl | rfl
       ·exact o3
       ·obtain ⟨o',hb'⟩:=o4
        exact ah (sB2 _ _ hb') hD
       ·exact o6
      ·rw [aG.mp hc'];refine ⟨⟨ndi,kD _ _ hz3 nz2D,kD _ _ (s3' _ _ (sBi _ _ hb2)) nb2D,hrow2.imp id fun y=>kD _ _ y nr2D,xr2,kD _ _ hrl2 nr2D⟩,J.same.free nz2,nz2D,⟨_,hb2⟩,J.same.free (sc2.free hr2),nr2D⟩
     ·rw [aL,bc];refine ⟨J.nd,by simp,fun x hx y hy e=>?_⟩
      obtain ⟨c',hc',rfl⟩:=dj.mp hx
      have hy:y=z2:=by simpa using hy
      obtain ⟨o1,_⟩:=J.ok c' hc'
      have:=o1.at_
      rw [show c'.a=z2 from e.trans hy,nz2] at this;cases this
     ·by_cases hj:j<cs.length
      ·rw [bz hj] at e;exact J.idx j c' e
      ·have hj2:j=cs.length:=by
        have:=(aN.mp e).1
        rw [aa,aP] at this;omega
       rw [hj2,cw] at e;injection e with e;rw [←e,hj2,J.len];exact ⟨by rw [←Pm.member_eq];exact emem,emi⟩
    ·rintro G4 ⟨cs,J⟩
     rw [au] at J;have hrowc:=pN (Pm.rowOf c.w) cs (by rw [J.len,hlen]) fun j c' e=>(J.idx j c' e).1
     have hpm:cs.map (·.m)=asm:=by
      refine List.ext_getElem? fun j=>?_
      rw [bq];cases e:cs[j]? with
      | none =>
       have:=bG.mp e
       rw [bG.mpr (by rw [←J.len];exact this)]
       rfl
      | some c'=>rw [(J.idx j c' e).2];rfl
     have caN:c.a≠gN:=fun y=>cQ cok.at_ I.nodes (by intro z;cases z) y
     have caP:c.a≠gP:=fun y=>cQ cok.at_ I.parts (by intro z;cases z) y
     have hca4:=J.same _ _ (kG _ _ cok.at_ caP caN)
     have caD:c.a≠D:=ah (kG _ _ cok.at_ caP caN) hD
     refine ⟨_,rfl,c.a,CT,c.dx,_,rfl,hca4,TD.cT,TD.nMe,(by show 5<1000;decide),?_⟩
     generalize hG5:upd G4 c.a _=G5;have hca5:G5 c.a=some (.ins CT c.dx (nf c.w.kind c.b c.r (c.w.enc.length:Int) D)):=by rw [←hG5,aA];rfl
     have k5:∀ x o,G4 x=some o→x≠c.a→G5 x=some o:=fun x o e n=>by rw [←hG5,ai n];exact e
     have hP5:=k5 _ _ (J.same _ _ hP2) (Ne.symm caP)
     have hN5:=k5 _ _ (J.same _ _ hN2) (Ne.symm caN)
     have hD5:=k5 _ _ J.list (Ne.symm caD)
     have nlc:lm≠c.a:=ah (hB _ _ hlm) ca0
     have hlm5:=k5 _ _ (J.same _ _ (sB2 _ _ hlm)) nlc
     have hszt:sizes (rest++[c])=sizes rest+(Pm.cntV c.w+1):=by rw [ip];unfold sizes;simp
     have hszc:sizes cs=Pm.cntV c.w:=by rw [hrowc.sizes,Pm.cnt_row]
     have hl1:=kj rest
     have hl2:=kj cs
     have hasl:asm.length=cs.length:=J.len.symm
     refine ⟨_,rfl,.inl ⟨rfl,_,SqL.of hP5⟩,_,rfl,ex4 gP lm _ _ ⟨rfl,rfl,hP5,hlm5,by rw [au,au,sizeLine_eq];omega,?_⟩⟩
     generalize hG6:upd G5 gP (.lst ((rest.map fun c=>V.ref c.m)++asm.map V.ref))=G6
     have k6:∀ x o,G5 x=some o→x≠gP→G6 x=some o:=fun x o e n=>by rw [←hG6,ai n];exact e
     have hP6:G6 gP=some (.lst ((rest++cs).map fun c=>V.ref c.m)):=by
      rw [←hG6,aA,aL,←hpm,dN];rfl
     refine ⟨_,rfl,.inl ⟨rfl,_,SqL.of (k6 _ _ hN5 (Ne.symm nPN))⟩,_,rfl,ex5 c.a CT c.dx _ _ ⟨rfl,k6 _ _ hca5 caP,TD.cT,TD.nMe,rfl,ex4 gN D _ _ ⟨rfl,rfl,k6 _ _ hN5 (Ne.symm nPN),k6 _ _ hD5 nDP,by rw [au,au,sizeLine_eq];omega,?_⟩⟩⟩
     generalize hG7:upd G6 gN (.lst ((rest.map fun c=>V.ref c.a)++cs.map fun c=>V.ref c.a))=G7
     have k7:∀ x o,G6 x=some o→x≠gN→G7 x=some o:=fun x o e n=>by rw [←hG7,ai n];exact e
     have all7:∀ x o,G x=some o→x≠gP→x≠gN→x≠c.a→G7 x=some o:=fun x o e n1 n2 n3=>k7 _ _ (k6 _ _ (k5 _ _ (J.same _ _ (kG x o e n1 n2)) n3) n1) n2
     have new7:∀ x o,G4 x=some o→x≠gP→x≠gN→x≠c.a→G7 x=some o:=fun x o e n1 n2 n3=>k7 _ _ (k6 _ _ (k5 _ _ e n3) n1) n2
     have hca7:=k7 _ _ (k6 _ _ hca5 caP) caN
     have hD7:=k7 _ _ (k6 _ _ hD5 nDP) nDN
     have lstNe:∀ {x:Addr} {xs:List V},G x=some (.lst xs)→x≠c.a:=fun e=>cQ e cok.at_ (by intro z;cases z)
     obtain ⟨xrc,hxrc⟩:=cok.rl
     have hb7:=all7 _ _ cok.nm cbP cbN (lstNe cok.nm)
     have hr7:=all7 _ _ hxrc crP crN (lstNe hxrc)
     have old:∀ {x:Addr} {o:HO},G x=some o→x≠gP→x≠gN→x≠D:=fun e n1 n2=>ah (kG _ _ e n1 n2) hD
     have hndX:=bc.mp I.nd
     have cain:c.a∈(rest++[c]).map (·.a):=by simp
     have caX:c.a∉X:=fun y=>hndX.2.2 c.a y c.a cain rfl
     have DX:D∉X:=fun y=>by
      obtain ⟨_,n1,n2,o,e⟩:=I.xs D y
      exact old e n1 n2 rfl
     have freshH:∀ {x:Addr},G2 x=none→H x=none:=fun e=>sH2.free e
     refine ⟨sizes (rest++cs),by rw [ip,hszt,hszc];omega,_,_,_,rfl,c.a::D::X,c.b::c.r::XF,rest++cs,⟨fun x o e=>?_,?_,?_,fun c' hc'=>?_,?_,fun x hx=>?_,fun x hx=>?_,I.gs,fun Hs ss kX kF hsh=>?_⟩,rfl,by rw [ip,hszc];rw [hszt] at htm;omega⟩
     ·exact all7 x o (I.same x o e) (ah e I.gs.2.1) (ah e I.gs.2.2) (ah e ca0)
     ·exact k7 _ _ hP6 nPN
     ·rw [←hG7,aA,aL]
     ·rcases aF.mp hc' with hc' | hc'
      ·obtain ⟨o1,o2,o3,o4,o5,o6,o7,o8,o9,o10⟩:=I.ok c' (az _ hc')
       obtain ⟨xr',hxr'⟩:=o1.rl
       have a'N:c'.a≠gN:=fun y=>cQ o1.at_ I.nodes (by intro z;cases z) y
       have a'P:c'.a≠gP:=fun y=>cQ o1.at_ I.parts (by intro z;cases z) y
       have a'c:c'.a≠c.a:=fun y=>by
        have:=hndX.2.1
        rw [aL,bc] at this;exact this.2.2 c'.a (dA hc') c.a (by simp) y
       refine ⟨o1.same fun x o hx e=>?_,o2,o3,o4,o5,o6,o7,o8,fun y=>?_,fun y=>?_⟩
       ·rcases hx with rfl | rfl | rfl
        ·exact all7 _ _ e a'P a'N a'c
        ·exact all7 _ _ e o5 o6 (lstNe o1.nm)
        ·exact all7 _ _ e o7 o8 (lstNe hxr')
       ·rcases aB.mp y with y | y
        ·exact lstNe o1.nm y
        ·rcases aB.mp y with y | y
         ·exact old o1.nm o5 o6 y
         ·exact o9 y
       ·rcases aB.mp y with y | y
        ·exact lstNe hxr' y
        ·rcases aB.mp y with y | y
         ·exact old hxr' o7 o8 y
         ·exact o10 y
      ·obtain ⟨o1,o2,o3,⟨ob,o4⟩,o5,o6⟩:=J.ok c' hc'
       have a'P:c'.a≠gP:=fun y=>by rw [y,hP2] at o2;cases o2
       have a'N:c'.a≠gN:=fun y=>by rw [y,hN2] at o2;cases o2
       have a'c:c'.a≠c.a:=fun y=>by rw [y,kG _ _ cok.at_ caP caN] at o2;cases o2
       have b'P:c'.b≠gP:=ah (hB _ _ o4) I.gs.2.1
       have b'N:c'.b≠gN:=ah (hB _ _ o4) I.gs.2.2
       have b'c:c'.b≠c.a:=ah (hB _ _ o4) ca0
       have r'P:c'.r≠gP:=fun y=>by rw [y,hP2] at o5;cases o5
       have r'N:c'.r≠gN:=fun y=>by rw [y,hN2] at o5;cases o5
       have r'c:c'.r≠c.a:=fun y=>by rw [y,kG _ _ cok.at_ caP caN] at o5;cases o5
       refine ⟨o1.same fun x o hx e=>?_,freshH o2,.inl ⟨ob,o4⟩,freshH o5,b'P,b'N,r'P,r'N,fun y=>?_,fun y=>?_⟩
       ·rcases hx with rfl | rfl | rfl
        ·exact new7 _ _ e a'P a'N a'c
        ·exact new7 _ _ e b'P b'N b'c
        ·exact new7 _ _ e r'P r'N r'c
       ·rcases aB.mp y with y | y
        ·exact b'c y
        ·rcases aB.mp y with y | y
         ·exact ah (sB2 _ _ o4) hD y
         ·exact ah (hB _ _ o4) (I.xs _ y).1 rfl
       ·rcases aB.mp y with y | y
        ·exact r'c y
        ·rcases aB.mp y with y | y
         ·exact o6 y
         ·obtain ⟨_,n1,n2,o',e'⟩:=I.xs _ y
          rw [kG _ _ e' n1 n2] at o5;cases o5
     ·
      have hfr:∀ c'∈cs,c'.a∉X∧c'.a≠c.a∧c'.a≠D∧∀ c2∈rest,c'.a≠c2.a:=fun c' hc'=>by
       obtain ⟨o1,o2,o3,_⟩:=J.ok c' hc'
       refine ⟨fun y=>?_,fun y=>?_,o3,fun c2 hc2 y=>?_⟩
       ·obtain ⟨_,n1,n2,o',e'⟩:=I.xs _ y
        rw [kG _ _ e' n1 n2] at o2;cases o2
       ·rw [y,kG _ _ cok.at_ caP caN] at o2;cases o2
       ·obtain ⟨p1,_⟩:=I.ok c2 (az _ hc2)
        rw [y,kG _ _ p1.at_ (fun y=>cQ p1.at_ I.parts (by intro z;cases z) y) (fun y=>cQ p1.at_ I.nodes (by intro z;cases z) y)] at o2
        cases o2
      have hrest:=hndX.2.1
      rw [aL,bc] at hrest;have hDa:∀ c2∈rest++[c],c2.a≠D:=fun c2 hc2=>by
       obtain ⟨p1,_⟩:=I.ok c2 hc2
       exact old p1.at_ (fun y=>cQ p1.at_ I.parts (by intro z;cases z) y) (fun y=>cQ p1.at_ I.nodes (by intro z;cases z) y)
      rw [aL,cu,cu,aS,aS,bc,bc];refine ⟨fun y=>?_,fun y=>?_,hndX.1,⟨hrest.1,J.nd,fun x hx y hy e=>?_⟩,fun x hx y hy e=>?_⟩
      ·rcases aB.mp y with y | y
       ·exact caD y
       ·rcases aF.mp y with y | y
        ·exact caX y
        ·rcases aF.mp y with y | y
         ·exact hrest.2.2 c.a y c.a (by simp) rfl
         ·obtain ⟨c',hc',e⟩:=dj.mp y
          exact (hfr c' hc').2.1 e
      ·rcases aF.mp y with y | y
       ·exact DX y
       ·rcases aF.mp y with y | y
        ·obtain ⟨c',hc',e⟩:=dj.mp y
         exact hDa c' (az _ hc') e
        ·obtain ⟨c',hc',e⟩:=dj.mp y
         exact (hfr c' hc').2.2.1 e
      ·obtain ⟨c2,hc2,rfl⟩:=dj.mp hx
       obtain ⟨c',hc',rfl⟩:=dj.mp hy
       exact (hfr c' hc').2.2.2 c2 hc2 e.symm
      ·rcases aF.mp hy with hy | hy
       ·exact hndX.2.2 x hx y (by rw [aL];exact az _ hy) e
       ·obtain ⟨c',hc',rfl⟩:=dj.mp hy
        exact (hfr c' hc').1 (e▸hx)
     ·rcases aB.mp hx with rfl | hx
      ·exact ⟨ca0,caP,caN,_,hca7⟩
      ·rcases aB.mp hx with rfl | hx
       ·exact ⟨freshH hD,nDP,nDN,_,hD7⟩
       ·obtain ⟨n0,n1,n2,o,e⟩:=I.xs x hx
        exact ⟨n0,n1,n2,o,all7 _ _ e n1 n2 (fun y=>caX (y▸hx))⟩
     ·have notX:∀ {y:Addr} {xs:List V},G y=some (.lst xs)→y≠gP→y≠gN→y∉X→y∉c.a::D::X:=fun e n1 n2 n3 z=>by
       rcases aB.mp z with z | z
       ·exact lstNe e z
       ·rcases aB.mp z with z | z
        ·exact old e n1 n2 z
        ·exact n3 z
      rcases aB.mp hx with rfl | hx
      ·exact ⟨cb0.symm,cbP,cbN,notX cok.nm cbP cbN cbX,_,hb7⟩
      ·rcases aB.mp hx with rfl | hx
       ·exact ⟨.inl cr0,crP,crN,notX hxrc crP crN crX,_,hr7⟩
       ·obtain ⟨n0,n1,n2,n3,xs,e⟩:=I.fs x hx
        exact ⟨n0,n1,n2,notX e n1 n2 n3,xs,all7 _ _ e n1 n2 (lstNe e)⟩
     ·obtain ⟨s1,s2,rfl,e1,e2⟩:=fN.split rest cs hsh
      obtain ⟨e3,e4⟩:=fN.row hrowc e2
      have kX':KpL G Hs X:=fun x hx o e=>by
       obtain ⟨_,n1,n2,_⟩:=I.xs x hx
       exact kX x (by simp [hx]) o (all7 _ _ e n1 n2 (fun y=>caX (y▸hx)))
      have kF':KpL G Hs XF:=fun x hx o e=>by
       obtain ⟨_,n1,n2,_,xs,e'⟩:=I.fs x hx
       exact kF x (by simp [hx]) o (all7 _ _ e n1 n2 (lstNe e'))
      have hnode:NdT CT Hs (.node c.a D c.b c.r s2) c.w c.nm:=by
       refine .mk (kX _ (by simp) _ hca7) (kF _ (by simp) _ hb7) ⟨cok.row.imp id fun y=>kF _ (by simp) _ (all7 _ _ y crP crN (lstNe y)),cok.rl.elim fun xs y=>⟨_,kF _ (by simp) _ (all7 _ _ y crP crN (lstNe y))⟩⟩ ?_ e3
       have:=kX D (by simp) _ hD7
       rw [this];have e5:(s2.map Sh.a).map V.ref=(cs.map (·.a)).map V.ref:=by rw [e4]
       rw [dN,dN] at e5;exact congrArg (fun z=>some (HO.lst z)) e5.symm
      obtain ⟨s',w1,w2,w3,w4⟩:=I.wand Hs (s1++[.node c.a D c.b c.r s2]) kX' kF' (e1.append (.cons rfl hnode .nil))
      refine ⟨s',w1,w2,w3.trans ?_,w4.trans ?_⟩
      ·rw [dq,dq];refine cX.mpr fun x=>?_
       simp only [Sh.adrs,Sh.adr,dw,eP,List.count_nil,cu];omega
      ·rw [cZ,cZ];refine cX.mpr fun x=>?_
       simp only [Sh.frzs,Sh.frz,dw,eP,List.count_nil,cu];omega
def yb (K:Fg_):Sp:=fun vs H Q _=>∃ (k n:Nat) (b:Addr) (ys:List V),vs=[.int (k:Int),.int (n:Int),.ref b]∧SqL K H b ys∧n<34359738368∧ys.length+6≤sizeLine∧∀ (x:Addr) (H':Hp),bH H H'→H x=none→H' x=some (.lst (V.int (k:Int)::((Sw.vary n).map bv++ys)))→Q (.ref x) H'
structure TE1 where
 s:Sh
 w:Sw.Value
 nm:List UInt8
def pR (stk:List TE1):List UInt8:=stk.reverse.flatMap fun x=>nmR x.nm++x.w.enc
theorem tw (r:List TE1) (x:TE1):pR (r++[x])=nmR x.nm++x.w.enc++pR r:=by
 unfold pR;rw [List.reverse_append];rfl
def szT (stk:List TE1):Nat:=(stk.map fun x=>Pm.cntV x.w+1).sum
theorem jg (a b:List TE1):szT (a++b)=szT a+szT b:=by
 unfold szT;rw [aL,List.sum_append]
theorem rG (a:List TE1):szT a.reverse=szT a:=by
 unfold szT;rw [List.map_reverse,List.sum_reverse]
theorem rH:∀ a:List TE1,a.length≤szT a
 | []=>aW _
 | c::cs=>by
  have:=rH cs
  unfold szT at *
  rw [aY,gQ,aj];omega
theorem v8 (n:List UInt8):n.length≤(nmR n).length:=by
 unfold nmR;by_cases h:n=[]
 ·rw [h];exact aW _
 ·rw [if_neg h,aa];omega
theorem rK {CT:Addr} {H:Hp} {named:Bool}:∀ {ms:List Sh} {r:Sw.Row},eD CT H ms r→(∀ n∈r.names,Pm.nmB named n=nmR n)→r.plain=true →
  ∃ es:List TE1,es.map (fun x=>V.ref x.s.a)=ms.map (fun s=>V.ref s.a)∧(∀ x∈es,NdT CT H x.s x.w x.nm∧x.w.plain=true)∧szT es=Pm.cntR r∧(es.flatMap fun x=>nmR x.nm++x.w.enc)=r.enc named
 | _,_,.nil,_,_=>⟨[],rfl,(fun x hx=>by simp at hx),by rw [Pm.cntR_nil];rfl,by rw [Pm.enc_nil];rfl⟩
 | _,_,.cons (s:=s) (nm:=nm) (w:=w) (r:=r) h1 h2,hn,hp=>by
  have hp':(w.plain&&r.plain)=true:=hp
  rw [aC] at hp'
  obtain ⟨es,e1,e2,e3,e4⟩:=rK h2 (fun n hn'=>hn n (ax _ hn')) hp'.2
  refine ⟨⟨s,w,nm⟩::es,by rw [aY,aY,e1],fun x hx=>?_,?_,?_⟩
  ·rcases aB.mp hx with rfl | hx
   ·exact ⟨h1,hp'.1⟩
   ·exact e2 x hx
  ·rw [Pm.cntR_cons,←e3];unfold szT;rw [aY,gQ];dsimp only;omega
  ·rw [List.flatMap_cons,e4,Pm.enc_cons,hn nm aR,aO]
theorem qT {u:Sw.Value} (hp:u.plain=true):∀ n∈(Pm.rowOf u).names,Pm.nmB (Pm.namedOf u) n=nmR n:=by
 intro n hn;obtain ⟨i,hi⟩:=dv hn
 rw [jH] at hi;cases e:(Pm.rowOf u).get? i with
 | none=>rw [e] at hi;cases hi
 | some x =>
  obtain ⟨n',w⟩:=x
  rw [e] at hi;have hi:some n'=some n:=hi
  injection hi with hi;subst hi;exact Pm.nmB_is hp (by rw [Pm.member_eq];exact e)
theorem pX {u:Sw.Value} (hp:u.plain=true):(Pm.rowOf u).plain=true:=by
 cases u with
 | list m =>
  have hp:(m.plain&&_)=true:=hp
  rw [aC] at hp;exact hp.1
 | rec_ m =>
  have hp:(m.plain&&_)=true:=hp
  rw [aC] at hp;exact hp.1
 | _=>rfl
def xu (CT:Addr):Sp:=fun vs H Q _=>∃ (s:Sh) (v:Sw.Value),vs=[.ref s.a]∧NdT CT H s v []∧v.plain=true∧v.enc.length≤16777216∧∀ (x:Addr) (H':Hp),bH H H'→H' x=some (.lst (v.enc.map bv))→Q (.ref x) H'
theorem scKR:ba ["kind","how_many","inner"] ["kind","how_many","inner"] (aQ sKR):=fs_
theorem ok_KR {f fVR:Addr} {fd fdV:FuncData} (F:Fun K "counted_row" "counted_row" sKR f fd)
  (GV:Co P w K mg base CX0 1 fVR fdV ["amount"] uo "vary_row") :
  bt P w K mg base CX0 2 f fd ["kind","how_many","inner"] (yb K):=by
 refine F.ok scKR (fun vs H Q E h=>?_) (fun cdv A outer s H vs Q E hr h=>?_)
 ·obtain ⟨k,n,b,ys,rfl,_⟩:=h
  rfl
 ·obtain ⟨k,n,b,ys,rfl,hb,hn,hy,q⟩:=h
  refine ⟨_,aE (br (cY oE (cY oE (dP (ae (pv 0) aD)) (bJ GV hr rfl cx (ae (pv 1) aD))) (pv 2))),?_⟩
  try dsimp only [cD];refine ⟨_,rfl,(by show 1≤sizeLine;decide),fun y hy'=>?_⟩
  have l5:=iZ (n:=n) hn
  have ky:bH H (upd H y (.lst [V.int (k:Int)])):=fun b o e=>(ai (ah e hy')).trans e
  refine ⟨_,rfl,n,rfl,hn,fun x H1 k1 hx h1=>?_⟩
  refine ex4 y x _ _ ⟨rfl,rfl,SqL.of (k1 _ _ aA),SqL.of h1,?_,fun p hp=>?_⟩
  ·rw [au];show 1+_≤_
   omega
  ·have kp:bH H1 (upd H1 p (.lst ([V.int (k:Int)]++(Sw.vary n).map bv))):=fun b o e=>(ai (ah e hp)).trans e
   have kk:=ky.trans (k1.trans kp)
   refine ⟨_,rfl,ex4 p b _ _ ⟨rfl,rfl,SqL.of aA,kk.seq hb,?_,fun p2 hp2=>?_⟩⟩
   ·rw [aa,au];show 1+_+_≤_
    omega
   ·refine q p2 _ (fun b o e=>(ai (ah (kk _ _ e) hp2)).trans (kk _ _ e)) (kk.free hp2) ?_
    rw [aA,aO];rfl
theorem vF:ba ["top","made","left","node"] ["top"] (aQ sTW):=fs_
theorem ok_TW {f fNW fKR:Addr} {fd fdN fdK:FuncData} (F:Fun K "tree_row" "tree_row" sTW f fd) (TD:TxD K mg CT) (k5:GI mg "LIST" 5) (k6:GI mg "RECORD" 6) (len:mg "len" = none) (mli:mg "list" = none) (mrv:mg "reversed" = none)
  (GN:Co P w K mg base CX0 2 fNW fdN ["name"] vr "name_row")
  (GK:Co P w K mg base CX0 2 fKR fdK ["kind","how_many","inner"] (yb K) "counted_row") :
  bt P w K mg base CX0 3 f fd ["top"] (xu CT):=by
 refine F.ok vF (fun vs H Q E h=>?_) (fun cdv A outer s H vs Q E hr h=>?_)
 ·obtain ⟨s,v,rfl,_⟩:=h
  rfl
 ·obtain ⟨s0,v,rfl,hv,hpl,hln,q⟩:=h
  refine ⟨_,aq (bb (i:=1) vF.nd rfl (.inl rfl) (dP aD))
   (aq (bb (i:=2) vF.nd rfl (.inl rfl) (dP (ae (pv 0) aD)))
   (aq (gW PassesOwn.never (eB (pv 2) (fun _=>rfl))
    (aq (bb (i:=3) vF.nd rfl (.inl rfl) (oA aZ PySem.F.slot_list_pop PySem.F.type_list_pop oG (pv 2)))
    (aq (cE (gX aZ PySem.F.slot_list_extend PySem.F.type_list_extend gc (pv 1) (ae (bJ GN hr rfl cx (ae (aV (pv 3) rfl) aD)) aD)))
    (aE (ck (bh gY (aV (pv 3) rfl) (mr (ae (pgi k5 rfl) (ae (pgi k6 rfl) aD))) (by with_unfolding_all rfl))
     (aq (cE (gX aZ PySem.F.slot_list_extend PySem.F.type_list_extend gc (pv 1) (ae (bJ GK hr rfl cx (ae (aV (pv 3) rfl) (ae (bM bW (by rfl) len a7 (ae (aV (pv 3) rfl) aD)) (ae (dP aD) aD)))) aD)))
     (aE (cE (gX aZ PySem.F.slot_list_extend PySem.F.type_list_extend gc (pv 2) (ae (qE rfl rfl mli rfl mrv (ae (aV (pv 3) rfl) aD)) aD)))))
     (aE (cE (gX aZ PySem.F.slot_list_extend PySem.F.type_list_extend gc (pv 1) (ae (aV (pv 3) rfl) aD)))))))))
   (aE (br (pv 1))))),?_⟩
  try dsimp only [cD];refine ⟨aW _,fun gM hgM=>?_⟩
  refine ⟨_,rfl,(by show 1≤sizeLine;decide),fun gL hgL=>?_⟩
  have nML:gM≠gL:=fun y=>by rw [←y,aA] at hgL;cases hgL
  have hgL0:H gL=none:=by rw [ai (Ne.symm nML)] at hgL;exact hgL
  have hcnt:=Pm.cntV_le v
  refine ⟨fun tm σ G=>∃ v3,σ=[some (.ref s0.a),some (.ref gM),some (.ref gL),v3]∧∃ (acc:List UInt8) (stk:List TE1),bH H G∧G gM=some (.lst (acc.map bv))∧G gL=some (.lst (stk.map fun x=>V.ref x.s.a))∧(∀ x∈stk,NdT CT H x.s x.w x.nm∧x.w.plain=true)∧acc++pR stk=v.enc∧tm=szT stk∧tm≤Pm.cntV v+1,
   ⟨Pm.cntV v+1,none,rfl,[],[⟨s0,v,[]⟩],?_,?_,aA,?_,?_,by unfold szT;simp,aK _⟩,?_⟩
  ·exact fun b o e=>(ai (ah e hgL0)).trans ((ai (ah e hgM)).trans e)
  ·rw [ai nML,aA];rfl
  ·intro x hx;rw [aG.mp hx];exact ⟨hv,hpl⟩
  ·show pR [⟨s0,v,[]⟩]=v.enc
   unfold pR nmR;simp
  ·rintro tm σ G ⟨v3,rfl,acc,stk,kG,hM,hL,hstk,hout,rfl,htm⟩
   refine ⟨_,rfl,_,.inl ⟨_,SqL.of hL,rfl⟩,?_⟩
   rcases bX stk with ep | ⟨rest,x,ep⟩
   ·subst ep;refine cA ⟨_,rfl,q gM G kG ?_⟩
    have:acc++[]=v.enc:=hout
    rw [bC] at this;rw [hM,this]
   ·rw [bY] at ep;subst ep;obtain ⟨hx,hxp⟩:=hstk x (by simp)
    rw [tw] at hout;have hlen:=congrArg List.length hout
    simp only [aa] at hlen;have lin:=sizeLine_eq
    have hszt:szT (rest++[x])=szT rest+(Pm.cntV x.w+1):=by rw [jg];unfold szT;simp
    have hl1:=rH rest
    have hnl:=v8 x.nm
    rw [aL] at hL ⊢;have hemp:(!((rest.map fun x=>V.ref x.s.a)++[x].map fun x=>V.ref x.s.a).isEmpty)=true:=by simp
    rw [hemp];refine cK ⟨_,fun σ' G' h=>h,?_⟩
    refine ⟨_,rfl,.inl ⟨rfl,_,SqL.of hL⟩,gL,_,V.ref x.s.a,rfl,rfl,hL,by rw [aa];simp,?_⟩
    rw [show ((rest.map fun x=>V.ref x.s.a)++[x].map fun x=>V.ref x.s.a).dropLast=rest.map fun x=>V.ref x.s.a from dO]
    generalize hG1:upd G gL (.lst (rest.map fun x=>V.ref x.s.a))=G1
    have s1:bH H G1:=fun b o e=>by rw [←hG1,ai (ah e hgL0)];exact kG b o e
    have hM1:G1 gM=some (.lst (acc.map bv)):=by rw [←hG1,ai nML];exact hM
    have hL1:G1 gL=some (.lst (rest.map fun x=>V.ref x.s.a)):=by rw [←hG1,aA]
    have hx':=hx
    obtain ⟨xs,xw,xn⟩:=x
    dsimp only at hx hx' hxp hlen hout hszt hnl;cases hx with
    | mk h1 h2 h3 h4 h5 =>
     rename_i xa xl xb xr xd xms
     refine ⟨_,rfl,.inl ⟨rfl,_,SqL.of hM1⟩,_,rfl,ex5 xa CT xd _ _ ⟨rfl,s1 _ _ h1,TD.cT,TD.nNa,rfl,ex2 xb xn ⟨rfl,s1 _ _ h2,by omega,fun y G2 k2 hy h2'=>?_⟩⟩⟩
     refine ex4 gM y _ _ ⟨rfl,rfl,k2 _ _ hM1,h2',by rw [au,au];omega,?_⟩
     rw [←aL];generalize hG3:upd G2 gM (.lst ((acc++nmR xn).map bv))=G3;have s3:bH H G3:=fun b o e=>by rw [←hG3,ai (ah e hgM)];exact k2 _ _ (s1 b o e)
     have hM3:G3 gM=some (.lst ((acc++nmR xn).map bv)):=by rw [←hG3,aA]
     have hL3:G3 gL=some (.lst (rest.map fun x=>V.ref x.s.a)):=by rw [←hG3,ai (Ne.symm nML)];exact k2 _ _ hL1
     refine ⟨_,rfl,ex5 xa CT xd _ _ ⟨rfl,s3 _ _ h1,TD.cT,TD.nKi,rfl,(by show 2≤sizeLine;decide),fun t ht=>ex2 t _ ⟨rfl,.inr (SqT.of aA),rfl,rfl,_,rfl,?_⟩⟩⟩
     rw [show (if false=true then !inV (.int (xw.kind:Int)) [.int 5,.int 6] else inV (.int (xw.kind:Int)) [.int 5,.int 6])=decide (xw.kind=5∨xw.kind=6) from oQ (a:=5) (b:=6)]
     generalize hG4:upd G3 t (.tup [.int 5,.int 6])=G4;have k4:bH G3 G4:=fun b o e=>by rw [←hG4,ai (ah e ht)];exact e
     have s4:=s3.trans k4
     by_cases c:xw.kind=5∨xw.kind=6
     ·rw [ag c];have hhold:Pm.isHold xw:=c
      have hrs:=Pm.row_short hhold
      have hl5:=h5.len
      have hml:xms.length≤xw.enc.length:=by omega
      refine cK ⟨_,rfl,.inl ⟨rfl,_,SqL.of (k4 _ _ hM3)⟩,_,rfl,ex5 xa CT xd _ _ ⟨rfl,s4 _ _ h1,TD.cT,TD.nKi,rfl,_,rfl,ex5 xa CT xd _ _ ⟨rfl,s4 _ _ h1,TD.cT,TD.nMe,rfl,ex2 xl _ ⟨rfl,.inl (SqL.of (s4 _ _ h4)),aW _,fun e he=>?_⟩⟩⟩⟩
      have ke:bH G4 (upd G4 e (.lst [])):=fun b o e'=>(ai (ah e' he)).trans e'
      refine ⟨xw.kind,xms.length,e,[],by show [V.int (xw.kind:Int),V.int ((xms.map fun s=>V.ref s.a).length:Int),V.ref e]=_;rw [au],SqL.of aA,by omega,by rw [lin];decide,fun y2 G5 k5 hy2 h5'=>?_⟩
      have k45:=ke.trans k5
      have ekv:V.int (xw.kind:Int)::((Sw.vary xms.length).map bv++[])=((UInt8.ofNat xw.kind::Sw.vary xms.length).map bv):=by
       rw [bC,aY,u6 (by rcases c with c | c<;>omega)]
      rw [ekv] at h5'
      obtain ⟨eEnc,_⟩:=Pm.hold_enc hhold
      have hencl:=congrArg List.length eEnc
      rw [aj,aa] at hencl;refine ex4 gM y2 _ _ ⟨rfl,rfl,k45 _ _ (k4 _ _ hM3),h5',?_,?_⟩
      ·rw [au,au,aa,aj,hl5];omega
      rw [←aL];generalize hG6:upd G5 gM (.lst ((acc++nmR xn++(UInt8.ofNat xw.kind::Sw.vary xms.length)).map bv))=G6;have s6:bH H G6:=fun b o e=>by rw [←hG6,ai (ah e hgM)];exact k45 _ _ (s4 b o e)
      have hM6:G6 gM=some (.lst ((acc++nmR xn++(UInt8.ofNat xw.kind::Sw.vary xms.length)).map bv)):=by rw [←hG6,aA]
      have hL6:G6 gL=some (.lst (rest.map fun x=>V.ref x.s.a)):=by rw [←hG6,ai (Ne.symm nML)];exact k45 _ _ (k4 _ _ hL3)
      refine ⟨_,rfl,.inl ⟨rfl,_,SqL.of hL6⟩,_,rfl,ex5 xa CT xd _ _ ⟨rfl,s6 _ _ h1,TD.cT,TD.nMe,rfl,ex2 xl _ ⟨rfl,SqL.of (s6 _ _ h4),fun y3 hy3=>?_⟩⟩⟩
      have k7:bH G6 (upd G6 y3 (.lst (xms.map fun s=>V.ref s.a).reverse)):=fun b o e=>(ai (ah e hy3)).trans e
      have hcv:=l7 (Pm.rowOf xw)
      rw [←Pm.cnt_row] at hcv;refine ex4 gL y3 _ _ ⟨rfl,rfl,k7 _ _ hL6,aA,by rw [au,dU,au];omega,?_⟩
      obtain ⟨es,e1,e2,e3,e4⟩:=rK (named:=Pm.namedOf xw) h5 (qT hxp) (pX hxp)
      generalize hG8:upd (upd G6 y3 _) gL _=G8;have hL8:G8 gL=some (.lst ((rest++es.reverse).map fun x=>V.ref x.s.a)):=by
       rw [←hG8,aA,aL,List.map_reverse,e1]
      have hM8:G8 gM=some (.lst ((acc++nmR xn++(UInt8.ofNat xw.kind::Sw.vary xms.length)).map bv)):=by
       rw [←hG8,ai nML];exact k7 _ _ hM6
      refine ⟨szT (rest++es.reverse),by rw [jg,rG,e3,hszt,Pm.cnt_row];omega,_,rfl,acc++nmR xn++(UInt8.ofNat xw.kind::Sw.vary xms.length),rest++es.reverse,fun b o e=>?_,hM8,hL8,fun y hy=>?_,?_,rfl,by rw [jg,rG,e3,←Pm.cnt_row];rw [hszt] at htm;omega⟩
      ·rw [←hG8,ai (ah e hgL0)];exact k7 _ _ (s6 b o e)
      ·rcases aF.mp hy with hy | hy
       ·exact hstk y (az _ hy)
       ·exact e2 y (List.mem_reverse.mp hy)
      ·unfold pR;rw [List.reverse_append,List.reverse_reverse,List.flatMap_append,e4];rw [←hout,eEnc,hl5];unfold pR;simp only [aO,cu]
     ·rw [af c];have hrow:H xr=some (.lst (xw.enc.map bv)):=h3.1.resolve_left c
      refine cA ⟨_,rfl,.inl ⟨rfl,_,SqL.of (k4 _ _ hM3)⟩,_,rfl,ex5 xa CT xd _ _ ⟨rfl,s4 _ _ h1,TD.cT,TD.nRo,rfl,ex4 gM xr _ _ ⟨rfl,rfl,k4 _ _ hM3,s4 _ _ hrow,by rw [au,au,aa];omega,?_⟩⟩⟩
      rw [←aL];generalize hG6:upd G4 gM _=G6;refine ⟨szT rest,by rw [hszt];omega,_,rfl,acc++nmR xn++xw.enc,rest,fun b o e=>?_,by rw [←hG6,aA],by rw [←hG6,ai (Ne.symm nML)];exact k4 _ _ hL3,fun y hy=>hstk y (az _ hy),?_,rfl,by rw [hszt] at htm;omega⟩
      ·rw [←hG6,ai (ah e hgM)];exact s4 b o e
      ·rw [←hout];simp only [aO]
structure XOk (CT:Addr) (B H:Hp) (s x:Sh) (w:Sw.Value):Prop where
 ok:NdT CT H x w []
 nd:x.adr.Nodup
 fz:∀ y∈x.frz,y∉x.adr
 fb:∀ y∈x.adr,B y=none
 ap:∀ y∈x.adr,y∉s.adr∧y∉s.frz
 xf:∀ y∈x.frz,y∉s.adr
 pl:w.plain=true
 dp:w.deep≤64
theorem qR {K:Fg_} {CT CL CV:Addr} {B H H1:Hp} {s:Sh} {v:Sw.Value} {la:List Sw.Step} {u w:Sw.Value} {p0:Nat} {ta tl tn tr:Addr} {tms:List Sh} {nmu:List UInt8} {hs rest restF:List Addr} {put:Sh→Sh} {xa xl xn xr g2:Addr} {xms:List Sh} {n:List UInt8} {i:Nat} {r1 r2:Sw.Row} {Q:VK} {E:XK} {l:List Sw.Step} {d:Sw.Deed}
  (G:j4 CT B H s v) (W:jY K CT H s v [] 0 la u (.node ta tl tn tr tms) nmu hs rest restF put) (t1:(Pm.trail (v,0) la).length=la.length+1) (t2:(Pm.trail (v,0) la).getLast? = some (u,p0)) (hhold:Pm.isHold u)
  (k1:∀ x o,H x=some o→x∈s.adr++s.frz∨B x=some o→H1 x=some o) (hg2:H1 g2=some (.lst ((hs++[ta]).map V.ref))) (hg2n:g2≠tl) (h0:(hs++[ta])[0]? = some s.a)
  (hx:NdT CT H1 (.node xa xl xn xr xms) w n) (xnd:(Sh.node xa xl xn xr xms).adr.Nodup) (ap:∀ y∈(Sh.node xa xl xn xr xms).adr,y∉s.adr∧y∉s.frz) (xf:∀ y∈(Sh.node xa xl xn xr xms).frz,y∉s.adr∧y∉(Sh.node xa xl xn xr xms).adr) (xB:∀ y∈(Sh.node xa xl xn xr xms).adr,B y=none) (hn:n.length≤1000000)
  (er:Pm.rowOf u=Pm.rapp r1 r2) (el:r1.length=i) (hnm:Pm.nmB (Pm.namedOf u) n=nmR n) (hd:v.doneAt l d=some (Pm.repl v la (Pm.withRow u (Pm.rapp r1 (.cons n w r2))))) (hpl:(Pm.repl v la (Pm.withRow u (Pm.rapp r1 (.cons n w r2)))).plain=true) (hdp:(Pm.repl v la (Pm.withRow u (Pm.rapp r1 (.cons n w r2)))).deep≤64) (q:Chg CT CL CV B v l d Q E) :
  pE CT CV [.ref g2,.int (i:Int),.ref xa] H1 Q E:=by
 have hndt:=W.ndt G.nd
 have hnat:=W.nodesAt
 have hmemA:∀ y,y∈s.adr↔y∈rest++(ta::tl::Sh.adrs tms):=fun y=>W.adr.mem_iff
 have hmemF:∀ y,y∈s.frz↔y∈restF++(tn::tr::Sh.frzs tms):=fun y=>W.frz.mem_iff
 have kA:∀ y∈s.adr,∀ o,H y=some o→H1 y=some o:=fun y hy o e=>k1 y o e (.inl (az _ hy))
 have kF:∀ y∈s.frz,∀ o,H y=some o→H1 y=some o:=fun y hy o e=>k1 y o e (.inl (ak _ hy))
 have hhs:∀ x∈hs++[ta],x∈s.adr:=fun x hx=>by
  rcases aF.mp hx with hx | hx
  ·exact (hmemA x).mpr (az _ (W.inR x hx))
  ·rw [aG.mp hx];exact (hmemA ta).mpr (by simp)
 have htl:tl∈s.adr:=(hmemA tl).mpr (by simp)
 have Wok:=W.ok
 cases Wok with
 | mk b1 b2 b3 b4 b5 =>
  rename_i dt
  obtain ⟨d0,n0,r0,l0,ha0⟩:=G.ok.node
  have hsa:s.a∈s.adr:=hhs _ (cN h0)
  have hus:=Pm.row_short hhold
  have hul:u.enc.length≤v.enc.length:=by
   obtain ⟨pre,post,e1,_,_⟩:=Pm.repl_enc la v 0 u p0 t1 t2
   rw [e1];simp only [aa];omega
  have hvl:=G.ln
  have htms:=b5.len
  have hrl:r1.length+r2.length=tms.length:=by rw [htms,er,Pm.rapp_len]
  have hx':=hx
  cases hx with
  | mk y1 y2 y3 y4 y5 =>
   rename_i yd
   have hxn:xn≠tl:=fun z=>(xf xn (by unfold Sh.frz;simp)).1 (by rw [z];exact htl)
   refine ⟨g2,ta,xa,s.a,hs,i,dt,tn,tr,tl,yd,xn,xr,xl,u.kind,w.kind,_,_,(v.enc.length:Int),_,n,rfl,hg2,hndt,fun x hx=>?_,h0,⟨d0,_,n0,r0,l0,kA _ hsa _ ha0⟩,kA _ (hhs _ (by simp)) _ b1,kA _ htl _ b4,by rw [au];omega,by rw [au];omega,y1,y2,hn,hg2n,hxn,?_⟩
   ·obtain ⟨dx,k,n,r,ln,lx,e⟩:=hnat x hx
    exact ⟨dx,k,n,r,ln,lx,kA _ (hhs x hx) _ e⟩
   ·rw [au,show (tms.map fun s=>V.ref s.a).take i++V.ref xa::(tms.map fun s=>V.ref s.a).drop i=(tms.take i++(Sh.node xa xl xn xr xms)::tms.drop i).map (fun s=>V.ref s.a) by rw [aL,aY,fL,gR];rfl]
    have hlen:((Pm.withRow u (Pm.rapp r1 (.cons n w r2))).enc.length:Int)=(u.enc.length:Int)+(((nmR n).length:Int)+(w.enc.length:Int)+((Sw.vary (tms.length+1)).length:Int) - ((Sw.vary tms.length).length:Int)):=by
     have:=Pm.len_more hhold (r1:=r1) (r2:=r2) (n:=n) (w:=w)
     rw [←er,Pm.row_self hhold,hnm,hrl] at this;exact this
    obtain ⟨c1,c2,f1,f2,f3,f4⟩:=b5.cut (i:=i) (by omega)
    have hc12:c1=r1∧c2=r2:=by
     have:Pm.rapp c1 c2=Pm.rapp r1 r2:=by rw [←f1,er]
     exact Pm.rapp_inj this (by rw [f2,el])
    obtain ⟨rfl,rfl⟩:=hc12
    have hnd2:(rest++(ta::tl::Sh.adrs tms)).Nodup:=W.adr.nodup_iff.mp G.nd
    have hnd3:=bc.mp hnd2
    have eA:Sh.adrs tms=Sh.adrs (tms.take i)++Sh.adrs (tms.drop i):=by rw [←dq,cI]
    have eF:Sh.frzs tms=Sh.frzs (tms.take i)++Sh.frzs (tms.drop i):=by rw [←cZ,cI]
    have hnoA:∀ x∈Sh.adrs tms,x∉hs++[ta]∧x∉[tl]:=fun x hx=>by
     refine ⟨fun z=>?_,fun z=>?_⟩
     ·rcases aF.mp z with z | z
      ·exact hnd3.2.2 x (W.inR x z) x (by simp [hx]) rfl
      ·rw [aG.mp z] at hx;exact (aS.mp hnd3.2.1).1 (ax _ hx)
     ·rw [aG.mp z] at hx;exact (aS.mp (aS.mp hnd3.2.1).2).1 hx
    refine oJ (CL:=CL) (xa:=(Sh.node xa xl xn xr xms).adr) (xf:=(Sh.node xa xl xn xr xms).frz) (gone:=[]) (tms':=tms.take i++(Sh.node xa xl xn xr xms)::tms.drop i) (u':=Pm.withRow u (Pm.rapp c1 (.cons n w c2))) (l:=l) (d:=d) G W t1 t2 k1 hhold (Pm.withRow_kind _ _) hlen (fun H' kk=>?_) ?_ ?_ ?_ ?_ (fun x hx z=>(ap x z).2 hx) xB hd hpl hdp q
    ·rw [Pm.withRow_row hhold];have hkA:∀ x∈Sh.adrs tms,∀ o,H x=some o→H' x=some o:=fun x hx o e=>kk x o (kA x ((hmemA x).mpr (by simp [hx])) o e) (hnoA x hx).1 (hnoA x hx).2
     have hkF:∀ x∈Sh.frzs tms,∀ o,H x=some o→H' x=some o:=fun x hx o e=>by
      have hf:=(hmemF x).mpr (by simp [hx])
      exact kk x o (kF x hf o e) (fun z=>G.fz x hf (hhs x z)) (fun z=>G.fz x hf (by rw [aG.mp z];exact htl))
     have hxk:NdT CT H' (.node xa xl xn xr xms) w n:=hx'.keep (fun x hx o e=>kk x o e (fun z=>(ap x hx).1 (hhs x z)) (fun z=>(ap x hx).1 (by rw [aG.mp z];exact htl))) (fun x hx o e=>kk x o e (fun z=>(xf x hx).1 (hhs x z)) (fun z=>(xf x hx).1 (by rw [aG.mp z];exact htl)))
     exact eD.append (f3.keep (fun x hx o e=>hkA x (by rw [eA];exact az _ hx) o e) fun x hx o e=>hkF x (by rw [eF];exact az _ hx) o e) (.cons hxk (f4.keep (fun x hx o e=>hkA x (by rw [eA];exact ak _ hx) o e) fun x hx o e=>hkF x (by rw [eF];exact ak _ hx) o e))
    ·rw [bc];exact ⟨G.nd,xnd,fun a ha b hb z=>(ap b hb).1 (z▸ha)⟩
    ·rw [dq,bC,eA];refine cX.mpr fun x=>?_
     simp only [Sh.adrs,dw];omega
    ·intro x hx;rw [cZ] at hx;rw [eF];rcases aF.mp hx with hx | hx
     ·exact .inl (az _ hx)
     ·have hx:x∈(Sh.node xa xl xn xr xms).frz++Sh.frzs (tms.drop i):=hx
      rcases aF.mp hx with hx | hx
      ·exact .inr hx
      ·exact .inl (ak _ hx)
    ·intro x hx z;rcases aF.mp z with z | z
     ·exact (xf x hx).1 z
     ·exact (xf x hx).2 z
def vz (CV:Addr):Sp:=fun vs H Q E=>∃ (d:Addr) (ws:List V) (n:Nat),vs=[.ref d,.int (n:Int)]∧H d=some (.lst ws)∧(if 64<ws.length+n then ic E CV [.int (-9)] else Q .non H)
theorem iK {H:Hp} {ws:List V} {la:List Sw.Step} {ls:Sw.Step} (h:du H ws (la++[ls])):∃ w0,ws[ws.length - 1]? = some w0∧gq H w0 ls∧1≤ws.length:=by
 have hl:=h.len
 rw [aa,aP] at hl;obtain ⟨w0,e⟩:∃ w0,ws[ws.length - 1]? = some w0:=⟨_,aJ (by omega)⟩
 obtain ⟨s,es,hs⟩:=h.get e
 rw [show ws.length - 1=la.length by omega,cw] at es
 injection es with es;subst es;exact ⟨w0,e,hs,by omega⟩
theorem wx (xs:List V) (n:Nat):nq xs none (some (n:Int))=xs.take n:=by
 unfold nq;rw [HT.sIx_none,HT.sIx_nat,dW,Nat.sub_zero];by_cases h:n≤xs.length
 ·rw [bZ h]
 ·rw [Nat.min_eq_right (by omega),fH,bT (by omega)]
theorem NdT.holdAt {K:Fg_} {mg:Str→Option Value} {CT:Addr} (TD:TxD K mg CT) {H:Hp} {a l n r:Addr} {ms:List Sh} {v:Sw.Value} {nm:List UInt8} (h:NdT CT H (.node a l n r ms) v nm):fE K H a v.kind (ms.map Sh.a):=by
 cases h with
 | mk h1 h2 h3 h4 h5 =>
  rename_i dx
  exact ⟨CT,dx,_,l,h1,TD.cT,TD.nKi,TD.nMe,rfl,rfl,by rw [dN];exact h4⟩
theorem pT {v:Sw.Value} {la:List Sw.Step} {ls:Sw.Step} (h:(Pm.trail (v,0) (la++[ls])).length<(la++[ls]).length):(Pm.trail (v,0) la).length≤la.length:=by
 by_cases c:(Pm.trail (v,0) la).length≤la.length
 ·exact c
 ·have hle:=Pm.leads_le la v
  have htl:(Pm.trail (v,0) la).length=(v.leads la).length+1:=Pm.trail_len la (v,0)
  have hf:(Pm.trail (v,0) la).length=la.length+1:=by omega
  cases e:(Pm.trail (v,0) la).getLast? with
  | none=>exact absurd (a9.mp e) (Pm.trail_ne _ _)
  | some y =>
   have:=congrArg List.length (Pm.trail_snoc la (v,0) y ls [] hf e)
   rw [aa,aP] at h;rw [aa] at this;omega
theorem we {v:Sw.Value} {la:List Sw.Step} {ls:Sw.Step} (h:(la++[ls]).length≤(Pm.trail (v,0) (la++[ls])).length):(Pm.trail (v,0) la).length=la.length+1:=by
 rw [aa,aP] at h;by_cases c:(Pm.trail (v,0) la).length≤la.length
 ·have hs:∀ (a b:List Sw.Step) (x:Sw.Value×Nat),(Pm.trail x a).length≤a.length→Pm.trail x (a++b)=Pm.trail x a:=by
   intro a;induction a with
   | nil =>
    intro b x hx;unfold Pm.trail at hx;exact absurd hx (by show ¬1≤0;omega)
   | cons t a ih =>
    intro b x hx;show Pm.trail x (t::(a++b))=_
    unfold Pm.trail at hx ⊢;cases e:Pm.go x t with
    | none=>rfl
    | some z =>
     rw [e] at hx;have hx:(Pm.trail z a).length+1≤a.length+1:=hx
     show x::Pm.trail z (a++b)=x::Pm.trail z a
     rw [ih b z (by omega)]
  rw [hs la [ls] _ c] at h;omega
 ·have hle:=Pm.leads_le la v
  have htl:(Pm.trail (v,0) la).length=(v.leads la).length+1:=Pm.trail_len la (v,0)
  omega
theorem scCD:ba ["steps","x_depth"] ["steps","x_depth"] (aQ sCD):=fs_
theorem ok_CD {f:Addr} {fd fdV:FuncData} (F:Fun K "check_depth" "check_depth" sCD f fd) (dp:GI mg "DEEPEST" 64) (len:mg "len" = none)
  (ucV:f6 K U CV fUV) (mV0:mg "NoValue" = some (.ref CV)) (GV:bt P w K mg base CX0 2 fUV fdV ["self"] (iL CV 0 aNV)) (bV:cB K fdV ["self"] []) :
  bt P w K mg base (CXF P w) 4 f fd ["steps","x_depth"] (vz CV):=by
 refine okX F scCD (fun vs H Q E h=>?_) (fun cdv A outer s H vs Q E hr h=>?_)
 ·obtain ⟨d,ws,n,rfl,_⟩:=h
  rfl
 ·obtain ⟨d,ws,n,rfl,hd,q⟩:=h
  refine ⟨_,aE (ck (bh iH (cY eZ (bM bW (by rfl) len a7 (ae (pv 0) aD)) (pv 1)) (pgi dp rfl) (bw _)) (aE (ir ucV GV bV rfl hr cC rfl rfl mV0)) bE),?_⟩
  try dsimp only [cD];refine ⟨_,rfl,ex2 d _ ⟨rfl,.inl (SqL.of hd),_,rfl,ex2 _ _ ⟨rfl,rfl,ex2 _ _ ⟨rfl,rfl,_,rfl,?_⟩⟩⟩⟩
  by_cases c:64<ws.length+n
  ·rw [if_pos c] at q;rw [ag (show (64:Int)<((ws.length:Nat):Int)+((n:Nat):Int) by omega)]
   exact cK ⟨rfl,q⟩
  ·rw [if_neg c] at q;rw [af (show ¬(64:Int)<((ws.length:Nat):Int)+((n:Nat):Int) by omega)]
   exact cA q
def kH (k n:Nat):Sw.Step→Bool
 | .index z=>decide (k=5∧0≤z∧z≤(n:Int))
 | .name _=>false
def x8 (K:Fg_):Sp:=fun vs H Q _=>∃ (m:Addr) (v:V) (k:Nat) (as:List Addr) (s:Sw.Step),vs=[.ref m,v]∧fE K H m k as∧gq H v s∧Q (.bl (kH k as.length s)) H
def yk (CT CL CV:Addr):Sp:=fun vs H Q E=>∃ (B:Hp) (s:Sh) (v:Sw.Value) (d:Addr) (ws:List V) (l:List Sw.Step) (x:Sh) (w:Sw.Value),vs=[.ref s.a,.ref d,.ref x.a,.int (w.deep:Int)]∧j4 CT B H s v∧B d=some (.lst ws)∧du B ws l∧l.length≤65536∧XOk CT B H s x w∧Chg CT CL CV B v l (.add w) Q E
theorem vg {u:Sw.Value} {st:Sw.Step} {n:Nat} (x:Sw.Value) (hn:(Pm.rowOf u).length=n) (h:kH u.kind n st=false):u.done st (.add x)=none:=by
 cases u with
 | list m =>
  have hn:m.length=n:=hn
  cases st with
  | index z =>
   have h:decide (5=5∧0≤z∧z≤(n:Int))=false:=h
   have h:=of_decide_eq_false h
   show (if 0≤z∧z≤(m.length:Int) then some _ else none)=none
   rw [if_neg (fun y=>h ⟨rfl,by rw [←hn];exact y⟩)]
  | name k=>rfl
 | _=>cases st<;>rfl
theorem scMA:ba ["holder","step"] ["holder","step"] (aQ sMA):=fs_
theorem ok_MA {f fIN:Addr} {fd fdI:FuncData} (F:Fun K "may_add" "may_add" sMA f fd) (k5:GI mg "LIST" 5) (len:mg "len" = none)
  (GI:Co P w K mg base CX0 1 fIN fdI ["step"] sU "is_number") :
  bt P w K mg base CX0 2 f fd ["holder","step"] (x8 K):=by
 refine F.ok scMA (fun vs H Q E h=>?_) (fun cdv A outer s H vs Q E hr h=>?_)
 ·obtain ⟨m,v,k,as,st,rfl,_⟩:=h
  rfl
 ·obtain ⟨m,v,k,as,st,rfl,⟨C,dx,fs,l,h1,hC,hk,hme,ek,eme,hl⟩,hv,q⟩:=h
  refine ⟨_,aE (br (mw (iw dR (aV (pv 0) rfl) (pgi k5 rfl) (bw _)) (mw (bJ GI hr rfl cx (ae (pv 1) aD)) (ox (pQ iN iN aX (pv 1) (bM bW (by rfl) len a7 (ae (aV (pv 0) rfl) aD))))))),?_⟩
  try dsimp only [cD];refine ⟨_,rfl,ex5 m C dx fs _ ⟨rfl,h1,hC,hk,ek,rfl,_,rfl,?_⟩⟩
  rw [iz];by_cases c5:k=5
  ·rw [ag (show ((k:Nat):Int)=5 by omega)]
   refine cK ⟨_,rfl,ex2 v st ⟨rfl,hv,?_⟩⟩
   cases st with
   | index z =>
    have hv:v = .int z:=hv
    subst hv;have q:Q (.bl (decide (k=5∧0≤z∧z≤(as.length:Int)))) H:=q
    refine ⟨_,rfl,cK ⟨_,rfl,ex2 _ _ ⟨rfl,rfl,_,rfl,?_⟩⟩⟩
    by_cases c0:0≤z
    ·rw [ag c0];refine cK ⟨_,rfl,ex5 m C dx fs _ ⟨rfl,h1,hC,hme,eme,l,_,rfl,.inl (SqL.of hl),ex2 _ _ ⟨rfl,rfl,?_⟩⟩⟩
     rw [au];rw [show decide (k=5∧0≤z∧z≤(as.length:Int))=decide (z≤(as.length:Int)) from decide_eq_decide.mpr ⟨fun y=>y.2.2,fun y=>⟨c5,c0,y⟩⟩] at q
     exact q
    ·rw [af c0];rw [af (fun (y:k=5∧0≤z∧z≤(as.length:Int))=>c0 y.2.1)] at q
     exact cA q
   | name n=>exact ⟨_,rfl,cA q⟩
  ·rw [af (show ¬((k:Nat):Int)=5 by omega)]
   have e:kH k as.length st=false:=by
    cases st with
    | index z=>exact af (fun y=>c5 y.1)
    | name n=>rfl
   rw [e] at q;exact cA q
theorem yx:ba ["top","steps","x","x_depth","trail","holders"] ["top","steps","x","x_depth"] (aQ sAA):=fs_
theorem ok_AA {f fFW fMA fCD fIM:Addr} {fd fdW fdM fdC fdI fdL:FuncData} (F:Fun K "add_at" "add_at" sAA f fd) (TD:TxD K mg CT) (len:mg "len" = none) (uc:f6 K U CL fUL) (mL0:mg "LeadsNowhere" = some (.ref CL))
  (GL:bt P w K mg base CX0 2 fUL fdL ["self","leading"] (iL CL 1 aLN)) (bL:cB K fdL ["self","leading"] [])
  (GF:Co P w K mg base CX0 3 fFW fdW ["whole","steps"] (uu K) "follow")
  (GM:Co P w K mg base CX0 2 fMA fdM ["holder","step"] (x8 K) "may_add")
  (GC:Co P w K mg base (CXF P w) 4 fCD fdC ["steps","x_depth"] (vz CV) "check_depth")
  (GI:Co P w K mg base (CXF P w) 5 fIM fdI ["holders","i","x"] (pE CT CV) "insert_member") :
  bt P w K mg base (CXF P w) 6 f fd ["top","steps","x","x_depth"] (yk CT CL CV):=by
 refine okX F yx (fun vs H Q E h=>?_) (fun cdv A outer s H vs Q E hr h=>?_)
 ·obtain ⟨B,s,v,d,ws,l,x,w',rfl,_⟩:=h
  rfl
 ·obtain ⟨B,sh,v,d,ws,l,x,xw,rfl,G,hd,hst,hl,X,q⟩:=h
  have hr2:cq 2 _:=hr.mono (by decide)
  have hr3:cq 3 _:=hr.mono (by decide)
  have hr4:cq 4 _:=hr.mono (by decide)
  refine ⟨_,aq (bb (i:=4) yx.nd rfl (.inl rfl) (bJ GF hr3 rfl cx (ae (pv 0) (ae (pv 1) aD))))
   (aq (bb (i:=5) yx.nd rfl (.inl rfl) (gi ik (pv 4) ow (eY (bM bW (by rfl) len a7 (ae (pv 1) aD)))))
   (aq (ck (PW.pt (kZ (mj (eB (pv 1) (fun _=>rfl))) (kZ (bh iG (bM bW (by rfl) len a7 (ae (pv 5) aD)) (bM bW (by rfl) len a7 (ae (pv 1) aD)) (bw _))
     (jh (mj (mf (bJ GM hr2 rfl cx (ae (dE cg (pv 5) (dY dk aX) (fun _ _=>rfl)) (ae (dE cg (pv 1) (dY dk aX) (fun _ _=>rfl)) aD)))))))))
    (aE (ji uc GL bL rfl hr3 cC rfl rfl mL0 (ae (cY gk (bM bW (by rfl) len a7 (ae (pv 4) aD)) aX) aD) (by decide))) bE)
   (aq (cE (bJ GC hr4 rfl di (ae (pv 1) (ae (pv 3) aD))))
   (aE (br (bJ GI hr rfl di (ae (pv 5) (ae (dE cg (pv 1) (dY dk aX) (fun _ _=>rfl)) (ae (pv 2) aD))))))))),?_⟩
  try dsimp only [cD];have hdH:=G.sb _ _ hd
  refine ⟨_,rfl,_,rfl,ex6 _ sh.a d v ws l ⟨rfl,jQ TD,ex2 sh [] ⟨rfl,G.ok,G.pl⟩,hdH,hst.same G.sb,hl,fun g as H1 k1 hg0 hg htr hlk hm0=>?_⟩⟩
  have hal:=htr.len
  have htl:(Pm.trail (v,0) l).length=(v.leads l).length+1:=Pm.trail_len l (v,0)
  have hle:=Pm.leads_le l v
  have hwl:=hst.len
  have hd1:=k1 _ _ hdH
  refine ⟨_,rfl,_,rfl,ex2 d _ ⟨rfl,.inl (SqL.of hd1),_,rfl,ex2 g _ ⟨rfl,SqL.of hg,fun gh hgh=>?_⟩⟩⟩
  rw [wx,←fL];have k2:bH H1 (upd H1 gh (.lst ((as.take ws.length).map V.ref))):=fun b o e=>(ai (ah e hgh)).trans e
  generalize hH2:upd H1 gh (.lst ((as.take ws.length).map V.ref))=H2 at k2;have hgh2:H2 gh=some (.lst ((as.take ws.length).map V.ref)):=by rw [←hH2,aA]
  have k12:=k1.trans k2
  have hd2:=k2 _ _ hd1
  have elead:(((as.map V.ref).length:Nat):Int) - 1=(((v.leads l).length:Nat):Int):=by
   rw [au,hal,htl];omega
  have bad:v.doneAt l (.add xw)=none→ic E CL [.int (-4),.int (((v.leads l).length:Nat):Int)]:=fun c=>by
   unfold Chg at q;rw [c] at q;exact q
  refine ⟨_,rfl,_,.inl ⟨_,SqL.of hd2,rfl⟩,?_⟩
  rcases bX l with el | ⟨la,ls,el⟩
  ·have ew:ws=[]:=by
    rw [el] at hwl;exact cy.mp hwl
   subst ew;refine cK ⟨_,rfl,ex2 g _ ⟨rfl,.inl (SqL.of (k2 _ _ hg)),ex2 _ _ ⟨rfl,rfl,rfl,?_⟩⟩⟩
   show ic E CL [.int (-4),.int ((((as.map V.ref).length:Nat):Int) - 1)]
   rw [elead];exact bad (by rw [el];rfl)
  ·rw [bY] at el;subst el;obtain ⟨w0,ew0,hw0,hw1⟩:=iK hst
   have hemp:(!ws.isEmpty)=true:=by
    cases ws with
    | nil=>cases hw1
    | cons _ _=>rfl
   rw [hemp];refine cA ⟨_,rfl,ex2 gh _ ⟨rfl,.inl (SqL.of hgh2),_,rfl,ex2 d _ ⟨rfl,.inl (SqL.of hd2),ex2 _ _ ⟨rfl,rfl,_,rfl,?_⟩⟩⟩⟩
   rw [au,aH];have hwl':ws.length=la.length+1:=by rw [hwl,aa,aP]
   by_cases c:as.length<ws.length
   ·rw [ag (show (((min ws.length as.length:Nat):Nat):Int)<((ws.length:Nat):Int) by omega)]
    refine cK ⟨_,rfl,ex2 g _ ⟨rfl,.inl (SqL.of (k2 _ _ hg)),ex2 _ _ ⟨rfl,rfl,rfl,?_⟩⟩⟩
    show ic E CL [.int (-4),.int ((((as.map V.ref).length:Nat):Int) - 1)]
    rw [elead];exact bad (Pm.doneAt_no la v 0 ls _ (pT (by rw [aa,aP,←hal,←hwl'];exact c)))
   ·rw [af (show ¬(((min ws.length as.length:Nat):Nat):Int)<((ws.length:Nat):Int) by omega)]
    have t1:(Pm.trail (v,0) la).length=la.length+1:=we (ls:=ls) (by rw [aa,aP,←hal,←hwl'];omega)
    cases elast:(Pm.trail (v,0) la).getLast? with
    | none=>exact absurd (a9.mp elast) (Pm.trail_ne _ _)
    | some y =>
     obtain ⟨u,p⟩:=y
     obtain ⟨t,nmu,hs,rest,restF,put,W⟩:=oh (K:=K) t1 elast G.ok G.nd
     have hup:=Pm.trail_last_pl G.pl elast
     have hway:=W.way (as.take (la.length+1)) (hlk.lk.front t1) (by rw [a6 (by omega)];exact hm0) (by rw [aH];omega)
     rw [←hwl'] at hway;rw [hway] at hgh2;obtain ⟨ta,tl,tn,tr,tms⟩:=t
     have hT:=W.ok.holdAt TD
     have htms:tms.length=(Pm.rowOf u).length:=by
      cases W.ok with
      | mk _ _ _ _ h5=>exact h5.len
     have ghn:gh≠tl:=fun z=>by
      have:∃ o,H tl=some o:=by
       cases W.ok with
       | mk _ _ _ h4 _=>exact ⟨_,h4⟩
      obtain ⟨o,e⟩:=this
      rw [z,k1 _ _ e] at hgh;cases hgh
     have at0:atI ws (-1)=some w0:=jW (k:=1) (by omega) ew0 hw1
     refine cA ⟨_,rfl,_,rfl,gh,_,_,V.ref ta,rfl,rfl,SqL.of hgh2,by rw [aL];exact eC _ _,_,rfl,_,rfl,ex4 d _ _ w0 ⟨rfl,rfl,SqL.of hd2,at0,ta,w0,u.kind,_,ls,rfl,hT.same k12,(hw0.same G.sb).same k12,_,rfl,?_⟩⟩
     rw [au];by_cases cm:kH u.kind tms.length ls=true
     ·rw [cm];cases ls with
      | name k=>cases cm
      | index z =>
       obtain ⟨c5,c0,cz⟩:=of_decide_eq_true cm
       have hw0:w0 = .int z:=hw0
       subst hw0;cases u with
       | list m =>
        have hm:tms.length=m.length:=htms
        obtain ⟨i,rfl⟩:∃ i:Nat,z=(i:Int):=⟨z.toNat,by omega⟩
        have hi:i≤m.length:=by omega
        obtain ⟨p1,p2,_⟩:=Pm.list_put hup X.pl i hi
        obtain ⟨rd1,rd2,rd3⟩:=Pm.repl_deep la v 0 _ p (.list (m.insert i xw)) t1 elast
        have hv64:=G.dp
        have hdn:(Sw.Value.list m).done (.index (i:Int)) (.add xw)=some (.list (m.insert i xw)):=by
         show (if 0≤(i:Int)∧(i:Int)≤(m.length:Int) then some (Sw.Value.list (m.insert (i:Int).toNat xw)) else none)=_
         rw [if_pos ⟨by omega,by omega⟩,cW]
        have hda:v.doneAt (la++[.index (i:Int)]) (.add xw)=some (Pm.repl v la (.list (m.insert i xw))):=by
         rw [Pm.doneAt_snoc la v 0 _ p _ _ t1 elast,hdn];rfl
        have hpl':=Pm.repl_plain la v _ G.pl p1
        refine cA ⟨_,rfl,_,rfl,ex3 d ws xw.deep ⟨rfl,hd2,?_⟩⟩
        by_cases cd:64<ws.length+xw.deep
        ·rw [if_pos cd];unfold Chg at q;rw [hda] at q;dsimp only at q;rw [if_pos (rP hpl' (by omega))] at q
         exact q
        ·rw [if_neg cd];obtain ⟨c1,c2,f1,f2,f3,f4⟩:∃ c1 c2,m=Pm.rapp c1 c2∧c1.length=i∧True∧True:=by
          cases W.ok with
          | mk _ _ _ _ h5 =>
           obtain ⟨c1,c2,e1,e2,_,_⟩:=h5.cut (i:=i) (by omega)
           exact ⟨c1,c2,e1,e2,trivial,trivial⟩
         have hwr:Pm.withRow (.list m) (Pm.rapp c1 (.cons [] xw c2)) = .list (m.insert i xw):=by
          rw [f1,←f2,Pm.rapp_insert];rfl
         obtain ⟨xa,xl,xn,xr,xms⟩:=x
         refine ⟨_,rfl,_,rfl,_,rfl,d,_,_,V.int (i:Int),rfl,rfl,SqL.of hd2,at0,_,rfl,?_⟩
         show pE CT CV [.ref gh,.int (i:Int),.ref xa] H2 Q E
         refine qR (CL:=CL) (l:=la++[.index (i:Int)]) (d:=.add xw) (r1:=c1) (r2:=c2) (n:=[]) (w:=xw) G W t1 elast (.inl rfl) (fun y o e _=>k12 _ _ e) hgh2 ghn (by show (hs++[(Sh.node ta tl tn tr tms).a])[0]? = _;rw [←hway,a6 (by omega)];exact hm0) (X.ok.same k12) X.nd X.ap (fun y hy=>⟨X.xf y hy,X.fz y hy⟩) X.fb (aW _) f1 f2 rfl (by rw [hwr];exact hda) (by rw [hwr];exact hpl') (by rw [hwr];omega) q
       | _=>simp [Sw.Value.kind] at c5
     ·have cm:kH u.kind tms.length ls=false:=by
       cases e:kH u.kind tms.length ls with
       | true=>exact absurd e cm
       | false=>rfl
      rw [cm];refine cK ⟨_,rfl,ex2 g _ ⟨rfl,.inl (SqL.of (k2 _ _ hg)),ex2 _ _ ⟨rfl,rfl,rfl,?_⟩⟩⟩
      show ic E CL [.int (-4),.int ((((as.map V.ref).length:Nat):Int) - 1)]
      rw [elead];refine bad ?_
      rw [Pm.doneAt_snoc la v 0 u p ls _ t1 elast,vg xw htms.symm cm];rfl
def jI (k n:Nat):Sw.Step→Bool
 | .index z=>decide (k=5∧z=(n:Int))
 | .name m=>decide (k=6∧1≤m.length∧m.length≤255)
def xZ (K:Fg_):Sp:=fun vs H Q _=>∃ (m:Addr) (v:V) (k:Nat) (as:List Addr) (s:Sw.Step),vs=[.ref m,v]∧fE K H m k as∧gq H v s∧Q (.bl (jI k as.length s)) H
def xO (K:Fg_) (CT CV:Addr):Sp:=fun vs H Q E =>
 (∃ (gl x:Addr) (i:Nat),vs=[.ref gl,.int (i:Int),.ref x]∧pE CT CV [.ref gl,.int (i:Int),.ref x] H Q E) ∨
 (∃ (gl b x dx nx rx lx h:Addr) (kx k:Nat) (lenx:Int) (hs as:List Addr) (ns:List (List UInt8)) (n:List UInt8),vs=[.ref gl,.ref b,.ref x]∧H b=some (.lst (n.map bv))∧H x=some (.ins CT dx (nf kx nx rx lenx lx)) ∧
  (let H1:=upd H x (.ins CT dx (nf kx b rx lenx lx));H1 gl=some (.lst ((hs++[h]).map V.ref))∧fE K H1 h k as∧pb K H1 as ns∧Sw.rising ns=true∧H1 b=some (.lst (n.map bv))∧pE CT CV [.ref gl,.int (((ns.filter fun y=>Sw.bytesBefore y n).length:Nat):Int),.ref x] H1 Q E))
def xM (K:Fg_) (CT CV:Addr):Sp:=fun vs H Q E =>
 (∃ (g d x:Addr),vs=[.ref g,.ref d,.ref x]∧H d=some (.lst [])∧Q (.ref x) H) ∨
 (∃ (g d x y h a0 dx nx rx lx dy ny ry ly dh nh rh lh:Addr) (kx ky kh i:Nat) (lenx leny lenh len0:Int) (hs:List Addr) (ws ms:List V) (w0:V) (R:Hp→Addr→Sw.Value×Nat→Prop) (u:Sw.Value×Nat) (ls:Sw.Step),vs=[.ref g,.ref d,.ref x] ∧
  H g=some (.lst ((hs++[h,y]).map V.ref))∧H d=some (.lst ws)∧ws[ws.length - 1]? = some w0∧1≤ws.length∧H x=some (.ins CT dx (nf kx nx rx lenx lx))∧H y=some (.ins CT dy (nf ky ny ry leny ly))∧y≠x∧x∉hs++[h] ∧
  (hs++[h]).Nodup∧jZ CT H (hs++[h])∧(hs++[h])[0]? = some a0∧(∃ dx k n r l,H a0=some (.ins CT dx (nf k n r len0 l)))∧H h=some (.ins CT dh (nf kh nh rh lenh lh))∧H lh=some (.lst ms)∧i<ms.length∧d≠lh ∧
  Fam K R∧(∀ H2:Hp,(∀ z o,H z=some o→z≠x→H2 z=some o)→R H2 h u)∧gq H w0 ls∧(∀ b,w0 = .ref b→b≠x)∧u.1.memberOf ls=some i ∧
  gO CT CV (upd H x (.ins CT dx (nf kx ny rx lenx lx))) Q E a0 len0 (hs++[h]) [lh] (lenx - leny) fun H'=>H' lh=some (.lst (ms.set i (.ref x))))
theorem scMH:ba ["holder","step"] ["holder","step"] (aQ sMH):=fs_
theorem ok_MH {f fIN:Addr} {fd fdI:FuncData} (F:Fun K "may_have" "may_have" sMH f fd) (k5:GI mg "LIST" 5) (k6:GI mg "RECORD" 6) (ln:GI mg "LONGEST_NAME" 255) (len:mg "len" = none)
  (GI:Co P w K mg base CX0 1 fIN fdI ["step"] sU "is_number") :
  bt P w K mg base CX0 2 f fd ["holder","step"] (xZ K):=by
 refine F.ok scMH (fun vs H Q E h=>?_) (fun cdv A outer s H vs Q E hr h=>?_)
 ·obtain ⟨m,v,k,as,st,rfl,_⟩:=h
  rfl
 ·obtain ⟨m,v,k,as,st,rfl,⟨C,dx,fs,l,h1,hC,hk,hme,ek,eme,hl⟩,hv,q⟩:=h
  refine ⟨_,aq (ck (mf (bJ GI hr rfl cx (ae (pv 1) aD)))
    (aE (br (mw (iw dR (aV (pv 0) rfl) (pgi k5 rfl) (bw _)) (ox (iw dR (pv 1) (bM bW (by rfl) len a7 (ae (aV (pv 0) rfl) aD)) (bw _)))))) bE)
   (aE (br (mw (iw dR (aV (pv 0) rfl) (pgi k6 rfl) (bw _)) (ox (pQ iN iN aX (bM bW (by rfl) len a7 (ae (pv 1) aD)) (pgi ln rfl)))))),?_⟩
  try dsimp only [cD];refine ⟨_,rfl,ex2 v st ⟨rfl,hv,_,rfl,?_⟩⟩
  cases st with
  | index z =>
   have hv:v = .int z:=hv
   subst hv;have q:Q (.bl (decide (k=5∧z=(as.length:Int)))) H:=q
   refine cK ⟨_,rfl,ex5 m C dx fs _ ⟨rfl,h1,hC,hk,ek,rfl,_,rfl,?_⟩⟩
   rw [iz];by_cases c5:k=5
   ·rw [ag (show ((k:Nat):Int)=5 by omega)]
    refine cK ⟨_,rfl,_,rfl,ex5 m C dx fs _ ⟨rfl,h1,hC,hme,eme,l,_,rfl,.inl (SqL.of hl),rfl,?_⟩⟩
    rw [iz,au];rw [show decide (k=5∧z=(as.length:Int))=decide (z=(as.length:Int)) from decide_eq_decide.mpr ⟨fun y=>y.2,fun y=>⟨c5,y⟩⟩] at q
    exact q
   ·rw [af (show ¬((k:Nat):Int)=5 by omega)]
    rw [af (fun (y:k=5∧z=(as.length:Int))=>c5 y.1)] at q
    exact cA q
  | name n =>
   obtain ⟨b,rfl,hb⟩:=hv
   have q:Q (.bl (decide (k=6∧1≤n.length∧n.length≤255))) H:=q
   refine cA ⟨_,rfl,ex5 m C dx fs _ ⟨rfl,h1,hC,hk,ek,rfl,_,rfl,?_⟩⟩
   rw [iz];by_cases c6:k=6
   ·rw [ag (show ((k:Nat):Int)=6 by omega)]
    refine cK ⟨_,rfl,ex2 b _ ⟨rfl,.inl (SqL.of hb),ex2 _ _ ⟨rfl,rfl,_,rfl,?_⟩⟩⟩
    rw [au];by_cases c1:1≤n.length
    ·rw [ag (show (1:Int)≤((n.length:Nat):Int) by omega)]
     refine cK (ex2 _ _ ⟨rfl,rfl,?_⟩)
     rw [show decide (k=6∧1≤n.length∧n.length≤255)=decide (((n.length:Nat):Int)≤255) from decide_eq_decide.mpr ⟨fun y=>by omega,fun y=>⟨c6,c1,by omega⟩⟩] at q
     exact q
    ·rw [af (show ¬(1:Int)≤((n.length:Nat):Int) by omega)]
     rw [af (fun (y:k=6∧1≤n.length∧n.length≤255)=>c1 y.2.1)] at q
     exact cA q
   ·rw [af (show ¬((k:Nat):Int)=6 by omega)]
    rw [af (fun (y:k=6∧1≤n.length∧n.length≤255)=>c6 y.1)] at q
    exact cA q
theorem scPW:ba ["holders","step","x"] ["holders","step","x"] (aQ sPW):=fs_
theorem ok_PW {f fIN fIM fCB:Addr} {fd fdN fdI fdC:FuncData} (F:Fun K "put_new" "put_new" sPW f fd) (TD:TxD K mg CT)
  (GN:Co P w K mg base CX0 1 fIN fdN ["step"] sU "is_number")
  (GC:Co P w K mg base CX0 1 fCB fdC ["holder","name"] (vA K) "count_before")
  (GI:Co P w K mg base (CXF P w) 5 fIM fdI ["holders","i","x"] (pE CT CV) "insert_member") :
  bt P w K mg base (CXF P w) 6 f fd ["holders","step","x"] (xO K CT CV):=by
 refine okX F scPW (fun vs H Q E h=>?_) (fun cdv A outer s H vs Q E hr h=>?_)
 ·rcases h with ⟨gl,x,i,rfl,_⟩ | ⟨gl,b,x,dx,nx,rx,lx,h,kx,k,lenx,hs,as,ns,n,rfl,_⟩<;>rfl
 ·have hr1:cq 1 _:=hr.mono (by decide)
  refine ⟨_,aq (ck (mf (bJ GN hr1 rfl cx (ae (pv 1) aD))) (aE (br (bJ GI hr rfl di (ae (pv 0) (ae (pv 1) (ae (pv 2) aD)))))) bE)
   (aq (cJ (pv 2) (pv 1) rfl)
   (aE (br (bJ GI hr rfl di (ae (pv 0) (ae (bJ GC hr1 rfl cx (ae (dE cg (pv 0) (dY dk aX) (fun _ _=>rfl)) (ae (pv 1) aD))) (ae (pv 2) aD))))))),?_⟩
  try dsimp only [cD];rcases h with ⟨gl,x,i,rfl,q⟩ | ⟨gl,b,x,dx,nx,rx,lx,h,kx,k,lenx,hs,as,ns,n,rfl,hb,hx,h1,h2,h3,h4,h5,q⟩
  ·exact ⟨_,rfl,.int (i:Int),.index (i:Int),rfl,rfl,_,rfl,cK ⟨_,rfl,_,rfl,_,rfl,q⟩⟩
  ·refine ⟨_,rfl,.ref b,.name n,rfl,⟨b,rfl,hb⟩,_,rfl,cA ?_⟩
   refine ⟨_,rfl,_,rfl,x,CT,dx,_,rfl,hx,TD.cT,TD.nNa,(by show 5<1000;decide),?_⟩
   refine ⟨_,rfl,_,rfl,_,rfl,gl,_,_,V.ref h,rfl,rfl,SqL.of h1,by rw [aL];exact eC _ _,_,rfl,h,b,k,as,ns,n,rfl,h2,h3,h4,h5,?_⟩
   exact ⟨_,rfl,q⟩
theorem yq:ba ["trail","steps","x","found","holders"] ["trail","steps","x"] (aQ sRL):=fs_
theorem ok_RL {f fFM fLN:Addr} {fd fdF fdL:FuncData} (F:Fun K "replace_last" "replace_last" sRL f fd) (TD:TxD K mg CT)
  (GM:Co P w K mg base CX0 2 fFM fdF ["holder","step"] (uv K) "find_member")
  (GL:Co P w K mg base (CXF P w) 4 fLN fdL ["holders","grown"] (ur CT CV) "lengthen") :
  bt P w K mg base (CXF P w) 5 f fd ["trail","steps","x"] (xM K CT CV):=by
 refine okX F yq (fun vs H Q E h=>?_) (fun cdv A outer s H vs Q E hr h=>?_)
 ·rcases h with ⟨g,d,x,rfl,_⟩ | ⟨g,d,x,y,h,a0,dx,nx,rx,lx,dy,ny,ry,ly,dh,nh,rh,lh,kx,ky,kh,i,lenx,leny,lenh,len0,hs,ws,ms,w0,R,u,ls,rfl,_⟩<;>rfl
 ·have hr2:cq 2 _:=hr.mono (by decide)
  refine ⟨_,aq (ck (mj (eB (pv 1) (fun _=>rfl))) (aE (br (pv 2))) bE)
   (aq (bb (i:=3) yq.nd rfl (.inl rfl) (dE cg (pv 0) (dY dk aX) (fun _ _=>rfl)))
   (aq (bb (i:=4) yq.nd rfl (.inl rfl) (gi ik (pv 0) ow (eY (dY dk aX))))
   (aq (cJ (pv 2) (aV (pv 3) rfl) rfl)
   (aq (yC (pv 2) (yF (aV (dE cg (pv 4) (dY dk aX) (fun _ _=>rfl)) rfl) (bJ GM hr2 rfl cx (ae (dE cg (pv 4) (dY dk aX) (fun _ _=>rfl)) (ae (dE cg (pv 1) (dY dk aX) (fun _ _=>rfl)) aD))) uw))
   (aE (br (bJ GL hr rfl di (ae (pv 4) (ae (cY gk (aV (pv 2) rfl) (aV (pv 3) rfl)) aD))))))))),?_⟩
  try dsimp only [cD];rcases h with ⟨g,d,x,rfl,hd,q⟩ | ⟨g,d,x,y,h,a0,dx,nx,rx,lx,dy,ny,ry,ly,dh,nh,rh,lh,kx,ky,kh,i,lenx,leny,lenh,len0,hs,ws,ms,w0,R,u,ls,rfl,hg,hd,hw0,hw1,hx,hy,nyx,nxh,hnd,hno,h0,⟨d0,k0,n0,r0,l0,ha0⟩,hh,hlh,hi,ndl,FM,hR,hst,hst2,hmo,q⟩
  ·exact ⟨_,rfl,_,.inl ⟨_,SqL.of hd,rfl⟩,cK ⟨_,rfl,q⟩⟩
  ·have hemp:(!ws.isEmpty)=true:=by
    cases ws with
    | nil=>cases hw1
    | cons _ _=>rfl
   refine ⟨_,rfl,_,.inl ⟨_,SqL.of hd,rfl⟩,?_⟩
   rw [hemp];have elist:(hs++[h,y]).map V.ref=(hs++[h]).map V.ref++[V.ref y]:=by simp
   rw [elist] at hg;refine cA ⟨_,rfl,_,rfl,g,_,_,V.ref y,rfl,rfl,SqL.of hg,eC _ _,?_⟩
   refine ⟨_,rfl,_,rfl,_,rfl,ex2 g _ ⟨rfl,SqL.of hg,fun gh hgh=>?_⟩⟩
   rw [sv,dO];have k1:bH H (upd H gh (.lst ((hs++[h]).map V.ref))):=fun b o e=>(ai (ah e hgh)).trans e
   generalize hH1:upd H gh (.lst ((hs++[h]).map V.ref))=H1 at k1;have hgh1:H1 gh=some (.lst ((hs++[h]).map V.ref)):=by rw [←hH1,aA]
   refine ⟨_,rfl,y,CT,dy,_,_,rfl,k1 _ _ hy,TD.cT,TD.nNa,rfl,_,rfl,x,CT,dx,_,rfl,k1 _ _ hx,TD.cT,TD.nNa,(by show 5<1000;decide),?_⟩
   generalize hH2:upd H1 x _=H2;have hx2:H2 x=some (.ins CT dx (nf kx ny rx lenx lx)):=by rw [←hH2,aA];rfl
   have k2:∀ z o,H1 z=some o→z≠x→H2 z=some o:=fun z o e n=>by rw [←hH2,ai n];exact e
   have k02:∀ z o,H z=some o→z≠x→H2 z=some o:=fun z o e n=>k2 z o (k1 z o e) n
   have ghx:gh≠x:=fun z=>by rw [z,hx] at hgh;cases hgh
   have hgh2:=k2 _ _ hgh1 ghx
   have hhx:h≠x:=fun z=>nxh (by rw [←z];simp)
   have lhx:lh≠x:=cQ hlh hx (by intro z;cases z)
   have dnx:d≠x:=cQ hd hx (by intro z;cases z)
   have hst2':gq H2 w0 ls:=by
    cases ls with
    | index z=>exact hst
    | name n =>
     obtain ⟨b,e,hb⟩:=hst
     exact ⟨b,e,k02 _ _ hb (hst2 b e)⟩
   have at4:atI ((hs++[h]).map V.ref) (-1)=some (V.ref h):=by rw [aL];exact eC _ _
   refine ⟨_,rfl,_,rfl,_,rfl,gh,_,_,V.ref h,rfl,rfl,SqL.of hgh2,at4,ex5 h CT dh _ _ ⟨rfl,k02 _ _ hh hhx,TD.cT,TD.nMe,rfl,?_⟩⟩
   refine ⟨_,rfl,_,rfl,gh,_,_,V.ref h,rfl,rfl,SqL.of hgh2,at4,_,rfl,_,rfl,ex4 d _ _ w0 ⟨rfl,rfl,SqL.of (k02 _ _ hd dnx),jW (k:=1) (by omega) hw0 hw1,?_⟩⟩
   refine ⟨R,h,w0,u,ls,rfl,FM,hR H2 k02,hst2',?_⟩
   have hmoN:mNo u.1 ls=(i:Int):=by unfold mNo;rw [hmo]
   show wM _ (.int (mNo u.1 ls)) _ _ _
   rw [hmoN];refine ex4 lh ms (i:Int) i ⟨rfl,rfl,k02 _ _ hlh lhx,by unfold ixN;rw [if_pos (by omega),if_pos (by omega),cW],?_⟩
   generalize hH3:upd H2 lh (.lst (ms.set i (.ref x)))=H3;have hl3:H3 lh=some (.lst (ms.set i (.ref x))):=by rw [←hH3,aA]
   have k3:∀ z o,H2 z=some o→z≠lh→H3 z=some o:=fun z o e n=>by rw [←hH3,ai n];exact e
   have nins:∀ {z:Addr} {C d:Addr} {fs:List (Str×V)},H z=some (.ins C d fs)→z≠lh:=fun e=>cQ e hlh (by intro z;cases z)
   have xlh:x≠lh:=Ne.symm lhx
   have ghlh:gh≠lh:=fun z=>by rw [z,hlh] at hgh;cases hgh
   refine ⟨_,rfl,_,rfl,ex5 x CT dx _ _ ⟨rfl,k3 _ _ hx2 xlh,TD.cT,TD.nLe,rfl,_,rfl,ex5 y CT dy _ _ ⟨rfl,k3 _ _ (k02 _ _ hy nyx) (nins hy),TD.cT,TD.nLe,rfl,ex2 _ _ ⟨rfl,rfl,gh,a0,hs++[h],lenx - leny,len0,rfl,k3 _ _ hgh2 ghlh,hnd,fun z hz=>?_,h0,⟨d0,k0,n0,r0,l0,k3 _ _ (k02 _ _ ha0 (fun z=>nxh (z▸cN h0))) (nins ha0)⟩,?_⟩⟩⟩⟩
   ·obtain ⟨dz,kz,nz,rz,lenz,lz,e⟩:=hno z hz
    exact ⟨dz,kz,nz,rz,lenz,lz,k3 _ _ (k02 _ _ e (fun y=>nxh (y▸hz))) (nins e)⟩
   ·unfold gO at *
    have kk:∀ z o,upd H x (.ins CT dx (nf kx ny rx lenx lx)) z=some o→z≠lh→H3 z=some o:=fun z o e n=>by
     by_cases zx:z=x
     ·rw [zx,aA] at e;rw [zx,←e];exact k3 _ _ hx2 xlh
     ·rw [ai zx] at e;exact k3 _ _ (k02 z o e zx) n
    by_cases c:16777216<len0+(lenx - leny)
    ·rw [if_pos c] at q ⊢;exact q
    ·rw [if_neg c] at q ⊢;intro H' f1 f2 _
     refine q H' (fun z o e n1 n2=>f1 z o (kk z o e (fun y=>n2 (by rw [y];simp))) n1 (by simp)) (fun z hz dz kz nz rz lenz lz e=>f2 z hz _ _ _ _ _ _ (kk _ _ e (fun y=>?_))) ?_
     ·rw [y,ai lhx,hlh] at e;cases e
     ·refine f1 lh _ hl3 (fun z=>?_) (by simp)
      obtain ⟨dy,ky,ny,ry,leny,ly,e⟩:=hno lh z
      rw [hlh] at e;cases e
theorem kS:∀ (a b:List Sw.Step) (x:Sw.Value×Nat),(Pm.trail x a).length≤a.length→Pm.trail x (a++b)=Pm.trail x a
 | [],b,x,h=>by
  unfold Pm.trail at h;exact absurd h (by simp)
 | t::a,b,x,h=>by
  show Pm.trail x (t::(a++b))=_
  unfold Pm.trail at h ⊢;cases e:Pm.go x t with
  | none=>rfl
  | some z =>
   rw [e] at h;have h:(Pm.trail z a).length+1≤a.length+1:=h
   show x::Pm.trail z (a++b)=x::Pm.trail z a
   rw [kS a b z (by omega)]
theorem tK {v u:Sw.Value} {la:List Sw.Step} {ls:Sw.Step} {p:Nat} (hn:(Pm.trail (v,0) (la++[ls])).length=la.length+1) (hl:(Pm.trail (v,0) (la++[ls])).getLast? = some (u,p)) :
  (Pm.trail (v,0) la).length=la.length+1∧(Pm.trail (v,0) la).getLast? = some (u,p)∧u.memberOf ls=none:=by
 by_cases c:(Pm.trail (v,0) la).length≤la.length
 ·rw [kS la [ls] _ c] at hn;omega
 ·have hle:=Pm.leads_le la v
  have htl:(Pm.trail (v,0) la).length=(v.leads la).length+1:=Pm.trail_len la (v,0)
  have hf:(Pm.trail (v,0) la).length=la.length+1:=by omega
  cases e:(Pm.trail (v,0) la).getLast? with
  | none=>exact absurd (a9.mp e) (Pm.trail_ne _ _)
  | some y =>
   have hs:=Pm.trail_snoc la (v,0) y ls [] hf e
   cases g:Pm.go y ls with
   | none =>
    rw [g] at hs;have hs:Pm.trail (v,0) (la++[ls])=Pm.trail (v,0) la++[]:=hs
    rw [hs,bC,e] at hl;injection hl with hl;rw [hl] at g;exact ⟨hf,by rw [hl],Pm.go_none g⟩
   | some z =>
    rw [g] at hs;have hs:Pm.trail (v,0) (la++[ls])=Pm.trail (v,0) la++Pm.trail z []:=hs
    rw [hs,aa] at hn;have:(Pm.trail z []).length=1:=by unfold Pm.trail;rfl
    omega
def sA (l:List Sw.Step):Prop:=∀ n,Sw.Step.name n∈l→∃ t,t.all Sw.isScalar=true∧n=Sw.utf8 t
def xW (CT CL CV:Addr):Sp:=fun vs H Q E=>∃ (B:Hp) (s:Sh) (v:Sw.Value) (d:Addr) (ws:List V) (l:List Sw.Step) (x:Sh) (w:Sw.Value),vs=[.ref s.a,.ref d,.ref x.a,.int (w.deep:Int)]∧j4 CT B H s v∧B d=some (.lst ws)∧du B ws l∧l.length≤65536∧sA l∧XOk CT B H s x w∧w.enc.length≤16777216∧Chg CT CL CV B v l (.put w) Q E
theorem yB {u:Sw.Value} {st:Sw.Step} {n:Nat} (x:Sw.Value) (hn:(Pm.rowOf u).length=n) (hok:∀ k,st = .name k→∃ t,t.all Sw.isScalar=true∧k=Sw.utf8 t) (hm:u.memberOf st=none) (h:jI u.kind n st=false):u.done st (.put x)=none:=by
 cases u with
 | list m =>
  have hn:m.length=n:=hn
  cases st with
  | index z =>
   have h:=of_decide_eq_false (show decide (5=5∧z=(n:Int))=false from h)
   have hm:(if 0≤z∧z<(m.length:Int) then some z.toNat else none)=none:=hm
   show (if 0≤z∧z<(m.length:Int) then some (Sw.Value.list (m.set z.toNat x)) else if z=(m.length:Int) then some (Sw.Value.list (m.insert m.length x)) else none)=none
   rw [if_neg (fun y=>by rw [if_pos y] at hm;cases hm),if_neg (fun y=>h ⟨rfl,by rw [←hn];exact y⟩)]
  | name k=>rfl
 | rec_ m =>
  cases st with
  | index z=>rfl
  | name k =>
   obtain ⟨t,ht,rfl⟩:=hok k rfl
   have h:=of_decide_eq_false (show decide (6=6∧1≤(Sw.utf8 t).length∧(Sw.utf8 t).length≤255)=false from h)
   have hm:m.indexOf (Sw.utf8 t)=none:=hm
   show (match m.indexOf (Sw.utf8 t) with
    | some i=>some (Sw.Value.rec_ (m.set i x))
    | none=>if Sw.nameOk (Sw.utf8 t)=true then some (Sw.Value.rec_ (m.under (Sw.utf8 t) x)) else none)=none
   rw [hm];show (if Sw.nameOk (Sw.utf8 t)=true then some (Sw.Value.rec_ (m.under (Sw.utf8 t) x)) else none)=none
   rw [Pm.name_ok ht,if_neg];rw [aC,bo,bo];exact fun y=>h ⟨rfl,y⟩
 | _=>cases st<;>rfl
theorem ql {u:Sw.Value} (h:Pm.isHold u) {r1 r2:Sw.Row} {n:List UInt8} {w0:Sw.Value} (er:Pm.rowOf u=Pm.rapp r1 (.cons n w0 r2)) (x:Sw.Value):u.with_ r1.length x=Pm.withRow u (Pm.rapp r1 (.cons n x r2)):=by
 cases u with
 | list m =>
  have er:m=_:=er
  show Sw.Value.list (m.set r1.length x)=Sw.Value.list _
  rw [er,Pm.rapp_set]
 | rec_ m =>
  have er:m=_:=er
  show Sw.Value.rec_ (m.set r1.length x)=Sw.Value.rec_ _
  rw [er,Pm.rapp_set]
 | _=>rcases h with h | h<;>cases h
theorem yt:ba ["top","steps","x","x_depth","trail","leading"] ["top","steps","x","x_depth"] (aQ sPA):=fs_
theorem ok_PA {f fFW fMH fCD fRL fPW:Addr} {fd fdW fdM fdC fdR fdP fdL:FuncData} (F:Fun K "put_at" "put_at" sPA f fd) (TD:TxD K mg CT) (len:mg "len" = none) (uc:f6 K U CL fUL) (mL0:mg "LeadsNowhere" = some (.ref CL))
  (GL:bt P w K mg base CX0 2 fUL fdL ["self","leading"] (iL CL 1 aLN)) (bL:cB K fdL ["self","leading"] [])
  (GF:Co P w K mg base CX0 3 fFW fdW ["whole","steps"] (uu K) "follow")
  (GM:Co P w K mg base CX0 2 fMH fdM ["holder","step"] (xZ K) "may_have")
  (GC:Co P w K mg base (CXF P w) 4 fCD fdC ["steps","x_depth"] (vz CV) "check_depth")
  (GR:Co P w K mg base (CXF P w) 5 fRL fdR ["trail","steps","x"] (xM K CT CV) "replace_last")
  (GP:Co P w K mg base (CXF P w) 6 fPW fdP ["holders","step","x"] (xO K CT CV) "put_new") :
  bt P w K mg base (CXF P w) 7 f fd ["top","steps","x","x_depth"] (xW CT CL CV):=by
 refine okX F yt (fun vs H Q E h=>?_) (fun cdv A outer s H vs Q E hr h=>?_)
 ·obtain ⟨B,s,v,d,ws,l,x,w',rfl,_⟩:=h
  rfl
 ·obtain ⟨B,sh,v,d,ws,l,x,xw,rfl,G,hd,hst,hl,hnk,X,hxl,q⟩:=h
  have hr2:cq 2 _:=hr.mono (by decide)
  have hr3:cq 3 _:=hr.mono (by decide)
  have hr4:cq 4 _:=hr.mono (by decide)
  have hr5:cq 5 _:=hr.mono (by decide)
  refine ⟨_,aq (bb (i:=4) yt.nd rfl (.inl rfl) (bJ GF hr3 rfl cx (ae (pv 0) (ae (pv 1) aD))))
   (aq (bb (i:=5) yt.nd rfl (.inl rfl) (cY gk (bM bW (by rfl) len a7 (ae (pv 4) aD)) aX))
   (aq (ck (bh dR (pv 5) (bM bW (by rfl) len a7 (ae (pv 1) aD)) (bw _))
    (aq (cE (bJ GC hr4 rfl di (ae (pv 1) (ae (pv 3) aD))))
    (aE (br (bJ GR hr5 rfl di (ae (pv 4) (ae (pv 1) (ae (pv 2) aD))))))) bE)
   (aq (ck (PW.pt (kZ (bh iG (pv 5) (cY gk (bM bW (by rfl) len a7 (ae (pv 1) aD)) aX) (bw _)) (jh (mj (mf (bJ GM hr2 rfl cx (ae (dE cg (pv 4) (dY dk aX) (fun _ _=>rfl)) (ae (dE cg (pv 1) (dY dk aX) (fun _ _=>rfl)) aD))))))))
    (aE (ji uc GL bL rfl hr3 cC rfl rfl mL0 (ae (pv 5) aD) (by decide))) bE)
   (aq (cE (bJ GC hr4 rfl di (ae (pv 1) (ae (pv 3) aD))))
   (aE (br (bJ GP hr rfl di (ae (pv 4) (ae (dE cg (pv 1) (dY dk aX) (fun _ _=>rfl)) (ae (pv 2) aD)))))))))),?_⟩
  try dsimp only [cD];have hdH:=G.sb _ _ hd
  refine ⟨_,rfl,_,rfl,ex6 _ sh.a d v ws l ⟨rfl,jQ TD,ex2 sh [] ⟨rfl,G.ok,G.pl⟩,hdH,hst.same G.sb,hl,fun g as H1 k1 hg0 hg htr hlk hm0=>?_⟩⟩
  have hal:=htr.len
  have htl:(Pm.trail (v,0) l).length=(v.leads l).length+1:=Pm.trail_len l (v,0)
  have hle:=Pm.leads_le l v
  have hwl:=hst.len
  have hd1:=k1 _ _ hdH
  have elead:(((as.map V.ref).length:Nat):Int) - 1=(((v.leads l).length:Nat):Int):=by
   rw [au,hal,htl];omega
  have hv64:=G.dp
  refine ⟨_,rfl,ex2 g _ ⟨rfl,.inl (SqL.of hg),ex2 _ _ ⟨rfl,rfl,?_⟩⟩⟩
  refine ⟨_,rfl,_,rfl,ex2 d _ ⟨rfl,.inl (SqL.of hd1),rfl,_,rfl,?_⟩⟩
  show (if decide (V.int ((((as.map V.ref).length:Nat):Int) - 1)=V.int ((ws.length:Nat):Int))=true then _ else _)
  rw [iz,elead,hwl];have hB1:bH B H1:=fun y o e=>k1 _ _ (G.sb y o e)
  obtain ⟨xa,xl,xn,xr,xms⟩:=x
  by_cases c:(Pm.trail (v,0) l).length=l.length+1
  ·rw [ag (show (((v.leads l).length:Nat):Int)=((l.length:Nat):Int) by omega)]
   refine cK ⟨_,rfl,_,rfl,ex3 d ws xw.deep ⟨rfl,hd1,?_⟩⟩
   cases elast:(Pm.trail (v,0) l).getLast? with
   | none=>exact absurd (a9.mp elast) (Pm.trail_ne _ _)
   | some y =>
    obtain ⟨yv,yp⟩:=y
    obtain ⟨w',po1,po2,_⟩:=Pm.put_old xw G.pl G.dp X.pl c elast
    by_cases cd:64<ws.length+xw.deep
    ·rw [if_pos cd];unfold Chg at q;rw [po1] at q;dsimp only at q;rw [po2,af (by omega),fu,if_pos rfl] at q
     exact q
    ·rw [if_neg cd];refine ⟨_,rfl,_,rfl,_,rfl,?_⟩
     rcases bX l with el | ⟨la,ls,el⟩
     ·subst el;have ew:ws=[]:=cy.mp hwl
      subst ew;refine .inl (ex3 g d xa ⟨rfl,hd1,?_⟩)
      unfold Chg at q;have q:(if xw.ok=false then ic E CV [.int (-9)] else ∀ (s':Sh) (H':Hp),j4 CT B H' s' xw→Q (.ref s'.a) H'):=q
      rw [rO X.pl X.dp hxl,if_neg (fun z=>nomatch z)] at q
      exact q (.node xa xl xn xr xms) H1 ⟨hB1,X.ok.same k1,X.nd,X.fz,X.fb,X.pl,X.dp,hxl⟩
     ·rw [bY] at el;subst el;obtain ⟨w0,ew0,hw0,hw1⟩:=iK hst
      obtain ⟨u,p,i,n,t1,t2,t3,t4,t5,t6⟩:=Pm.trail_front c elast
      obtain ⟨t,nmu,hs,rest,restF,put,W⟩:=oh (K:=K) t1 t2 G.ok G.nd
      have hup:=Pm.trail_last_pl G.pl t2
      have hhold:=Pm.memberOf_hold t3
      have hll:as.length=la.length+2:=by rw [hal,c,aa,aP]
      have hway:=W.way (as.take (la.length+1)) (hlk.lk.front t1) (by rw [a6 (by omega)];exact hm0) (by rw [aH];omega)
      have hhl:hs.length=la.length:=by
       have:=congrArg List.length hway
       rw [aH,aa,aP] at this;omega
      obtain ⟨ta,tl,tn,tr,tms⟩:=t
      have hway:as.take (la.length+1)=hs++[ta]:=hway
      have htaA:as[la.length]? = some ta:=by
       have e1:(as.take (la.length+1))[la.length]? = as[la.length]?:=a6 (by omega)
       rw [←e1,hway,←hhl,cw]
      obtain ⟨ya,eya⟩:∃ ya,as[la.length+1]? = some ya:=⟨_,aJ (by omega)⟩
      have has:as=hs++[ta,ya]:=by
       have e1:=cI (la.length+1) as
       rw [hway,bj (by omega),ft (by omega)] at e1
       have e2:as[la.length+1]=ya:=by
        have:=aN.mp eya
        exact this.2
       rw [e2] at e1;rw [←e1];simp
      obtain ⟨hh,k,ma,yy,st,j,x1,x2,x3,x4,x5,x6⟩:=hlk la.length ya eya
      have ehh:hh=ta:=by rw [htaA] at x1;exact (a8 x1).symm
      subst ehh;have eyy:yy=(u,p):=by
       rw [t6,bz (by omega)] at x2
       rw [b9,t1,Nat.add_sub_cancel] at t2;rw [t2] at x2;exact (a8 x2).symm
      subst eyy;have est:st=ls:=by
       rw [cw] at x3;exact (a8 x3).symm
      subst est;have eij:j=i:=by
       have x4:u.memberOf st=some j:=x4
       rw [t3] at x4;exact (a8 x4).symm
      subst eij;have Wok:=W.ok
      cases Wok with
      | mk b1 b2 b3 b4 b5 =>
       rename_i dt
       rw [pY b1 b4 x5] at x6;obtain ⟨sy,esy,hsya⟩:=nQ x6
       obtain ⟨n',w1,r1,r2,f1,f2,f3,f4,f5⟩:=b5.split esy
       obtain ⟨sya,syl,syn,syr,syms⟩:=sy
       have hsya:sya=ya:=hsya
       subst hsya;have hjl:j<tms.length:=(aN.mp esy).1
       have hmemA:∀ y,y∈sh.adr↔y∈rest++(hh::tl::Sh.adrs tms):=fun y=>W.adr.mem_iff
       have hmemF:∀ y,y∈sh.frz↔y∈restF++(tn::tr::Sh.frzs tms):=fun y=>W.frz.mem_iff
       have htlA:tl∈sh.adr:=(hmemA tl).mpr (by simp)
       have hhs:∀ y∈hs++[hh],y∈sh.adr:=fun y hy=>by
        rcases aF.mp hy with hy | hy
        ·exact (hmemA y).mpr (az _ (W.inR y hy))
        ·rw [aG.mp hy];exact (hmemA hh).mpr (by simp)
       have eA:Sh.adrs tms=Sh.adrs (tms.take j)++((Sh.node sya syl syn syr syms).adr++Sh.adrs (tms.drop (j+1))):=by
        conv=>lhs;rw [nR esy,dq]
        rfl
       have eF:Sh.frzs tms=Sh.frzs (tms.take j)++((Sh.node sya syl syn syr syms).frz++Sh.frzs (tms.drop (j+1))):=by
        conv=>lhs;rw [nR esy,cZ]
        rfl
       have hsyA:sya∈sh.adr:=(hmemA sya).mpr (by
        refine ak _ (ax _ (ax _ ?_))
        rw [eA];refine ak _ (az _ ?_)
        unfold Sh.adr;simp)
       have hsyF:syn∈sh.frz:=(hmemF syn).mpr (by
        refine ak _ (ax _ (ax _ ?_))
        rw [eF];refine ak _ (az _ ?_)
        unfold Sh.frz;simp)
       have hxaX:xa∈(Sh.node xa xl xn xr xms).adr:=by unfold Sh.adr;simp
       have xnot:∀ y∈sh.adr,y≠xa:=fun y hy z=>(X.ap xa hxaX).1 (z▸hy)
       have xnotF:∀ y∈sh.frz,y≠xa:=fun y hy z=>(X.ap xa hxaX).2 (z▸hy)
       have f4':=f4
       cases f4 with
       | mk y1 y2 y3 y4 y5 =>
        rename_i yd
        have Xok:=X.ok
        cases Xok with
        | mk z1 z2 z3 z4 z5 =>
         rename_i xd
         obtain ⟨d0,n0,r0,l0,ha0⟩:=G.ok.node
         have dtl:d≠tl:=fun z=>by rw [z,G.fb tl htlA] at hd;cases hd
         refine .inr ⟨g,d,xa,sya,hh,sh.a,xd,xn,xr,xl,yd,syn,syr,syl,dt,tn,tr,tl,xw.kind,w1.kind,u.kind,j,_,_,_,(v.enc.length:Int),hs,ws,_,w0,_,(u,p),st,rfl,by rw [hg,has],hd1,ew0,hw1,k1 _ _ z1,k1 _ _ y1,xnot _ hsyA,fun z=>xnot _ (hhs _ z) rfl,W.ndt G.nd,fun y hy=>?_,?_,⟨d0,_,n0,r0,l0,k1 _ _ ha0⟩,k1 _ _ b1,k1 _ _ b4,by rw [au];exact hjl,dtl,jQ TD,fun H2 hk2=>?_,(hw0.same G.sb).same k1,fun b eb z=>?_,t3,?_⟩
         ·obtain ⟨dz,kz,nz,rz,lenz,lz,e⟩:=W.nodesAt y hy
          exact ⟨dz,kz,nz,rz,lenz,lz,k1 _ _ e⟩
         ·rw [←hway,a6 (by omega)]
          exact hm0
         ·refine ⟨.node hh tl tn tr tms,nmu,rfl,W.ok.keep (fun y hy o e=>hk2 y o (k1 _ _ e) (xnot y ((hmemA y).mpr (ak _ hy)))) (fun y hy o e=>hk2 y o (k1 _ _ e) (xnotF y ((hmemF y).mpr (ak _ hy)))),hup⟩
         ·subst eb;cases st with
          | index _=>cases hw0
          | name m =>
           obtain ⟨b',eb',hb'⟩:=hw0
           injection eb' with eb'
           subst eb'
           rw [z,X.fb xa hxaX] at hb'
           cases hb'
         ·have hwr:=ql hhold f1 xw
          rw [f2] at hwr;have hmemW:u.member j=some (n',w1):=by
           have z2:=Pm.rapp_get r1 (.cons n' w1 r2) 0
           rw [fk,f2,←f1] at z2;rw [Pm.member_eq];exact z2
          have hlen:((Pm.withRow u (Pm.rapp r1 (.cons n' xw r2))).enc.length:Int)=(u.enc.length:Int)+((xw.enc.length:Int) - (w1.enc.length:Int)):=by
           rw [←hwr];obtain ⟨pre,post,q1,_,q3⟩:=Pm.with_enc hmemW
           rw [q3,q1];simp only [aa];omega
          have hset:(tms.map fun s=>V.ref s.a).set j (V.ref xa)=(tms.take j++(Sh.node xa xl syn xr xms)::tms.drop (j+1)).map fun s=>V.ref s.a:=by
           rw [List.set_eq_take_append_cons_drop,if_pos (by rw [au];exact hjl),aL,aY,fL,gR]
           rfl
          rw [hset];have hda:v.doneAt (la++[st]) (.put xw)=some (Pm.repl v la (Pm.withRow u (Pm.rapp r1 (.cons n' xw r2)))):=by
           rw [Pm.doneAt_snoc la v 0 u p st _ t1 t2,Pm.done_put t3,hwr];rfl
          rw [po1] at hda;have ew':=a8 hda
          have hpl2:(Pm.repl v la (Pm.withRow u (Pm.rapp r1 (.cons n' xw r2)))).plain=true:=by
           rw [←hwr];exact Pm.repl_plain la v _ G.pl (Pm.with_plain hup X.pl)
          obtain ⟨rd1,rd2,rd3⟩:=Pm.repl_deep la v 0 u p (Pm.withRow u (Pm.rapp r1 (.cons n' xw r2))) t1 t2
          obtain ⟨wd1,wd2,wd3⟩:=Pm.with_deep hmemW xw
          rw [hwr] at wd1 wd2;have hwl':ws.length=la.length+1:=by rw [hwl,aa,aP]
          have hnd2:(rest++(hh::tl::Sh.adrs tms)).Nodup:=W.adr.nodup_iff.mp G.nd
          have hnd3:=bc.mp hnd2
          have hnoA:∀ x∈Sh.adrs tms,x∉hs++[hh]∧x∉[tl]:=fun x hx=>by
           refine ⟨fun z=>?_,fun z=>?_⟩
           ·rcases aF.mp z with z | z
            ·exact hnd3.2.2 x (W.inR x z) x (by simp [hx]) rfl
            ·rw [aG.mp z] at hx;exact (aS.mp hnd3.2.1).1 (ax _ hx)
           ·rw [aG.mp z] at hx;exact (aS.mp (aS.mp hnd3.2.1).2).1 hx
          have kx:∀ y o,H y=some o→y≠xa→upd H1 xa (.ins CT xd (nf xw.kind syn xr (xw.enc.length:Int) xl)) y=some o:=fun y o e n=>(ai n).trans (k1 _ _ e)
          have hx':NdT CT (upd H1 xa (.ins CT xd (nf xw.kind syn xr (xw.enc.length:Int) xl))) (.node xa xl syn xr xms) xw n':=by
           have hnx:=X.nd
           unfold Sh.adr at hnx;rw [aS] at hnx;have kx2:∀ y∈xl::Sh.adrs xms,y≠xa:=fun y hy z=>hnx.1 (z▸hy)
           have kf2:∀ y∈xr::Sh.frzs xms,y≠xa:=fun y hy z=>X.fz y (by unfold Sh.frz;exact ax _ hy) (z▸hxaX)
           refine .mk aA (kx _ _ y2 (xnotF _ hsyF)) ⟨z3.1.imp id fun y=>kx _ _ y (kf2 _ (by simp)),z3.2.elim fun o y=>⟨o,kx _ _ y (kf2 _ (by simp))⟩⟩ (kx _ _ z4 (kx2 _ (by simp))) (z5.keep (fun y hy o e=>kx y o e (kx2 y (by simp [hy]))) fun y hy o e=>kx y o e (kf2 y (by simp [hy])))
          refine oJ (CL:=CL) (xa:=(Sh.node xa xl xn xr xms).adr) (xf:=(Sh.node xa xl syn xr xms).frz) (gone:=(Sh.node sya syl syn syr syms).adr) (tms':=tms.take j++(Sh.node xa xl syn xr xms)::tms.drop (j+1)) (u':=Pm.withRow u (Pm.rapp r1 (.cons n' xw r2))) (l:=la++[st]) (d:=.put xw) G W t1 t2 (fun y o e hy=>kx y o e ?_) hhold (Pm.withRow_kind _ _) hlen (fun H' kk=>?_) ?_ ?_ ?_ ?_ (fun y hy z=>(X.ap y z).2 hy) X.fb (po1.trans (congrArg some ew')) hpl2 (by omega) q
          ·rcases hy with hy | hy
           ·rcases aF.mp hy with hy | hy
            ·exact xnot y hy
            ·exact xnotF y hy
           ·intro z;rw [z,X.fb xa hxaX] at hy;cases hy
          ·rw [Pm.withRow_row hhold];have hkA:∀ x∈Sh.adrs tms,∀ o,H x=some o→H' x=some o:=fun x hx o e=>kk x o (kx x o e (xnot x ((hmemA x).mpr (by simp [hx])))) (hnoA x hx).1 (hnoA x hx).2
           have hkF:∀ x∈Sh.frzs tms,∀ o,H x=some o→H' x=some o:=fun x hx o e=>by
            have hf:=(hmemF x).mpr (by simp [hx])
            exact kk x o (kx x o e (xnotF x hf)) (fun z=>G.fz x hf (hhs x z)) (fun z=>G.fz x hf (by rw [aG.mp z];exact htlA))
           have hxk:NdT CT H' (.node xa xl syn xr xms) xw n':=hx'.keep (fun x hx o e=>kk x o e (fun z=>(X.ap x hx).1 (hhs x z)) (fun z=>(X.ap x hx).1 (by rw [aG.mp z];exact htlA))) (fun x hx o e=>by
            have hx2:x∉sh.adr:=by
             unfold Sh.frz at hx;rcases aB.mp hx with rfl | hx
             ·exact G.fz _ hsyF
             ·exact X.xf x (by unfold Sh.frz;exact ax _ hx)
            exact kk x o e (fun z=>hx2 (hhs x z)) (fun z=>hx2 (by rw [aG.mp z];exact htlA)))
           exact eD.append (f3.keep (fun x hx o e=>hkA x (by rw [eA];exact az _ hx) o e) fun x hx o e=>hkF x (by rw [eF];exact az _ hx) o e) (.cons hxk (f5.keep (fun x hx o e=>hkA x (by rw [eA];exact ak _ (ak _ hx)) o e) fun x hx o e=>hkF x (by rw [eF];exact ak _ (ak _ hx)) o e))
          ·rw [bc];exact ⟨G.nd,X.nd,fun a ha b hb z=>(X.ap b hb).1 (z▸ha)⟩
          ·rw [dq,eA];refine cX.mpr fun x=>?_
           simp only [Sh.adrs,Sh.adr,dw,eP];omega
          ·intro x hx;rw [cZ] at hx;rw [eF];rcases aF.mp hx with hx | hx
           ·exact .inl (az _ hx)
           ·have hx:x∈(Sh.node xa xl syn xr xms).frz++Sh.frzs (tms.drop (j+1)):=hx
            rcases aF.mp hx with hx | hx
            ·exact .inr hx
            ·exact .inl (ak _ (ak _ hx))
          ·intro x hx z;unfold Sh.frz at hx;rcases aB.mp hx with rfl | hx
           ·rcases aF.mp z with z | z
            ·exact G.fz _ hsyF z
            ·exact (X.ap _ z).2 hsyF
           ·have hx:x∈(Sh.node xa xl xn xr xms).frz:=by unfold Sh.frz;exact ax _ hx
            rcases aF.mp z with z | z
            ·exact X.xf x hx z
            ·exact X.fz x hx z
  ·rw [af (show ¬(((v.leads l).length:Nat):Int)=((l.length:Nat):Int) by omega)]
   have bad:v.doneAt l (.put xw)=none→ic E CL [.int (-4),.int (((v.leads l).length:Nat):Int)]:=fun c=>by
    unfold Chg at q;rw [c] at q;exact q
   rcases bX l with el | ⟨la,ls,el⟩
   ·subst el;exact absurd (by unfold Pm.trail;rfl) c
   ·rw [bY] at el;subst el;obtain ⟨w0,ew0,hw0,hw1⟩:=iK hst
    have hwl':ws.length=la.length+1:=by rw [hwl,aa,aP]
    have hla:(la++[ls]).length=la.length+1:=by rw [aa,aP]
    refine cA ⟨_,rfl,_,rfl,ex2 d _ ⟨rfl,.inl (SqL.of hd1),ex2 _ _ ⟨rfl,rfl,ex2 _ _ ⟨rfl,rfl,_,rfl,?_⟩⟩⟩⟩
    show (if decide ((((as.map V.ref).length:Nat):Int) - 1<((ws.length:Nat):Int) - 1)=true then _ else _)
    rw [elead,hwl'];by_cases c2:(v.leads (la++[ls])).length<la.length
    ·rw [ag (show (((v.leads (la++[ls])).length:Nat):Int)<((la.length+1:Nat):Int) - 1 by omega)]
     refine cK ⟨_,rfl,rfl,?_⟩
     show ic E CL [.int (-4),.int ((((as.map V.ref).length:Nat):Int) - 1)]
     rw [elead];exact bad (Pm.doneAt_no la v 0 ls _ (pT (by rw [htl,hla];omega)))
    ·rw [af (show ¬(((v.leads (la++[ls])).length:Nat):Int)<((la.length+1:Nat):Int) - 1 by omega)]
     have hn:(Pm.trail (v,0) (la++[ls])).length=la.length+1:=by rw [hla] at c hle;omega
     cases elast:(Pm.trail (v,0) (la++[ls])).getLast? with
     | none=>exact absurd (a9.mp elast) (Pm.trail_ne _ _)
     | some y =>
      obtain ⟨u,p⟩:=y
      obtain ⟨t1,t2,t3⟩:=tK hn elast
      obtain ⟨t,nmu,hs,rest,restF,put,W⟩:=oh (K:=K) t1 t2 G.ok G.nd
      have hup:=Pm.trail_last_pl G.pl t2
      have hll:as.length=la.length+1:=by rw [hal,hn]
      have hway:=W.way (as.take (la.length+1)) (hlk.lk.front t1) (by rw [a6 (by omega)];exact hm0) (by rw [aH];omega)
      rw [bT (by omega)] at hway
      obtain ⟨ta,tl,tn,tr,tms⟩:=t
      have hway:as=hs++[ta]:=hway
      have hT:=W.ok.holdAt TD
      have htms:tms.length=(Pm.rowOf u).length:=by
       cases W.ok with
       | mk _ _ _ _ h5=>exact h5.len
      have at0:atI ws (-1)=some w0:=jW (k:=1) (by omega) ew0 hw1
      have hgw:H1 g=some (.lst ((hs++[ta]).map V.ref)):=by rw [hg,hway]
      have gtl:g≠tl:=fun z=>by
       cases W.ok with
       | mk _ _ _ h4 _=>rw [z,h4] at hg0;cases hg0
      have h00:(hs++[ta])[0]? = some sh.a:=by rw [←hway];exact hm0
      refine cA ⟨_,rfl,_,rfl,g,_,_,V.ref ta,rfl,rfl,SqL.of hgw,by rw [aL];exact eC _ _,_,rfl,_,rfl,ex4 d _ _ w0 ⟨rfl,rfl,SqL.of hd1,at0,ta,w0,u.kind,_,ls,rfl,hT.same k1,(hw0.same G.sb).same k1,_,rfl,?_⟩⟩
      rw [show (tms.map Sh.a).length=tms.length from au ..];by_cases cm:jI u.kind tms.length ls=true
      ·rw [cm];refine cA ⟨_,rfl,_,rfl,ex3 d ws xw.deep ⟨rfl,hd1,?_⟩⟩
       have key:∃ (n:List UInt8) (r1 r2:Sw.Row),Pm.rowOf u=Pm.rapp r1 r2∧Pm.isHold u∧Pm.nmB (Pm.namedOf u) n=nmR n∧n.length≤1000000∧u.done ls (.put xw)=some (Pm.withRow u (Pm.rapp r1 (.cons n xw r2)))∧(Pm.withRow u (Pm.rapp r1 (.cons n xw r2))).plain=true∧(Pm.withRow u (Pm.rapp r1 (.cons n xw r2))).deep=max u.deep (xw.deep+1) ∧
         ((n=[]∧ls = .index (r1.length:Int))∨(ls = .name n∧u.kind=6∧r1.length=((Pm.rowOf u).names.filter fun y=>Sw.bytesBefore y n).length)):=by
        cases ls with
        | index z =>
         obtain ⟨c5,cz⟩:=of_decide_eq_true cm
         cases u with
         | list m =>
          have hm:tms.length=m.length:=htms
          obtain ⟨p1,p2,_⟩:=Pm.list_put hup X.pl m.length (aK _)
          have ei:m.insert m.length xw=Pm.rapp m (.cons [] xw .nil):=by
           have:=Pm.rapp_insert m .nil xw
           rw [Pm.rapp_nil] at this;exact this
          refine ⟨[],m,.nil,(Pm.rapp_nil m).symm,.inl rfl,rfl,aW _,?_,?_,?_,.inl ⟨rfl,by rw [cz,hm]⟩⟩
          ·show (if 0≤z∧z<(m.length:Int) then some (Sw.Value.list (m.set z.toNat xw)) else if z=(m.length:Int) then some (Sw.Value.list (m.insert m.length xw)) else none)=_
           rw [if_neg (by omega),if_pos (by omega),ei]
           rfl
          ·show (Sw.Value.list (Pm.rapp m (.cons [] xw .nil))).plain=true
           rw [←ei];exact p1
          ·show (Sw.Value.list (Pm.rapp m (.cons [] xw .nil))).deep=_
           rw [←ei];exact p2
         | _=>simp [Sw.Value.kind] at c5
        | name n =>
         obtain ⟨c6,cn1,cn2⟩:=of_decide_eq_true cm
         obtain ⟨tt,htt,rfl⟩:=hnk n (by simp)
         cases u with
         | rec_ m =>
          have hin:m.indexOf (Sw.utf8 tt)=none:=t3
          have hok:Sw.nameOk (Sw.utf8 tt)=true:=by
           rw [Pm.name_ok htt,ag cn1,ag cn2];rfl
          obtain ⟨p1,p2,_⟩:=Pm.rec_put hup X.pl hin hok
          have hcl:=Pm.cntB_le m (Sw.utf8 tt)
          obtain ⟨r1,r2,e1,e2⟩:∃ r1 r2,m=Pm.rapp r1 r2∧r1.length=Pm.cntB m (Sw.utf8 tt):=by
           cases W.ok with
           | mk _ _ _ _ h5 =>
            obtain ⟨r1,r2,e1,e2,_,_⟩:=h5.cut (i:=Pm.cntB m (Sw.utf8 tt)) (by rw [show tms.length=m.length from htms];exact hcl)
            exact ⟨r1,r2,e1,e2⟩
          have eu:m.under (Sw.utf8 tt) xw=Pm.rapp r1 (.cons (Sw.utf8 tt) xw r2):=by
           have h1:=Pm.rec_rising hup
           have h2:=Pm.indexOf_none.mp hin
           rw [e1] at h1 h2 e2 ⊢;exact Pm.under_at r1 r2 _ xw h1 h2 e2.symm
          refine ⟨Sw.utf8 tt,r1,r2,e1,.inr rfl,?_,by omega,?_,?_,?_,.inr ⟨rfl,rfl,e2⟩⟩
          ·show Sw.vary (Sw.utf8 tt).length++Sw.utf8 tt=nmR (Sw.utf8 tt)
           unfold nmR;rw [if_neg (fun z=>by rw [z] at cn1;cases cn1)]
          ·show (match m.indexOf (Sw.utf8 tt) with
            | some i=>some (Sw.Value.rec_ (m.set i xw))
            | none=>if Sw.nameOk (Sw.utf8 tt)=true then some (Sw.Value.rec_ (m.under (Sw.utf8 tt) xw)) else none)=_
           rw [hin];show (if Sw.nameOk (Sw.utf8 tt)=true then some (Sw.Value.rec_ (m.under (Sw.utf8 tt) xw)) else none)=_
           rw [if_pos hok,eu];rfl
          ·show (Sw.Value.rec_ (Pm.rapp r1 (.cons (Sw.utf8 tt) xw r2))).plain=true
           rw [←eu];exact p1
          ·show (Sw.Value.rec_ (Pm.rapp r1 (.cons (Sw.utf8 tt) xw r2))).deep=_
           rw [←eu];exact p2
         | _=>simp [Sw.Value.kind] at c6
       obtain ⟨n,r1,r2,er,hhold,hnm,hnl,hdn,hdp1,hdd,hcase⟩:=key
       have hda:v.doneAt (la++[ls]) (.put xw)=some (Pm.repl v la (Pm.withRow u (Pm.rapp r1 (.cons n xw r2)))):=by
        rw [Pm.doneAt_snoc la v 0 u p ls _ t1 t2,hdn];rfl
       have hpl2:=Pm.repl_plain la v _ G.pl hdp1
       obtain ⟨rd1,rd2,rd3⟩:=Pm.repl_deep la v 0 u p (Pm.withRow u (Pm.rapp r1 (.cons n xw r2))) t1 t2
       by_cases cd:64<ws.length+xw.deep
       ·rw [if_pos cd];unfold Chg at q;rw [hda] at q;dsimp only at q;rw [if_pos (rP hpl2 (by omega))] at q
        exact q
       ·rw [if_neg cd];refine ⟨_,rfl,_,rfl,_,rfl,ex4 d _ _ w0 ⟨rfl,rfl,SqL.of hd1,at0,_,rfl,?_⟩⟩
        rcases hcase with ⟨rfl,rfl⟩ | ⟨rfl,c6,hr1l⟩
        ·have hw0:w0 = .int (r1.length:Int):=hw0
         subst hw0;refine .inl (ex3 g xa r1.length ⟨rfl,?_⟩)
         exact qR (CL:=CL) (l:=la++[.index (r1.length:Int)]) (d:=.put xw) (r1:=r1) (r2:=r2) (n:=[]) (w:=xw) G W t1 t2 hhold (fun y o e _=>k1 _ _ e) hgw gtl h00 (X.ok.same k1) X.nd X.ap (fun y hy=>⟨X.xf y hy,X.fz y hy⟩) X.fb hnl er rfl hnm hda hpl2 (by omega) q
        ·obtain ⟨b,rfl,hb⟩:=hw0
         have hxaX:xa∈(Sh.node xa xl xn xr xms).adr:=by unfold Sh.adr;simp
         have hbx:b≠xa:=fun z=>by rw [z,X.fb xa hxaX] at hb;cases hb
         have Xok:=X.ok
         cases Xok with
         | mk z1 z2 z3 z4 z5 =>
          rename_i xd
          have kx:∀ y o,H1 y=some o→y≠xa→upd H1 xa (.ins CT xd (nf xw.kind b xr (xw.enc.length:Int) xl)) y=some o:=fun y o e n=>(ai n).trans e
          have hmemA:∀ y,y∈sh.adr↔y∈rest++(ta::tl::Sh.adrs tms):=fun y=>W.adr.mem_iff
          have hmemF:∀ y,y∈sh.frz↔y∈restF++(tn::tr::Sh.frzs tms):=fun y=>W.frz.mem_iff
          have xnot:∀ y∈sh.adr,y≠xa:=fun y hy z=>(X.ap xa hxaX).1 (z▸hy)
          have xnotF:∀ y∈sh.frz,y≠xa:=fun y hy z=>(X.ap xa hxaX).2 (z▸hy)
          have hW1:NdT CT (upd H1 xa (.ins CT xd (nf xw.kind b xr (xw.enc.length:Int) xl))) (.node ta tl tn tr tms) u nmu:=W.ok.keep (fun y hy o e=>kx y o (k1 _ _ e) (xnot y ((hmemA y).mpr (ak _ hy)))) (fun y hy o e=>kx y o (k1 _ _ e) (xnotF y ((hmemF y).mpr (ak _ hy))))
          have gx:g≠xa:=fun z=>by rw [z,z1] at hg0;cases hg0
          refine .inr ⟨g,b,xa,xd,xn,xr,xl,ta,xw.kind,u.kind,(xw.enc.length:Int),hs,tms.map Sh.a,(Pm.rowOf u).names,n,rfl,hB1 _ _ hb,k1 _ _ z1,kx _ _ hgw gx,hW1.holdAt TD,?_,?_,kx _ _ (hB1 _ _ hb) hbx,?_⟩
          ·refine ⟨by rw [au,Pm.names_len,htms],fun i a' n2 ea en=>?_⟩
           cases hW1 with
           | mk _ _ _ _ h5 =>
            obtain ⟨s',es,rfl⟩:=nQ ea
            obtain ⟨n3,w3,eg,hn3⟩:=h5.get es
            rw [jH,eg] at en;have en:some n3=some n2:=en
            injection en with en;subst en;cases hn3 with
            | mk g1 g2 g3 g4 g5=>exact ⟨CT,_,_,_,g1,TD.cT,TD.nNa,rfl,g2⟩
          ·cases u with
           | rec_ m=>exact Pm.rec_rising hup
           | _=>simp [Sw.Value.kind] at c6
          ·rw [←hr1l];have hnx:=X.nd
           unfold Sh.adr at hnx;rw [aS] at hnx;have kx2:∀ y∈xl::Sh.adrs xms,y≠xa:=fun y hy z=>hnx.1 (z▸hy)
           have kf2:∀ y∈xr::Sh.frzs xms,y≠xa:=fun y hy z=>X.fz y (by unfold Sh.frz;exact ax _ hy) (z▸hxaX)
           have hx':NdT CT (upd H1 xa (.ins CT xd (nf xw.kind b xr (xw.enc.length:Int) xl))) (.node xa xl b xr xms) xw n :=
            .mk aA (kx _ _ (hB1 _ _ hb) hbx) ⟨z3.1.imp id fun y=>kx _ _ (k1 _ _ y) (kf2 _ (by simp)),z3.2.elim fun o y=>⟨o,kx _ _ (k1 _ _ y) (kf2 _ (by simp))⟩⟩ (kx _ _ (k1 _ _ z4) (kx2 _ (by simp))) (z5.keep (fun y hy o e=>kx y o (k1 _ _ e) (kx2 y (by simp [hy]))) fun y hy o e=>kx y o (k1 _ _ e) (kf2 y (by simp [hy])))
           have hbB:∀ y,B y=none→y≠b:=fun y hy z=>by rw [z,hb] at hy;cases hy
           refine qR (CL:=CL) (l:=la++[.name n]) (d:=.put xw) (r1:=r1) (r2:=r2) (n:=n) (w:=xw) G W t1 t2 hhold (fun y o e hy=>kx y o (k1 _ _ e) ?_) (kx _ _ hgw gx) gtl h00 hx' X.nd X.ap (fun y hy=>?_) X.fb hnl er rfl hnm hda hpl2 (by omega) q
           ·rcases hy with hy | hy
            ·rcases aF.mp hy with hy | hy
             ·exact xnot y hy
             ·exact xnotF y hy
            ·intro z;rw [z,X.fb xa hxaX] at hy;cases hy
           ·unfold Sh.frz at hy;rcases aB.mp hy with rfl | hy
            ·exact ⟨fun z=>hbB _ (G.fb _ z) rfl,fun z=>hbB _ (X.fb _ z) rfl⟩
            ·have hy:y∈(Sh.node xa xl xn xr xms).frz:=by unfold Sh.frz;exact ax _ hy
             exact ⟨X.xf y hy,X.fz y hy⟩
      ·have cm:jI u.kind tms.length ls=false:=by
        cases e:jI u.kind tms.length ls with
        | true=>exact absurd e cm
        | false=>rfl
       rw [cm];refine cK ⟨_,rfl,rfl,?_⟩
       show ic E CL [.int (-4),.int ((((as.map V.ref).length:Nat):Int) - 1)]
       rw [elead];refine bad ?_
       rw [Pm.doneAt_snoc la v 0 u p ls _ t1 t2,yB xw htms.symm (fun k hk=>hnk k (by rw [hk];simp)) t3 cm]
       rfl
theorem mD:∀ {l:List Sw.Value} {r:List Sw.Step},l.mapM Pm.stepV=some r→r.length=l.length∧∀ n,Sw.Step.name n∈r→∃ t,Sw.Value.text t∈l∧n=Sw.utf8 t
 | [],r,h=>by
  have h:some []=some r:=h
  injection h with h;rw [←h];exact ⟨rfl,fun n hn=>by cases hn⟩
 | x::l,r,h=>by
  rw [gy] at h;cases e1:Pm.stepV x with
  | none=>rw [e1] at h;cases h
  | some s =>
   rw [e1] at h;cases e2:l.mapM Pm.stepV with
   | none=>rw [e2] at h;cases h
   | some r' =>
    rw [e2] at h;have h:some (s::r')=some r:=h
    injection h with h;obtain ⟨i1,i2⟩:=mD e2
    rw [←h,aj,aj,i1];refine ⟨rfl,fun n hn=>?_⟩
    rcases aB.mp hn with hn | hn
    ·rw [←hn] at e1;cases x with
     | text t =>
      have e1:some (Sw.Step.name (Sw.utf8 t))=some (Sw.Step.name n):=e1
      injection e1 with e1;injection e1 with e1;exact ⟨t,aR,e1.symm⟩
     | num z =>
      have e1:some (Sw.Step.index z)=some (Sw.Step.name n):=e1
      injection e1 with e1;cases e1
     | _=>cases e1
    ·obtain ⟨t,h1,h2⟩:=i2 n hn
     exact ⟨t,ax _ h1,h2⟩
theorem lQ:∀ {m:Sw.Row} {x:Sw.Value},m.plain=true→x∈Pm.rowVals m→x.plain=true
 | .nil,x,_,h=>by cases h
 | .cons n v r,x,hp,h=>by
  have hp:(v.plain&&r.plain)=true:=hp
  rw [aC] at hp;rcases aB.mp h with rfl | h
  ·exact hp.1
  ·exact lQ hp.2 h
theorem qF {u:Sw.Value} {l:List Sw.Step} (hp:u.plain=true) (h:Sw.pathOf u=some l):l.length≤u.enc.length∧∀ n,Sw.Step.name n∈l→∃ t,t.all Sw.isScalar=true∧n=Sw.utf8 t:=by
 have hk:u.kind=5:=by
  by_cases c:u.kind=5
  ·exact c
  ·rw [nM c] at h;cases h
 have h':=h
 rw [nN hk] at h;obtain ⟨h1,h4⟩:=mD h
 have h2:=l7 (Pm.rowOf u)
 have h3:=Pm.cntV_le u
 rw [←Pm.cnt_row] at h2;refine ⟨by rw [h1,Pm.rowVals_len];omega,fun n hn=>?_⟩
 obtain ⟨t,t1,t2⟩:=h4 n hn
 refine ⟨t,?_,t2⟩
 cases u with
 | list m =>
  have hp:(m.plain&&m.names.all fun (n:Sw.Bytes)=>n==[])=true:=hp
  rw [aC] at hp;exact lQ hp.1 t1
 | _=>cases h'
structure wD (K:Fg_) (mg:Str→Option Value) (CS:Addr):Prop where
 cS:Cls K CS
 nA:cV K CS "action"
 nP:cV K CS "path"
 nT:cV K CS "part"
 mS:mg "Step" = some (.ref CS)
def sf (act:Nat) (d m:Addr):List (Str×V):=[("action",.int (act:Int)),("path",.ref d),("part",.ref m)]
def fR (act:Nat) (w:Sw.Value):Sw.Deed:=if act=2 then .take else if act=1 then .put w else .add w
def xA (CS:Addr):Sp:=fun vs H Q _=>∃ (z dx d m:Addr) (act:Nat),vs=[.ref z,.int (act:Int),.ref d,.ref m]∧H z=some (.ins CS dx [])∧∀ H':Hp,H' z=some (.ins CS dx (sf act d m))→Kp H H' z→Q .non H'
def yc (K:Fg_) (CP CT CS CL CV:Addr):Sp:=fun vs H Q E=>∃ (B:Hp) (sh:Sh) (v:Sw.Value) (a st d m dx:Addr) (bs:List UInt8) (ws:List V) (l:List Sw.Step) (act:Nat) (w:Sw.Value) (p np:Nat) (n:List UInt8),
 vs=[.ref sh.a,.ref a,.ref st]∧j4 CT B H sh v∧SqL K B a (bs.map bv)∧bs.length≤65536∧B st=some (.ins CS dx (sf act d m))∧B d=some (.lst ws)∧du B ws l∧l.length≤65536∧sA l∧Nd CP B bs m w p np n∧w.deep≤64∧Chg CT CL CV B v l (fR act w) Q E
theorem scS0:ba ["self","action","path","part"] ["self","action","path","part"] (aQ vM):=fs_
theorem ok_S0 {f:Addr} {fd:FuncData} (F:Fun K "__init__" "Step.__init__" vM f fd) (T:wD K mg CS):bt P w K mg base CX0 1 f fd ["self","action","path","part"] (xA CS):=by
 refine F.ok scS0 (fun vs H Q E h=>?_) (fun cdv A outer s H vs Q E hr h=>?_)
 ·obtain ⟨z,dx,d,m,act,rfl,_⟩:=h
  rfl
 ·obtain ⟨r,dx,d,m,act,rfl,hm,q⟩:=h
  refine ⟨_,aq (cJ (pv 0) (pv 1) rfl) (aq (cJ (pv 0) (pv 2) rfl) (aE (cJ (pv 0) (pv 3) rfl))),?_⟩
  try dsimp only [cD];refine ⟨_,rfl,_,rfl,r,CS,dx,[],rfl,hm,T.cS,T.nA,(by show 0<1000;decide),?_⟩
  refine ⟨_,rfl,_,rfl,r,CS,dx,_,rfl,aA,T.cS,T.nP,(by show 1<1000;decide),?_⟩
  refine ⟨_,rfl,_,rfl,r,CS,dx,_,rfl,aA,T.cS,T.nT,(by show 2<1000;decide),?_⟩
  exact q _ aA fun b o e n=>by rw [ai n,ai n,ai n];exact e
theorem x_ok {B H H':Hp} {s x:Sh} {v xw:Sw.Value} (G:j4 CT B H s v) (k:bH H H') (n5:NdT CT H' x xw []) (nd:x.adr.Nodup) (f5:∀ y∈x.adr,H y=none) (z5:∀ y∈x.frz,y∉x.adr) (b5:∀ y∈x.frz,H y=none∨∃ o,B y=some o) (hp:xw.plain=true) (hd:xw.deep≤64):j4 CT B H' s v∧XOk CT B H' s x xw:=by
 refine ⟨⟨G.sb.trans k,G.ok.same k,G.nd,G.fz,G.fb,G.pl,G.dp,G.ln⟩,⟨n5,nd,z5,fun y hy=>G.sb.free (f5 y hy),fun y hy=>⟨fun z=>?_,fun z=>?_⟩,fun y hy z=>?_,hp,hd⟩⟩
 ·obtain ⟨o,e⟩:=G.ok.all y z
  rw [f5 y hy] at e;cases e
 ·obtain ⟨o,e⟩:=G.ok.allF y z
  rw [f5 y hy] at e;cases e
 ·rcases b5 y hy with e | ⟨o,e⟩
  ·obtain ⟨o,e'⟩:=G.ok.all y z
   rw [e] at e'
   cases e'
  ·rw [G.fb y z] at e;cases e
theorem scDS:ba ["top","row","step","x"] ["top","row","step"] (aQ sDS):=fs_
theorem ok_DS {f fMK fTA fPA fAA:Addr} {fd fdM fdT fdP fdA:FuncData} (F:Fun K "do_step" "do_step" sDS f fd) (TP:TxP K mg CP) (TS:wD K mg CS) (k1:GI mg "PUT" 1) (k2:GI mg "TAKE" 2)
  (GM:Co P w K mg base CX0 4 fMK fdM ["row","part"] (vv K CP CT) "make_tree")
  (GT:Co P w K mg base (CXF P w) 6 fTA fdT ["top","steps"] (xx CT CL CV) "take_at")
  (GP:Co P w K mg base (CXF P w) 7 fPA fdP ["top","steps","x","x_depth"] (xW CT CL CV) "put_at")
  (GA:Co P w K mg base (CXF P w) 6 fAA fdA ["top","steps","x","x_depth"] (yk CT CL CV) "add_at") :
  bt P w K mg base (CXF P w) 8 f fd ["top","row","step"] (yc K CP CT CS CL CV):=by
 refine okX F scDS (fun vs H Q E h=>?_) (fun cdv A outer s H vs Q E hr h=>?_)
 ·obtain ⟨B,sh,v,a,st,d,m,dx,bs,ws,l,act,xw,p,np,n,rfl,_⟩:=h
  rfl
 ·obtain ⟨B,sh,v,a,st,d,m,dx,bs,ws,l,act,xw,p,np,n,rfl,G,hs,hz,hst,hd,hsv,hl,hnk,nd,hdp,q⟩:=h
  have hr4:cq 4 _:=hr.mono (by decide)
  have hr6:cq 6 _:=hr.mono (by decide)
  refine ⟨_,aq (ck (bh dR (aV (pv 2) rfl) (pgi k2 rfl) (bw _)) (aE (br (bJ GT hr6 rfl di (ae (pv 0) (ae (aV (pv 2) rfl) aD))))) bE)
   (aq (bb (i:=3) scDS.nd rfl (.inl rfl) (bJ GM hr4 rfl cx (ae (pv 1) (ae (aV (pv 2) rfl) aD))))
   (aq (ck (bh dR (aV (pv 2) rfl) (pgi k1 rfl) (bw _)) (aE (br (bJ GP hr rfl di (ae (pv 0) (ae (aV (pv 2) rfl) (ae (pv 3) (ae (aV (aV (pv 2) rfl) rfl) aD))))))) bE)
   (aE (br (bJ GA hr6 rfl di (ae (pv 0) (ae (aV (pv 2) rfl) (ae (pv 3) (ae (aV (aV (pv 2) rfl) rfl) aD))))))))),?_⟩
  try dsimp only [cD];have hst0:=G.sb _ _ hst
  obtain ⟨b,lm,as,dm,hb,h1,_⟩:=nd.pt
  refine ⟨_,rfl,ex5 st CS dx _ _ ⟨rfl,hst0,TS.cS,TS.nA,rfl,rfl,_,rfl,?_⟩⟩
  rw [iz];by_cases c2:act=2
  ·rw [ag (show ((act:Nat):Int)=2 by omega)]
   have e:fR act xw = .take:=if_pos c2
   rw [e] at q;exact cK ⟨_,rfl,_,rfl,ex5 st CS dx _ _ ⟨rfl,hst0,TS.cS,TS.nP,rfl,ex6 B sh v d ws l ⟨rfl,G,hd,hsv,hl,q⟩⟩⟩
  ·rw [af (show ¬((act:Nat):Int)=2 by omega)]
   refine cA ⟨_,rfl,_,rfl,ex5 st CS dx _ _ ⟨rfl,hst0,TS.cS,TS.nT,rfl,ex8 B a m bs xw p np n ⟨rfl,G.sb,hs,hz,nd,fun x H1 g1 g2 g3 g4 g5 g6=>?_⟩⟩⟩
   obtain ⟨G1,X⟩:=x_ok G g1 g2 g3 g4 g5 g6 nd.pl hdp
   have hst1:=G1.sb _ _ hst
   have hm1:=G1.sb _ _ h1
   have hxl:=nd.at_.le
   refine ⟨_,rfl,ex5 st CS dx _ _ ⟨rfl,hst1,TS.cS,TS.nA,rfl,rfl,_,rfl,?_⟩⟩
   rw [iz];by_cases c1:act=1
   ·rw [ag (show ((act:Nat):Int)=1 by omega)]
    have e:fR act xw = .put xw:=(if_neg c2).trans (if_pos c1)
    rw [e] at q;exact cK ⟨_,rfl,_,rfl,ex5 st CS dx _ _ ⟨rfl,hst1,TS.cS,TS.nP,rfl,_,rfl,_,rfl,ex5 st CS dx _ _ ⟨rfl,hst1,TS.cS,TS.nT,rfl,ex5 m CP dm _ _ ⟨rfl,hm1,TP.cP,TP.nDe,rfl,ex8 B sh v d ws l x xw ⟨rfl,G1,hd,hsv,hl,hnk,X,by omega,q⟩⟩⟩⟩⟩
   ·rw [af (show ¬((act:Nat):Int)=1 by omega)]
    have e:fR act xw = .add xw:=(if_neg c2).trans (if_neg c1)
    rw [e] at q;exact cA ⟨_,rfl,_,rfl,ex5 st CS dx _ _ ⟨rfl,hst1,TS.cS,TS.nP,rfl,_,rfl,_,rfl,ex5 st CS dx _ _ ⟨rfl,hst1,TS.cS,TS.nT,rfl,ex5 m CP dm _ _ ⟨rfl,hm1,TP.cP,TP.nDe,rfl,ex8 B sh v d ws l x xw ⟨rfl,G1,hd,hsv,hl,X,q⟩⟩⟩⟩⟩
def tU (act:Nat) (bs cs ds:List UInt8):List Int:=match Sw.decode bs,Sw.decode cs,Sw.decode ds with
 | .ok v,.ok w,.ok x=>qa v w (fR act x)
 | _,_,_=>[-6]
def yg (K:Fg_):Sp:=fun vs H Q _=>∃ (act:Nat) (a:Addr) (bs:List UInt8) (b:Addr) (cs:List UInt8) (c:Addr) (ds:List UInt8),vs=[.int (act:Int),.ref a,.ref b,.ref c]∧SqL K H a (bs.map bv)∧bs.length≤65536∧SqL K H b (cs.map bv)∧cs.length≤65536∧SqL K H c (ds.map bv)∧ds.length≤65536∧∀ (H':Hp) (p:Addr),H' p=some (.lst ((tU act bs cs ds).map V.int))→Q (.ref p) H'
def spP (K:Fg_) (act:Nat):Sp:=fun vs H Q _=>∃ (a:Addr) (bs:List UInt8) (b:Addr) (cs:List UInt8) (c:Addr) (ds:List UInt8),vs=[.ref a,.ref b,.ref c]∧SqL K H a (bs.map bv)∧bs.length≤65536∧SqL K H b (cs.map bv)∧cs.length≤65536∧SqL K H c (ds.map bv)∧ds.length≤65536∧∀ (H':Hp) (p:Addr),H' p=some (.lst ((tU act bs cs ds).map V.int))→Q (.ref p) H'
theorem qW (act:Nat) (w:Sw.Value):Pm.deedL (fR act w)≤w.enc.length+300:=by
 unfold fR;by_cases c:act=2
 ·rw [if_pos c];show 10≤_
  omega
 ·rw [if_neg c];by_cases c:act=1
  ·rw [if_pos c];exact aK _
  ·rw [if_neg c];exact aK _
theorem sW:ba ["action","v","p","x","whole","path_whole","x_whole","step","refusal"] ["action","v","p","x"] (aQ sCW):=fs_
theorem ok_CW {f fRW fDS fRP fMK fTW fS0:Addr} {fd fdW fdD fdP fdM fdT fdS:FuncData} (F:Fun K "change_with" "change_with" sCW f fd) (xc:kN K CF fFI) (mF:mg "Fault" = some (.ref CF)) (mU:mg "Refusal" = some (.ref U))
  (ucN:f6 K U CN fUP) (ucL:f6 K U CL fUL) (ucV:f6 K U CV fUV) (sN:rb K CF U CN) (sL:rb K CF U CL) (sV:rb K CF U CV) (TS:wD K mg CS) (M:Mk K CS fS0)
  (GS:bt P w K mg base CX0 1 fS0 fdS ["self","action","path","part"] (xA CS)) (bS:cB K fdS ["self","action","path","part"] [])
  (GW:Co P w K mg base (CXF P w) 9 fRW fdW ["row"] (xC K CF CP) "read_whole")
  (GP:Co P w K mg base (CXF P w) 5 fRP fdP ["row","whole"] (xF K CP CN) "read_path")
  (GM:Co P w K mg base CX0 4 fMK fdM ["row","part"] (vv K CP CT) "make_tree")
  (GD:Co P w K mg base (CXF P w) 8 fDS fdD ["top","row","step"] (yc K CP CT CS CL CV) "do_step")
  (GR:Co P w K mg base CX0 3 fTW fdT ["top"] (xu CT) "tree_row") :
  bt P w K mg base CX0 10 f fd ["action","v","p","x"] (yg K):=by
 refine F.ok sW (fun vs H Q E h=>?_) (fun cdv A outer s H vs Q E hr h=>?_)
 ·obtain ⟨act,a,bs,b,cs,c,ds,rfl,_⟩:=h
  rfl
 ·obtain ⟨act,a,bs,b,cs,c,ds,rfl,hs,hz,hs2,hz2,hs3,hz3,q⟩:=h
  have hr2:cq 2 _:=hr.mono (by decide)
  have hr3:cq 3 _:=hr.mono (by decide)
  have hr4:cq 4 _:=hr.mono (by decide)
  have hr5:cq 5 _:=hr.mono (by decide)
  have hr8:cq 8 _:=hr.mono (by decide)
  refine ⟨_,aE (vR (U:=U) (i:=8) xc rfl mF rfl mU rfl ⟨outer,rfl⟩ sW.nd rfl rfl
    (fun pn xe E' fl=>aq (bb (i:=4) sW.nd rfl (.inl rfl) (bJ GW hr rfl (gb fl rfl) (ae (pv 1) aD)))
     (aq (bb (i:=5) sW.nd rfl (.inl rfl) (bJ GW hr rfl (gb fl rfl) (ae (pv 2) aD)))
     (aq (bb (i:=6) sW.nd rfl (.inl rfl) (bJ GW hr rfl (gb fl rfl) (ae (pv 3) aD)))
     (aq (bb (i:=7) sW.nd rfl (.inl rfl) (jF M GS hr2 rfl TS.mS bS .nil cx (ae (pv 0) (ae (bJ GP hr5 rfl (gb fl rfl) (ae (pv 2) (ae (pv 5) aD))) (ae (pv 6) aD)))))
     (aE (br (cY yL (dP (ae aX aD)) (bJ GR hr3 rfl cx (ae (bJ GD hr8 rfl (gb fl rfl) (ae (bJ GM hr4 rfl cx (ae (pv 1) (ae (pv 4) aD))) (ae (pv 3) (ae (pv 7) aD)))) aD)))))))))
    (fun v=>aE (br (dP (ae (dY dk aX) aD))))
    (fun v=>aE (br (pe_uf (U:=U) (K:=K) rfl (pv 8) rfl)))),?_⟩
  try dsimp only [cD];have w1:=Pm.whole_rel bs
  have w2:=Pm.whole_rel cs
  have w3:=Pm.whole_rel ds
  unfold tU at q;refine ⟨_,rfl,ex2 a bs ⟨rfl,hs,hz,?_⟩⟩
  cases e1:Sw.decode bs with
  | error e =>
   rw [e1] at w1 q;have w1:Pm.wholeAt bs = .error e:=w1
   rw [w1];intro H' dx hdx
   exact .inl ⟨rfl,_,rfl,(by show 1≤sizeLine;decide),fun p hp=>q _ p aA⟩
  | ok v =>
   rw [e1] at w1 q;obtain ⟨w1,ev,pv1,dv1⟩:=w1
   rw [w1];intro aw H1 tr1 k1;refine ⟨_,rfl,ex2 b cs ⟨rfl,k1.seq hs2,hz2,?_⟩⟩
   cases e2:Sw.decode cs with
   | error e =>
    rw [e2] at w2 q;have w2:Pm.wholeAt cs = .error e:=w2
    rw [w2];intro H' dx hdx
    exact .inl ⟨rfl,_,rfl,(by show 1≤sizeLine;decide),fun p hp=>q _ p aA⟩
   | ok v2 =>
    rw [e2] at w2 q;obtain ⟨w2,ev2,pv2,_⟩:=w2
    rw [w2];intro aw2 H2 tr2 k2;have k12:=k1.trans k2
    refine ⟨_,rfl,ex2 c ds ⟨rfl,k12.seq hs3,hz3,?_⟩⟩
    cases e3:Sw.decode ds with
    | error e =>
     rw [e3] at w3 q;have w3:Pm.wholeAt ds = .error e:=w3
     rw [w3];intro H' dx hdx
     exact .inl ⟨rfl,_,rfl,(by show 1≤sizeLine;decide),fun p hp=>q _ p aA⟩
    | ok x =>
     rw [e3] at w3 q;obtain ⟨w3,ev3,pv3,dv3⟩:=w3
     rw [w3];have q:∀ (H':Hp) (p:Addr),H' p=some (.lst ((qa v v2 (fR act x)).map V.int))→Q (.ref p) H':=q
     unfold qa at q;intro aw3 H3 tr3 k3;have k13:=k12.trans k3
     refine ⟨_,rfl,_,rfl,_,rfl,ex7 b aw2 cs v2 0 0 [] ⟨rfl,k13.seq hs2,hz2,(Nd.whole tr2 ev2 pv2).same k3,?_⟩⟩
     cases e4:Sw.pathOf v2 with
     | none =>
      rw [e4] at q;intro H' dx an hdx han
      refine .inr (ex2 CN dx ⟨rfl,sN,rfl,fun e he=>?_⟩)
      have ne1:dx≠e:=ah hdx he
      have ne2:an≠e:=ah han he
      refine ⟨_,rfl,e,CN,fUP,dx,.ref an,rfl,ucN,aA,(ai ne1).trans hdx,q _ an ?_⟩
      exact (ai ne2).trans han
     | some l =>
      rw [e4] at q;have q:∀ (H':Hp) (p:Addr),H' p=some (.lst ((p9 v l (fR act x)).map V.int))→Q (.ref p) H':=q
      unfold p9 at q;intro D ws H4 k4 hD hDl hst;obtain ⟨hlen,hnm⟩:=qF pv2 e4
      rw [ev2] at hlen;refine ⟨_,rfl,fun z dz nz ndz nedz=>ex5 z dz D aw3 act ⟨rfl,aA,fun H5 hz5 k5=>⟨rfl,?_⟩⟩⟩
      have s5:bH H4 H5:=bH.made nz ndz k5
      have k15:=(k13.trans k4).trans s5
      refine ⟨(by show 1≤sizeLine;decide),fun x0 hx0=>?_⟩
      have k6:bH H5 (upd H5 x0 (.lst [.int 0])):=fun c o e=>(ai (ah e hx0)).trans e
      generalize hB:upd H5 x0 (.lst [V.int 0])=B at k6;have hx0B:B x0=some (.lst [V.int 0]):=by rw [←hB,aA]
      have k16:=k15.trans k6
      have s46:=s5.trans k6
      have ndv:Nd CP B bs aw v 0 0 []:=(Nd.whole tr1 ev pv1).same (((k2.trans k3).trans k4).trans s46)
      have ndx:Nd CP B ds aw3 x 0 0 []:=(Nd.whole tr3 ev3 pv3).same (k4.trans s46)
      have hvl:v.enc.length≤65536:=by rw [ev];exact hz
      have hxl:x.enc.length≤65536:=by rw [ev3];exact hz3
      refine ⟨_,rfl,_,rfl,ex8 B a aw bs v 0 0 [] ⟨rfl,fun _ _ e=>e,k16.seq hs,hz,ndv,fun sh H7 k7 n7 nd7 f7 z7 b7=>?_⟩⟩
      have G7:j4 CT B H7 sh v:=⟨k7,n7,nd7,z7,f7,pv1,dv1,by omega⟩
      refine ⟨_,rfl,_,rfl,B,sh,v,c,z,D,aw3,dz,ds,ws,l,act,x,0,0,[],rfl,G7,k16.seq hs3,hz3,k6 _ _ hz5,s46 _ _ hDl,hst.same s46,by omega,hnm,ndx,dv3,?_⟩
      unfold Chg;cases ed:v.doneAt l (fR act x) with
      | none =>
       rw [ed] at q;intro H' dx an hdx han
       refine .inr (ex2 CL dx ⟨rfl,sL,rfl,fun e he=>?_⟩)
       have ne1:dx≠e:=ah hdx he
       have ne2:an≠e:=ah han he
       refine ⟨_,rfl,e,CL,fUL,dx,.ref an,rfl,ucL,aA,(ai ne1).trans hdx,q _ an ?_⟩
       exact (ai ne2).trans han
      | some v' =>
       rw [ed] at q;dsimp only at q ⊢;by_cases cc:v'.ok=false
       ·rw [if_pos cc] at q ⊢;intro H' dx an hdx han
        refine .inr (ex2 CV dx ⟨rfl,sV,rfl,fun e he=>?_⟩)
        have ne1:dx≠e:=ah hdx he
        have ne2:an≠e:=ah han he
        refine ⟨_,rfl,e,CV,fUV,dx,.ref an,rfl,ucV,aA,(ai ne1).trans hdx,q _ an ?_⟩
        exact (ai ne2).trans han
       ·rw [if_neg cc] at q ⊢;intro s' H8 G8
        have hl':=Pm.doneAt_long pv1 (by omega) ed
        have hdl:=qW act x
        refine ex2 s' v' ⟨rfl,G8.ok,G8.pl,G8.ln,fun y H9 k9 h9=>?_⟩
        refine ex4 x0 y _ _ ⟨rfl,rfl,k9 _ _ (G8.sb _ _ hx0B),h9,by rw [au,sizeLine_eq];show 1+_≤_;omega,fun p hp=>q _ p ?_⟩
        rw [aA];show some (HO.lst (V.int 0::v'.enc.map bv))=some (HO.lst (V.int 0::(dS v'.enc).map V.int))
        rw [jV]
theorem uh (act:Nat) (bs cs ds:List UInt8) (h:bs.length≤65536) (h2:cs.length≤65536) (h3:ds.length≤65536):vf (Values.withThree (ValuesNeutral.text (dS bs)) (ValuesNeutral.text (dS cs)) (ValuesNeutral.text (dS ds)) fun v w x=>Values.ofPath w fun (l:List Sw.Step)=>Values.changed v l (v.doneAt l (fR act x)))=tU act bs cs ds:=by
 rw [kc,kc,kc];unfold Values.withThree tU;rw [if_neg (by show ¬(16777216<bs.length∨16777216<cs.length∨16777216<ds.length);omega)]
 cases e1:Sw.decode bs with
 | error e=>rfl
 | ok v =>
  cases e2:Sw.decode cs with
  | error e=>rfl
  | ok w =>
   cases e3:Sw.decode ds with
   | error e=>rfl
   | ok x=>exact vU v w (fR act x)
theorem scTa1:ba ["v","p","x"] ["v","p","x"] (aQ sAD):=fs_
theorem yN {f fCW:Addr} {fd fdC:FuncData} (F:Fun K "add" "add" sAD f fd) (k1:GI mg "ADD" 3)
  (GC:Co P w K mg base CX0 10 fCW fdC ["action","v","p","x"] (yg K) "change_with") :
  bt P w K mg base CX0 11 f fd ["v","p","x"] (spP K 3):=by
 refine F.ok scTa1 (fun vs H Q E h=>?_) (fun cdv A outer s H vs Q E hr h=>?_)
 ·obtain ⟨a,bs,b,cs,c,ds,rfl,_⟩:=h
  rfl
 ·obtain ⟨a,bs,b,cs,c,ds,rfl,hs,hz,hs2,hz2,hs3,hz3,q⟩:=h
  refine ⟨_,aE (br (bJ GC hr rfl cx (ae (pgi k1 rfl) (ae (pv 0) (ae (pv 1) (ae (pv 2) aD)))))),?_⟩
  try dsimp only [cD]
  exact ⟨_,rfl,_,rfl,_,rfl,ex7 3 a bs b cs c ds ⟨rfl,hs,hz,hs2,hz2,hs3,hz3,q⟩⟩
theorem add_is (bs cs ds:List UInt8) (h:bs.length≤65536) (h2:cs.length≤65536) (h3:ds.length≤65536):PyYqswga.add (dS bs) (dS cs) (dS ds)=tU 3 bs cs ds:=uh 3 bs cs ds h h2 h3
theorem all_mk {P:Program} {w:World} {K:Fg_} {h:Heap} {mg:Str→Option Value} {fa CF CR CP CT CS N:Addr} (X:K.In h) (G:h.Ns mainGlobals mg) (hfa:mg "add" = some (.ref fa))
  {nm q:Str} {bs:List Value} {sn:List Str} {sub:List Value} {ab:Bool} {col:Option Bool} {dd:Option Addr} {k0 k1 k2 k3 k5:Option Value} {oN:Obj}
  {fFI fRI fSB fRB fPB fRV fSL fLS fHS fPS fCU fPN fPR fRN fPI fLM fDP fBM fBP fRW fUI fUP fUL fUV fIB fAO fNO fRP fRS fIN fFW fFM fCB fVR fAB fNI fNW fML fCO fLG fKR fTW fMK fRM fTA fIM fCD fMA fAA fMH fPW fRL fPA fS0 fDS fCW fEN:Addr}
  {odFI anFI odRI anRI odSB anSB odRB anRB odPB anPB odRV anRV odSL anSL odLS anLS odHS anHS odPS anPS odCU anCU odPN anPN odPR anPR odRN anRN odPI anPI odLM anLM odDP anDP odBM anBM odBP anBP odRW anRW odUI anUI odUP anUP odUL anUL odUV anUV odIB anIB odAO anAO odNO anNO odRP anRP odRS anRS odIN anIN odFW anFW odFM anFM odCB anCB odVR anVR odAB anAB odNI anNI odNW anNW odML anML odCO anCO odLG anLG odKR anKR odTW anTW odMK anMK odRM anRM odTA anTA odIM anIM odCD anCD odMA anMA odAA anAA odMH anMH odPW anPW odRL anRL odPA anPA odS0 anS0 odDS anDS odCW anCW odEN anEN:Option Addr}
  {slFI slRI slSB slRB slPB slRV slSL slLS slHS slPS slCU slPN slPR slRN slPI slLM slDP slBM slBP slRW slUI slUP slUL slUV slIB slAO slNO slRP slRS slIN slFW slFM slCB slVR slAB slNI slNW slML slCO slLG slKR slTW slMK slRM slTA slIM slCD slMA slAA slMH slPW slRL slPA slS0 slDS slCW slEN:Array (Option Value)}
  {ocFI kVFI dcFI pmFI cdFI ctFI ocRI kVRI dcRI pmRI cdRI ctRI ocSB kVSB dcSB pmSB cdSB ctSB ocRB kVRB dcRB pmRB cdRB ctRB ocPB kVPB dcPB pmPB cdPB ctPB ocRV kVRV dcRV pmRV cdRV ctRV ocSL kVSL dcSL pmSL cdSL ctSL ocLS kVLS dcLS pmLS cdLS ctLS ocHS kVHS dcHS pmHS cdHS ctHS ocPS kVPS dcPS pmPS cdPS ctPS ocCU kVCU dcCU pmCU cdCU ctCU ocPN kVPN dcPN pmPN cdPN ctPN ocPR kVPR dcPR pmPR cdPR ctPR ocRN kVRN dcRN pmRN cdRN ctRN ocPI kVPI dcPI pmPI cdPI ctPI ocLM kVLM dcLM pmLM cdLM ctLM ocDP kVDP dcDP pmDP cdDP ctDP ocBM kVBM dcBM pmBM cdBM ctBM ocBP kVBP dcBP pmBP cdBP ctBP ocRW kVRW dcRW pmRW cdRW ctRW ocUI kVUI dcUI pmUI cdUI ctUI ocUP kVUP dcUP pmUP cdUP ctUP ocUL kVUL dcUL pmUL cdUL ctUL ocUV kVUV dcUV pmUV cdUV ctUV ocIB kVIB dcIB pmIB cdIB ctIB ocAO kVAO dcAO pmAO cdAO ctAO ocNO kVNO dcNO pmNO cdNO ctNO ocRP kVRP dcRP pmRP cdRP ctRP ocRS kVRS dcRS pmRS cdRS ctRS ocIN kVIN dcIN pmIN cdIN ctIN ocFW kVFW dcFW pmFW cdFW ctFW ocFM kVFM dcFM pmFM cdFM ctFM ocCB kVCB dcCB pmCB cdCB ctCB ocVR kVVR dcVR pmVR cdVR ctVR ocAB kVAB dcAB pmAB cdAB ctAB ocNI kVNI dcNI pmNI cdNI ctNI ocNW kVNW dcNW pmNW cdNW ctNW ocML kVML dcML pmML cdML ctML ocCO kVCO dcCO pmCO cdCO ctCO ocLG kVLG dcLG pmLG cdLG ctLG ocKR kVKR dcKR pmKR cdKR ctKR ocTW kVTW dcTW pmTW cdTW ctTW ocMK kVMK dcMK pmMK cdMK ctMK ocRM kVRM dcRM pmRM cdRM ctRM ocTA kVTA dcTA pmTA cdTA ctTA ocIM kVIM dcIM pmIM cdIM ctIM ocCD kVCD dcCD pmCD cdCD ctCD ocMA kVMA dcMA pmMA cdMA ctMA ocAA kVAA dcAA pmAA cdAA ctAA ocMH kVMH dcMH pmMH cdMH ctMH ocPW kVPW dcPW pmPW cdPW ctPW ocRL kVRL dcRL pmRL cdRL ctRL ocPA kVPA dcPA pmPA cdPA ctPA ocS0 kVS0 dcS0 pmS0 cdS0 ctS0 ocDS kVDS dcDS pmDS cdDS ctDS ocCW kVCW dcCW pmCW cdCW ctCW ocEN kVEN dcEN pmEN cdEN ctEN:Value}
  {tENDS_TOO_SOON tWRONG_VARYING tMOST_VARYING_BYTES tHIGHEST_VARYING tLOWEST_FURTHER tHIGHEST_FURTHER tWRONG_UTF8 tLONGEST_NUMBER tWRONG_NUMBER tTEXT tLONGEST_NAME tWRONG_NAME tNUMBER tBYTES tLIST tRECORD tMOMENT tIDENTITY tLAST_KIND tDEEPEST tMOMENT_LENGTH tIDENTITY_LENGTH tWRONG_KIND tTOO_DEEP tBYTES_BEHIND tNO_MEMBER tLONGEST_VALUE tPUT tTAKE tADD:PySem.Tok}
  {CZ:Addr} {ocU:Value} {odU:Option Addr} {cdU:ClassData} {slU:Array (Option Value)}
  {CN NCN:Addr} {nmCN qCN:Str} {bsCN subCN:List Value} {snCN:List Str} {abCN:Bool} {colCN:Option Bool} {ddCN:Option Addr} {k0CN k1CN k2CN k3CN k5CN:Option Value}
  {CL NCL:Addr} {nmCL qCL:Str} {bsCL subCL:List Value} {snCL:List Str} {abCL:Bool} {colCL:Option Bool} {ddCL:Option Addr} {k0CL k1CL k2CL k3CL k5CL:Option Value}
  {CV NCV:Addr} {nmCV qCV:Str} {bsCV subCV:List Value} {snCV:List Str} {abCV:Bool} {colCV:Option Bool} {ddCV:Option Addr} {k0CV k1CV k2CV k3CV k5CV:Option Value}
  (aCF:PySem.W.nsIn K mainGlobals "Fault" = some (some (.ref CF)))
  (aCR:PySem.W.nsIn K mainGlobals "Reader" = some (some (.ref CR)))
  (aCP:PySem.W.nsIn K mainGlobals "Part" = some (some (.ref CP)))
  (aCT:PySem.W.nsIn K mainGlobals "Node" = some (some (.ref CT)))
  (aCS:PySem.W.nsIn K mainGlobals "Step" = some (some (.ref CS)))
  (lCF:K.lookup CF=some (excClassObj nm q CF N bs bmE true sn sub ab col dd k0 k1 k2 k3 k5 "Exception.__new__"))
  (lN:K.lookup N=some oN)
  (okN:qM oN=true)
  (xI:PySem.W.nsIn K N "__init__" = some (some (.ref fFI)))
  (xS:PySem.W.nsIn K N "__setattr__" = some none)
  (xG:PySem.W.nsIn K N "__getattribute__" = some none)
  (xH:PySem.W.nsIn K N "__getattr__" = some none)
  (xK:PySem.W.nsIn K N "kind" = some none)
  (xP:PySem.W.nsIn K N "place" = some none)
  (kCF:PySem.W.keepIn K (.ref CF)=true)
  (pgCR:PySem.W.plainGet K CR Str.empty=true)
  (hdCR:PySem.W.hasDictIn K CR=true)
  (poCR:PySem.W.plainOver K CR=true)
  (saCR:PySem.W.findIn K (.ref CR) "__setattr__" = some (some (.builtin "object.__setattr__")))
  (mkCR:PySem.W.makesIn K CR=true)
  (kcCR:PySem.W.keepIn K (.ref CR)=true)
  (nCR_row:PySem.W.findIn K (.ref CR) "row" = some none)
  (nCR_place:PySem.W.findIn K (.ref CR) "place" = some none)
  (pgCP:PySem.W.plainGet K CP Str.empty=true)
  (hdCP:PySem.W.hasDictIn K CP=true)
  (poCP:PySem.W.plainOver K CP=true)
  (saCP:PySem.W.findIn K (.ref CP) "__setattr__" = some (some (.builtin "object.__setattr__")))
  (mkCP:PySem.W.makesIn K CP=true)
  (kcCP:PySem.W.keepIn K (.ref CP)=true)
  (nCP_kind:PySem.W.findIn K (.ref CP) "kind" = some none)
  (nCP_place:PySem.W.findIn K (.ref CP) "place" = some none)
  (nCP_inside:PySem.W.findIn K (.ref CP) "inside" = some none)
  (nCP_end:PySem.W.findIn K (.ref CP) "end" = some none)
  (nCP_size:PySem.W.findIn K (.ref CP) "size" = some none)
  (nCP_depth:PySem.W.findIn K (.ref CP) "depth" = some none)
  (nCP_name_place:PySem.W.findIn K (.ref CP) "name_place" = some none)
  (nCP_name:PySem.W.findIn K (.ref CP) "name" = some none)
  (nCP_members:PySem.W.findIn K (.ref CP) "members" = some none)
  (pgCT:PySem.W.plainGet K CT Str.empty=true)
  (hdCT:PySem.W.hasDictIn K CT=true)
  (poCT:PySem.W.plainOver K CT=true)
  (saCT:PySem.W.findIn K (.ref CT) "__setattr__" = some (some (.builtin "object.__setattr__")))
  (mkCT:PySem.W.makesIn K CT=true)
  (kcCT:PySem.W.keepIn K (.ref CT)=true)
  (nCT_kind:PySem.W.findIn K (.ref CT) "kind" = some none)
  (nCT_name:PySem.W.findIn K (.ref CT) "name" = some none)
  (nCT_row:PySem.W.findIn K (.ref CT) "row" = some none)
  (nCT_length:PySem.W.findIn K (.ref CT) "length" = some none)
  (nCT_members:PySem.W.findIn K (.ref CT) "members" = some none)
  (pgCS:PySem.W.plainGet K CS Str.empty=true)
  (hdCS:PySem.W.hasDictIn K CS=true)
  (poCS:PySem.W.plainOver K CS=true)
  (saCS:PySem.W.findIn K (.ref CS) "__setattr__" = some (some (.builtin "object.__setattr__")))
  (mkCS:PySem.W.makesIn K CS=true)
  (kcCS:PySem.W.keepIn K (.ref CS)=true)
  (nCS_action:PySem.W.findIn K (.ref CS) "action" = some none)
  (nCS_path:PySem.W.findIn K (.ref CS) "path" = some none)
  (nCS_part:PySem.W.findIn K (.ref CS) "part" = some none)
  (aU:PySem.W.nsIn K mainGlobals "Refusal" = some (some (.ref CZ)))
  (aCN:PySem.W.nsIn K mainGlobals "NoPath" = some (some (.ref CN)))
  (aCL:PySem.W.nsIn K mainGlobals "LeadsNowhere" = some (some (.ref CL)))
  (aCV:PySem.W.nsIn K mainGlobals "NoValue" = some (some (.ref CV)))
  (iFI:PySem.W.isFn K (.ref fFI)=true)
  (lFI:FnR K fFI ocFI odFI "__init__" "Fault.__init__" sFI kVFI dcFI pmFI anFI cdFI ctFI slFI)
  (cFI:PySem.W.codeIn K cdFI "Fault.__init__" = true)
  (kFI:PySem.W.keepIn K (.ref fFI)=true)
  (aRI:PySem.W.findIn K (.ref CR) "__init__" = some (some (.ref fRI)))
  (iRI:PySem.W.isFn K (.ref fRI)=true)
  (lRI:FnR K fRI ocRI odRI "__init__" "Reader.__init__" sRI kVRI dcRI pmRI anRI cdRI ctRI slRI)
  (cRI:PySem.W.codeIn K cdRI "Reader.__init__" = true)
  (kRI:PySem.W.keepIn K (.ref fRI)=true)
  (aSB:PySem.W.findIn K (.ref CR) "see_byte" = some (some (.ref fSB)))
  (iSB:PySem.W.isFn K (.ref fSB)=true)
  (lSB:FnR K fSB ocSB odSB "see_byte" "Reader.see_byte" sSB kVSB dcSB pmSB anSB cdSB ctSB slSB)
  (cSB:PySem.W.codeIn K cdSB "Reader.see_byte" = true)
  (kSB:PySem.W.keepIn K (.ref fSB)=true)
  (aRB:PySem.W.findIn K (.ref CR) "read_byte" = some (some (.ref fRB)))
  (iRB:PySem.W.isFn K (.ref fRB)=true)
  (lRB:FnR K fRB ocRB odRB "read_byte" "Reader.read_byte" sRB kVRB dcRB pmRB anRB cdRB ctRB slRB)
  (cRB:PySem.W.codeIn K cdRB "Reader.read_byte" = true)
  (kRB:PySem.W.keepIn K (.ref fRB)=true)
  (aPB:PySem.W.findIn K (.ref CR) "pass_bytes" = some (some (.ref fPB)))
  (iPB:PySem.W.isFn K (.ref fPB)=true)
  (lPB:FnR K fPB ocPB odPB "pass_bytes" "Reader.pass_bytes" sPB kVPB dcPB pmPB anPB cdPB ctPB slPB)
  (cPB:PySem.W.codeIn K cdPB "Reader.pass_bytes" = true)
  (kPB:PySem.W.keepIn K (.ref fPB)=true)
  (aRV:PySem.W.findIn K (.ref CR) "read_varying" = some (some (.ref fRV)))
  (iRV:PySem.W.isFn K (.ref fRV)=true)
  (lRV:FnR K fRV ocRV odRV "read_varying" "Reader.read_varying" sRV kVRV dcRV pmRV anRV cdRV ctRV slRV)
  (cRV:PySem.W.codeIn K cdRV "Reader.read_varying" = true)
  (kRV:PySem.W.keepIn K (.ref fRV)=true)
  (aSL:NsR K "scalar_length" fSL)
  (lSL:FnR K fSL ocSL odSL "scalar_length" "scalar_length" sSL kVSL dcSL pmSL anSL cdSL ctSL slSL)
  (cSL:PySem.W.codeIn K cdSL "scalar_length" = true)
  (kSL:PySem.W.keepIn K (.ref fSL)=true)
  (aLS:NsR K "lowest_second" fLS)
  (lLS:FnR K fLS ocLS odLS "lowest_second" "lowest_second" sLS kVLS dcLS pmLS anLS cdLS ctLS slLS)
  (cLS:PySem.W.codeIn K cdLS "lowest_second" = true)
  (kLS:PySem.W.keepIn K (.ref fLS)=true)
  (aHS:NsR K "highest_second" fHS)
  (lHS:FnR K fHS ocHS odHS "highest_second" "highest_second" sHS kVHS dcHS pmHS anHS cdHS ctHS slHS)
  (cHS:PySem.W.codeIn K cdHS "highest_second" = true)
  (kHS:PySem.W.keepIn K (.ref fHS)=true)
  (aPS:NsR K "pass_scalar" fPS)
  (lPS:FnR K fPS ocPS odPS "pass_scalar" "pass_scalar" sPS kVPS dcPS pmPS anPS cdPS ctPS slPS)
  (cPS:PySem.W.codeIn K cdPS "pass_scalar" = true)
  (kPS:PySem.W.keepIn K (.ref fPS)=true)
  (aCU:NsR K "check_utf8" fCU)
  (lCU:FnR K fCU ocCU odCU "check_utf8" "check_utf8" sCU kVCU dcCU pmCU anCU cdCU ctCU slCU)
  (cCU:PySem.W.codeIn K cdCU "check_utf8" = true)
  (kCU:PySem.W.keepIn K (.ref fCU)=true)
  (aPN:NsR K "pass_number" fPN)
  (lPN:FnR K fPN ocPN odPN "pass_number" "pass_number" sPN kVPN dcPN pmPN anPN cdPN ctPN slPN)
  (cPN:PySem.W.codeIn K cdPN "pass_number" = true)
  (kPN:PySem.W.keepIn K (.ref fPN)=true)
  (aPR:NsR K "pass_row" fPR)
  (lPR:FnR K fPR ocPR odPR "pass_row" "pass_row" sPR kVPR dcPR pmPR anPR cdPR ctPR slPR)
  (cPR:PySem.W.codeIn K cdPR "pass_row" = true)
  (kPR:PySem.W.keepIn K (.ref fPR)=true)
  (aRN:NsR K "read_name" fRN)
  (lRN:FnR K fRN ocRN odRN "read_name" "read_name" sRN kVRN dcRN pmRN anRN cdRN ctRN slRN)
  (cRN:PySem.W.codeIn K cdRN "read_name" = true)
  (kRN:PySem.W.keepIn K (.ref fRN)=true)
  (aPI:PySem.W.findIn K (.ref CP) "__init__" = some (some (.ref fPI)))
  (iPI:PySem.W.isFn K (.ref fPI)=true)
  (lPI:FnR K fPI ocPI odPI "__init__" "Part.__init__" sPI kVPI dcPI pmPI anPI cdPI ctPI slPI)
  (cPI:PySem.W.codeIn K cdPI "Part.__init__" = true)
  (kPI:PySem.W.keepIn K (.ref fPI)=true)
  (aLM:NsR K "lacks_members" fLM)
  (lLM:FnR K fLM ocLM odLM "lacks_members" "lacks_members" sLM kVLM dcLM pmLM anLM cdLM ctLM slLM)
  (cLM:PySem.W.codeIn K cdLM "lacks_members" = true)
  (kLM:PySem.W.keepIn K (.ref fLM)=true)
  (aDP:NsR K "deepen" fDP)
  (lDP:FnR K fDP ocDP odDP "deepen" "deepen" sDP kVDP dcDP pmDP anDP cdDP ctDP slDP)
  (cDP:PySem.W.codeIn K cdDP "deepen" = true)
  (kDP:PySem.W.keepIn K (.ref fDP)=true)
  (aBM:NsR K "begin_member" fBM)
  (lBM:FnR K fBM ocBM odBM "begin_member" "begin_member" sBM kVBM dcBM pmBM anBM cdBM ctBM slBM)
  (cBM:PySem.W.codeIn K cdBM "begin_member" = true)
  (kBM:PySem.W.keepIn K (.ref fBM)=true)
  (aBP:NsR K "begin_part" fBP)
  (lBP:FnR K fBP ocBP odBP "begin_part" "begin_part" sBP kVBP dcBP pmBP anBP cdBP ctBP slBP)
  (cBP:PySem.W.codeIn K cdBP "begin_part" = true)
  (kBP:PySem.W.keepIn K (.ref fBP)=true)
  (aRW:NsR K "read_whole" fRW)
  (lRW:FnR K fRW ocRW odRW "read_whole" "read_whole" sRW kVRW dcRW pmRW anRW cdRW ctRW slRW)
  (cRW:PySem.W.codeIn K cdRW "read_whole" = true)
  (kRW:PySem.W.keepIn K (.ref fRW)=true)
  (aUI:PySem.W.findIn K (.ref CZ) "__init__" = some (some (.ref fUI)))
  (iUI:PySem.W.isFn K (.ref fUI)=true)
  (lUI:FnR K fUI ocUI odUI "__init__" "Refusal.__init__" sUI kVUI dcUI pmUI anUI cdUI ctUI slUI)
  (cUI:PySem.W.codeIn K cdUI "Refusal.__init__" = true)
  (kUI:PySem.W.keepIn K (.ref fUI)=true)
  (aUP:PySem.W.findIn K (.ref CN) "__init__" = some (some (.ref fUP)))
  (iUP:PySem.W.isFn K (.ref fUP)=true)
  (lUP:FnR K fUP ocUP odUP "__init__" "NoPath.__init__" sUP kVUP dcUP pmUP anUP cdUP ctUP slUP)
  (cUP:PySem.W.codeIn K cdUP "NoPath.__init__" = true)
  (kUP:PySem.W.keepIn K (.ref fUP)=true)
  (aUL:PySem.W.findIn K (.ref CL) "__init__" = some (some (.ref fUL)))
  (iUL:PySem.W.isFn K (.ref fUL)=true)
  (lUL:FnR K fUL ocUL odUL "__init__" "LeadsNowhere.__init__" sUL kVUL dcUL pmUL anUL cdUL ctUL slUL)
  (cUL:PySem.W.codeIn K cdUL "LeadsNowhere.__init__" = true)
  (kUL:PySem.W.keepIn K (.ref fUL)=true)
  (aUV:PySem.W.findIn K (.ref CV) "__init__" = some (some (.ref fUV)))
  (iUV:PySem.W.isFn K (.ref fUV)=true)
  (lUV:FnR K fUV ocUV odUV "__init__" "NoValue.__init__" sUV kVUV dcUV pmUV anUV cdUV ctUV slUV)
  (cUV:PySem.W.codeIn K cdUV "NoValue.__init__" = true)
  (kUV:PySem.W.keepIn K (.ref fUV)=true)
  (aIB:NsR K "inner_bytes" fIB)
  (lIB:FnR K fIB ocIB odIB "inner_bytes" "inner_bytes" sIB kVIB dcIB pmIB anIB cdIB ctIB slIB)
  (cIB:PySem.W.codeIn K cdIB "inner_bytes" = true)
  (kIB:PySem.W.keepIn K (.ref fIB)=true)
  (aAO:NsR K "amount_of" fAO)
  (lAO:FnR K fAO ocAO odAO "amount_of" "amount_of" sAO kVAO dcAO pmAO anAO cdAO ctAO slAO)
  (cAO:PySem.W.codeIn K cdAO "amount_of" = true)
  (kAO:PySem.W.keepIn K (.ref fAO)=true)
  (aNO:NsR K "number_of" fNO)
  (lNO:FnR K fNO ocNO odNO "number_of" "number_of" sNO kVNO dcNO pmNO anNO cdNO ctNO slNO)
  (cNO:PySem.W.codeIn K cdNO "number_of" = true)
  (kNO:PySem.W.keepIn K (.ref fNO)=true)
  (aRP:NsR K "read_path" fRP)
  (lRP:FnR K fRP ocRP odRP "read_path" "read_path" sRP kVRP dcRP pmRP anRP cdRP ctRP slRP)
  (cRP:PySem.W.codeIn K cdRP "read_path" = true)
  (kRP:PySem.W.keepIn K (.ref fRP)=true)
  (aRS:NsR K "read_step" fRS)
  (lRS:FnR K fRS ocRS odRS "read_step" "read_step" sRS kVRS dcRS pmRS anRS cdRS ctRS slRS)
  (cRS:PySem.W.codeIn K cdRS "read_step" = true)
  (kRS:PySem.W.keepIn K (.ref fRS)=true)
  (aIN:NsR K "is_number" fIN)
  (lIN:FnR K fIN ocIN odIN "is_number" "is_number" sIN kVIN dcIN pmIN anIN cdIN ctIN slIN)
  (cIN:PySem.W.codeIn K cdIN "is_number" = true)
  (kIN:PySem.W.keepIn K (.ref fIN)=true)
  (aFW:NsR K "follow" fFW)
  (lFW:FnR K fFW ocFW odFW "follow" "follow" sFW kVFW dcFW pmFW anFW cdFW ctFW slFW)
  (cFW:PySem.W.codeIn K cdFW "follow" = true)
  (kFW:PySem.W.keepIn K (.ref fFW)=true)
  (aFM:NsR K "find_member" fFM)
  (lFM:FnR K fFM ocFM odFM "find_member" "find_member" sFM kVFM dcFM pmFM anFM cdFM ctFM slFM)
  (cFM:PySem.W.codeIn K cdFM "find_member" = true)
  (kFM:PySem.W.keepIn K (.ref fFM)=true)
  (aCB:NsR K "count_before" fCB)
  (lCB:FnR K fCB ocCB odCB "count_before" "count_before" sCB kVCB dcCB pmCB anCB cdCB ctCB slCB)
  (cCB:PySem.W.codeIn K cdCB "count_before" = true)
  (kCB:PySem.W.keepIn K (.ref fCB)=true)
  (aVR:NsR K "vary_row" fVR)
  (lVR:FnR K fVR ocVR odVR "vary_row" "vary_row" sVR kVVR dcVR pmVR anVR cdVR ctVR slVR)
  (cVR:PySem.W.codeIn K cdVR "vary_row" = true)
  (kVR:PySem.W.keepIn K (.ref fVR)=true)
  (aAB:NsR K "all_bytes" fAB)
  (lAB:FnR K fAB ocAB odAB "all_bytes" "all_bytes" sAB kVAB dcAB pmAB anAB cdAB ctAB slAB)
  (cAB:PySem.W.codeIn K cdAB "all_bytes" = true)
  (kAB:PySem.W.keepIn K (.ref fAB)=true)
  (aNI:PySem.W.findIn K (.ref CT) "__init__" = some (some (.ref fNI)))
  (iNI:PySem.W.isFn K (.ref fNI)=true)
  (lNI:FnR K fNI ocNI odNI "__init__" "Node.__init__" sNI kVNI dcNI pmNI anNI cdNI ctNI slNI)
  (cNI:PySem.W.codeIn K cdNI "Node.__init__" = true)
  (kNI:PySem.W.keepIn K (.ref fNI)=true)
  (aNW:NsR K "name_row" fNW)
  (lNW:FnR K fNW ocNW odNW "name_row" "name_row" sNW kVNW dcNW pmNW anNW cdNW ctNW slNW)
  (cNW:PySem.W.codeIn K cdNW "name_row" = true)
  (kNW:PySem.W.keepIn K (.ref fNW)=true)
  (aML:NsR K "member_length" fML)
  (lML:FnR K fML ocML odML "member_length" "member_length" sML kVML dcML pmML anML cdML ctML slML)
  (cML:PySem.W.codeIn K cdML "member_length" = true)
  (kML:PySem.W.keepIn K (.ref fML)=true)
  (aCO:NsR K "count_length" fCO)
  (lCO:FnR K fCO ocCO odCO "count_length" "count_length" sCO kVCO dcCO pmCO anCO cdCO ctCO slCO)
  (cCO:PySem.W.codeIn K cdCO "count_length" = true)
  (kCO:PySem.W.keepIn K (.ref fCO)=true)
  (aLG:NsR K "lengthen" fLG)
  (lLG:FnR K fLG ocLG odLG "lengthen" "lengthen" sLN kVLG dcLG pmLG anLG cdLG ctLG slLG)
  (cLG:PySem.W.codeIn K cdLG "lengthen" = true)
  (kLG:PySem.W.keepIn K (.ref fLG)=true)
  (aKR:NsR K "counted_row" fKR)
  (lKR:FnR K fKR ocKR odKR "counted_row" "counted_row" sKR kVKR dcKR pmKR anKR cdKR ctKR slKR)
  (cKR:PySem.W.codeIn K cdKR "counted_row" = true)
  (kKR:PySem.W.keepIn K (.ref fKR)=true)
  (aTW:NsR K "tree_row" fTW)
  (lTW:FnR K fTW ocTW odTW "tree_row" "tree_row" sTW kVTW dcTW pmTW anTW cdTW ctTW slTW)
  (cTW:PySem.W.codeIn K cdTW "tree_row" = true)
  (kTW:PySem.W.keepIn K (.ref fTW)=true)
  (aMK:NsR K "make_tree" fMK)
  (lMK:FnR K fMK ocMK odMK "make_tree" "make_tree" sMK kVMK dcMK pmMK anMK cdMK ctMK slMK)
  (cMK:PySem.W.codeIn K cdMK "make_tree" = true)
  (kMK:PySem.W.keepIn K (.ref fMK)=true)
  (aRM:NsR K "remove_member" fRM)
  (lRM:FnR K fRM ocRM odRM "remove_member" "remove_member" sRM kVRM dcRM pmRM anRM cdRM ctRM slRM)
  (cRM:PySem.W.codeIn K cdRM "remove_member" = true)
  (kRM:PySem.W.keepIn K (.ref fRM)=true)
  (aTA:NsR K "take_at" fTA)
  (lTA:FnR K fTA ocTA odTA "take_at" "take_at" sTA kVTA dcTA pmTA anTA cdTA ctTA slTA)
  (cTA:PySem.W.codeIn K cdTA "take_at" = true)
  (kTA:PySem.W.keepIn K (.ref fTA)=true)
  (aIM:NsR K "insert_member" fIM)
  (lIM:FnR K fIM ocIM odIM "insert_member" "insert_member" sIM kVIM dcIM pmIM anIM cdIM ctIM slIM)
  (cIM:PySem.W.codeIn K cdIM "insert_member" = true)
  (kIM:PySem.W.keepIn K (.ref fIM)=true)
  (aCD:NsR K "check_depth" fCD)
  (lCD:FnR K fCD ocCD odCD "check_depth" "check_depth" sCD kVCD dcCD pmCD anCD cdCD ctCD slCD)
  (cCD:PySem.W.codeIn K cdCD "check_depth" = true)
  (kCD:PySem.W.keepIn K (.ref fCD)=true)
  (aMA:NsR K "may_add" fMA)
  (lMA:FnR K fMA ocMA odMA "may_add" "may_add" sMA kVMA dcMA pmMA anMA cdMA ctMA slMA)
  (cMA:PySem.W.codeIn K cdMA "may_add" = true)
  (kMA:PySem.W.keepIn K (.ref fMA)=true)
  (aAA:NsR K "add_at" fAA)
  (lAA:FnR K fAA ocAA odAA "add_at" "add_at" sAA kVAA dcAA pmAA anAA cdAA ctAA slAA)
  (cAA:PySem.W.codeIn K cdAA "add_at" = true)
  (kAA:PySem.W.keepIn K (.ref fAA)=true)
  (aMH:NsR K "may_have" fMH)
  (lMH:FnR K fMH ocMH odMH "may_have" "may_have" sMH kVMH dcMH pmMH anMH cdMH ctMH slMH)
  (cMH:PySem.W.codeIn K cdMH "may_have" = true)
  (kMH:PySem.W.keepIn K (.ref fMH)=true)
  (aPW:NsR K "put_new" fPW)
  (lPW:FnR K fPW ocPW odPW "put_new" "put_new" sPW kVPW dcPW pmPW anPW cdPW ctPW slPW)
  (cPW:PySem.W.codeIn K cdPW "put_new" = true)
  (kPW:PySem.W.keepIn K (.ref fPW)=true)
  (aRL:NsR K "replace_last" fRL)
  (lRL:FnR K fRL ocRL odRL "replace_last" "replace_last" sRL kVRL dcRL pmRL anRL cdRL ctRL slRL)
  (cRL:PySem.W.codeIn K cdRL "replace_last" = true)
  (kRL:PySem.W.keepIn K (.ref fRL)=true)
  (aPA:NsR K "put_at" fPA)
  (lPA:FnR K fPA ocPA odPA "put_at" "put_at" sPA kVPA dcPA pmPA anPA cdPA ctPA slPA)
  (cPA:PySem.W.codeIn K cdPA "put_at" = true)
  (kPA:PySem.W.keepIn K (.ref fPA)=true)
  (aS0:PySem.W.findIn K (.ref CS) "__init__" = some (some (.ref fS0)))
  (iS0:PySem.W.isFn K (.ref fS0)=true)
  (lS0:FnR K fS0 ocS0 odS0 "__init__" "Step.__init__" vM kVS0 dcS0 pmS0 anS0 cdS0 ctS0 slS0)
  (cS0:PySem.W.codeIn K cdS0 "Step.__init__" = true)
  (kS0:PySem.W.keepIn K (.ref fS0)=true)
  (aDS:NsR K "do_step" fDS)
  (lDS:FnR K fDS ocDS odDS "do_step" "do_step" sDS kVDS dcDS pmDS anDS cdDS ctDS slDS)
  (cDS:PySem.W.codeIn K cdDS "do_step" = true)
  (kDS:PySem.W.keepIn K (.ref fDS)=true)
  (aCW:NsR K "change_with" fCW)
  (lCW:FnR K fCW ocCW odCW "change_with" "change_with" sCW kVCW dcCW pmCW anCW cdCW ctCW slCW)
  (cCW:PySem.W.codeIn K cdCW "change_with" = true)
  (kCW:PySem.W.keepIn K (.ref fCW)=true)
  (aEN:NsR K "add" fEN)
  (lEN:FnR K fEN ocEN odEN "add" "add" sAD kVEN dcEN pmEN anEN cdEN ctEN slEN)
  (cEN:PySem.W.codeIn K cdEN "add" = true)
  (kEN:PySem.W.keepIn K (.ref fEN)=true)
  (gENDS_TOO_SOON:PySem.W.nsIn K mainGlobals "ENDS_TOO_SOON" = some (some (.int (1) tENDS_TOO_SOON)))
  (gWRONG_VARYING:PySem.W.nsIn K mainGlobals "WRONG_VARYING" = some (some (.int (3) tWRONG_VARYING)))
  (gMOST_VARYING_BYTES:PySem.W.nsIn K mainGlobals "MOST_VARYING_BYTES" = some (some (.int (5) tMOST_VARYING_BYTES)))
  (gHIGHEST_VARYING:PySem.W.nsIn K mainGlobals "HIGHEST_VARYING" = some (some (.int (4294967295) tHIGHEST_VARYING)))
  (gLOWEST_FURTHER:PySem.W.nsIn K mainGlobals "LOWEST_FURTHER" = some (some (.int (128) tLOWEST_FURTHER)))
  (gHIGHEST_FURTHER:PySem.W.nsIn K mainGlobals "HIGHEST_FURTHER" = some (some (.int (191) tHIGHEST_FURTHER)))
  (gWRONG_UTF8:PySem.W.nsIn K mainGlobals "WRONG_UTF8" = some (some (.int (5) tWRONG_UTF8)))
  (gLONGEST_NUMBER:PySem.W.nsIn K mainGlobals "LONGEST_NUMBER" = some (some (.int (4096) tLONGEST_NUMBER)))
  (gWRONG_NUMBER:PySem.W.nsIn K mainGlobals "WRONG_NUMBER" = some (some (.int (4) tWRONG_NUMBER)))
  (gTEXT:PySem.W.nsIn K mainGlobals "TEXT" = some (some (.int (4) tTEXT)))
  (gLONGEST_NAME:PySem.W.nsIn K mainGlobals "LONGEST_NAME" = some (some (.int (255) tLONGEST_NAME)))
  (gWRONG_NAME:PySem.W.nsIn K mainGlobals "WRONG_NAME" = some (some (.int (6) tWRONG_NAME)))
  (gNUMBER:PySem.W.nsIn K mainGlobals "NUMBER" = some (some (.int (2) tNUMBER)))
  (gBYTES:PySem.W.nsIn K mainGlobals "BYTES" = some (some (.int (3) tBYTES)))
  (gLIST:PySem.W.nsIn K mainGlobals "LIST" = some (some (.int (5) tLIST)))
  (gRECORD:PySem.W.nsIn K mainGlobals "RECORD" = some (some (.int (6) tRECORD)))
  (gMOMENT:PySem.W.nsIn K mainGlobals "MOMENT" = some (some (.int (7) tMOMENT)))
  (gIDENTITY:PySem.W.nsIn K mainGlobals "IDENTITY" = some (some (.int (8) tIDENTITY)))
  (gLAST_KIND:PySem.W.nsIn K mainGlobals "LAST_KIND" = some (some (.int (8) tLAST_KIND)))
  (gDEEPEST:PySem.W.nsIn K mainGlobals "DEEPEST" = some (some (.int (64) tDEEPEST)))
  (gMOMENT_LENGTH:PySem.W.nsIn K mainGlobals "MOMENT_LENGTH" = some (some (.int (8) tMOMENT_LENGTH)))
  (gIDENTITY_LENGTH:PySem.W.nsIn K mainGlobals "IDENTITY_LENGTH" = some (some (.int (32) tIDENTITY_LENGTH)))
  (gWRONG_KIND:PySem.W.nsIn K mainGlobals "WRONG_KIND" = some (some (.int (2) tWRONG_KIND)))
  (gTOO_DEEP:PySem.W.nsIn K mainGlobals "TOO_DEEP" = some (some (.int (7) tTOO_DEEP)))
  (gBYTES_BEHIND:PySem.W.nsIn K mainGlobals "BYTES_BEHIND" = some (some (.int (8) tBYTES_BEHIND)))
  (gNO_MEMBER:PySem.W.nsIn K mainGlobals "NO_MEMBER" = some (some (.int (-1) tNO_MEMBER)))
  (gLONGEST_VALUE:PySem.W.nsIn K mainGlobals "LONGEST_VALUE" = some (some (.int (16777216) tLONGEST_VALUE)))
  (gPUT:PySem.W.nsIn K mainGlobals "PUT" = some (some (.int (1) tPUT)))
  (gTAKE:PySem.W.nsIn K mainGlobals "TAKE" = some (some (.int (2) tTAKE)))
  (gADD:PySem.W.nsIn K mainGlobals "ADD" = some (some (.int (3) tADD)))
  (zlen:PySem.W.nsIn K mainGlobals "len" = some none)
  (zrange:PySem.W.nsIn K mainGlobals "range" = some none)
  (zmax:PySem.W.nsIn K mainGlobals "max" = some none)
  (zmin:PySem.W.nsIn K mainGlobals "min" = some none)
  (zreversed:PySem.W.nsIn K mainGlobals "reversed" = some none)
  (zisinstance:PySem.W.nsIn K mainGlobals "isinstance" = some none)
  (zint:PySem.W.nsIn K mainGlobals "int" = some none)
  (zlist:PySem.W.nsIn K mainGlobals "list" = some none)
  (lU:K.lookup CZ=some ⟨ocU,odU,.cls cdU,slU⟩)
  (rdU:PySem.W.readsIn K CZ (.type "type")=true)
  (fcU:PySem.W.findCls K (.ref CZ) (.type "type") "__init__" = some (.val (.ref fUI)))
  (sgU:PySem.W.specialIn K (.ref CZ) "__getattribute__" = some (some (.builtin "type.__getattribute__")))
  (sbF:PySem.W.subIn K (.ref CF) (.type "BaseException")=some true)
  (sbU:PySem.W.subIn K (.ref CZ) (.type "BaseException")=some true)
  (tyF:PySem.W.typeIn K (.ref CF)=some (.type "type"))
  (tyU:PySem.W.typeIn K (.ref CZ)=some (.type "type"))
  (lCN:K.lookup CN=some (excClassObj nmCN qCN CN NCN bsCN (bmU CZ) true snCN subCN abCN colCN ddCN k0CN k1CN k2CN k3CN k5CN "Exception.__new__"))
  (kcCN:PySem.W.keepIn K (.ref CN)=true)
  (saCN:PySem.W.findIn K (.ref CN) "__setattr__" = some (some (.builtin "object.__setattr__")))
  (gaCN:PySem.W.findIn K (.ref CN) "__getattribute__" = some (some (.builtin "BaseException.__getattribute__")))
  (grCN:PySem.W.findIn K (.ref CN) "__getattr__" = some none)
  (anCN:PySem.W.findIn K (.ref CN) "answer" = some none)
  (sfCN:PySem.W.subIn K (.ref CN) (.ref CF)=some false)
  (suCN:PySem.W.subIn K (.ref CN) (.ref CZ)=some true)
  (lCL:K.lookup CL=some (excClassObj nmCL qCL CL NCL bsCL (bmU CZ) true snCL subCL abCL colCL ddCL k0CL k1CL k2CL k3CL k5CL "Exception.__new__"))
  (kcCL:PySem.W.keepIn K (.ref CL)=true)
  (saCL:PySem.W.findIn K (.ref CL) "__setattr__" = some (some (.builtin "object.__setattr__")))
  (gaCL:PySem.W.findIn K (.ref CL) "__getattribute__" = some (some (.builtin "BaseException.__getattribute__")))
  (grCL:PySem.W.findIn K (.ref CL) "__getattr__" = some none)
  (anCL:PySem.W.findIn K (.ref CL) "answer" = some none)
  (sfCL:PySem.W.subIn K (.ref CL) (.ref CF)=some false)
  (suCL:PySem.W.subIn K (.ref CL) (.ref CZ)=some true)
  (lCV:K.lookup CV=some (excClassObj nmCV qCV CV NCV bsCV (bmU CZ) true snCV subCV abCV colCV ddCV k0CV k1CV k2CV k3CV k5CV "Exception.__new__"))
  (kcCV:PySem.W.keepIn K (.ref CV)=true)
  (saCV:PySem.W.findIn K (.ref CV) "__setattr__" = some (some (.builtin "object.__setattr__")))
  (gaCV:PySem.W.findIn K (.ref CV) "__getattribute__" = some (some (.builtin "BaseException.__getattribute__")))
  (grCV:PySem.W.findIn K (.ref CV) "__getattr__" = some none)
  (anCV:PySem.W.findIn K (.ref CV) "answer" = some none)
  (sfCV:PySem.W.subIn K (.ref CV) (.ref CF)=some false)
  (suCV:PySem.W.subIn K (.ref CV) (.ref CZ)=some true)
  : ∃ fd:FuncData,(∀ (s:Shared) (us:List Value),us.length=(["v","p","x"]:List Str).length→BindsTo s fd ⟨us,[]⟩ ((["v","p","x"]:List Str).zip us))∧∀ base:Heap,K.In base→base.Ns mainGlobals mg→bt P w K mg base CX0 11 fa fd ["v","p","x"] (spP K 3):=by
 have e:=hfa.symm.trans (ao X G aEN)
 cases e;have xc:kN K CF fFI:=⟨⟨nm,q,N,bs,sn,sub,ab,col,dd,k0,k1,k2,k3,k5,oN,lCF,lN,okN,xI,xS,xG,xH,xK,xP⟩,iFI,kCF⟩
 have T:TxR K mg CF CR fFI:=⟨xc,⟨pgCR,hdCR,poCR,saCR⟩,nCR_row,nCR_place,ao X G aCF,(bA X G zlen),(bA X G zrange),⟨tENDS_TOO_SOON,ao X G gENDS_TOO_SOON⟩,⟨tWRONG_VARYING,ao X G gWRONG_VARYING⟩,⟨tMOST_VARYING_BYTES,ao X G gMOST_VARYING_BYTES⟩,⟨tHIGHEST_VARYING,ao X G gHIGHEST_VARYING⟩⟩
 have U:TxU mg:=⟨⟨tLOWEST_FURTHER,ao X G gLOWEST_FURTHER⟩,⟨tHIGHEST_FURTHER,ao X G gHIGHEST_FURTHER⟩,⟨tWRONG_UTF8,ao X G gWRONG_UTF8⟩,(bA X G zmin)⟩
 have NN:TxN mg:=⟨⟨tLONGEST_NUMBER,ao X G gLONGEST_NUMBER⟩,⟨tWRONG_NUMBER,ao X G gWRONG_NUMBER⟩,⟨tTEXT,ao X G gTEXT⟩⟩
 have TP:TxP K mg CP:=⟨⟨pgCP,hdCP,poCP,saCP⟩,nCP_kind,nCP_place,nCP_inside,nCP_end,nCP_size,nCP_depth,nCP_name_place,nCP_name,nCP_members,⟨tLONGEST_NAME,ao X G gLONGEST_NAME⟩,⟨tWRONG_NAME,ao X G gWRONG_NAME⟩⟩
 have B:TxB mg CP:=⟨ao X G aCP,(bA X G zmax),⟨tNUMBER,ao X G gNUMBER⟩,⟨tBYTES,ao X G gBYTES⟩,⟨tTEXT,ao X G gTEXT⟩,⟨tLIST,ao X G gLIST⟩,⟨tRECORD,ao X G gRECORD⟩,⟨tMOMENT,ao X G gMOMENT⟩,⟨tIDENTITY,ao X G gIDENTITY⟩,⟨tLAST_KIND,ao X G gLAST_KIND⟩,⟨tDEEPEST,ao X G gDEEPEST⟩,⟨tMOMENT_LENGTH,ao X G gMOMENT_LENGTH⟩,⟨tIDENTITY_LENGTH,ao X G gIDENTITY_LENGTH⟩,⟨tWRONG_KIND,ao X G gWRONG_KIND⟩,⟨tTOO_DEEP,ao X G gTOO_DEEP⟩⟩
 have cU:qj K CZ "__init__" fUI:=⟨rdU,fcU,sgU,kUI⟩
 have mU:=ao X G aU
 have ucCN:f6 K CZ CN fUP:=⟨⟨nmCN,qCN,NCN,bsCN,snCN,subCN,abCN,colCN,ddCN,k0CN,k1CN,k2CN,k3CN,k5CN,lCN⟩,aUP,iUP,kcCN,saCN,gaCN,grCN,anCN⟩
 have sbCN:rb K CF CZ CN:=⟨kI sbF lCF tyF sfCN,kI sbU lU tyU suCN⟩
 have mCN:=ao X G aCN
 have ucCL:f6 K CZ CL fUL:=⟨⟨nmCL,qCL,NCL,bsCL,snCL,subCL,abCL,colCL,ddCL,k0CL,k1CL,k2CL,k3CL,k5CL,lCL⟩,aUL,iUL,kcCL,saCL,gaCL,grCL,anCL⟩
 have sbCL:rb K CF CZ CL:=⟨kI sbF lCF tyF sfCL,kI sbU lU tyU suCL⟩
 have mCL:=ao X G aCL
 have ucCV:f6 K CZ CV fUV:=⟨⟨nmCV,qCV,NCV,bsCV,snCV,subCV,abCV,colCV,ddCV,k0CV,k1CV,k2CV,k3CV,k5CV,lCV⟩,aUV,iUV,kcCV,saCV,gaCV,grCV,anCV⟩
 have sbCV:rb K CF CZ CV:=⟨kI sbF lCF tyF sfCV,kI sbU lU tyU suCV⟩
 have mCV:=ao X G aCV
 have TD:TxD K mg CT:=⟨⟨pgCT,hdCT,poCT,saCT⟩,nCT_kind,nCT_name,nCT_row,nCT_length,nCT_members,ao X G aCT⟩
 have TS:wD K mg CS:=⟨⟨pgCS,hdCS,poCS,saCS⟩,nCS_action,nCS_path,nCS_part,ao X G aCS⟩
 have FFI:=bx (st:=sFI) lFI cFI kFI
 have bFI:=FFI.binds (ps:=["self","kind","place"]) fun _ _ _ _ _ _ us hl=>by obtain ⟨_,_,_,rfl⟩:=L2.J.ln3 hl;rfl
 have FRI:=bx (st:=sRI) lRI cRI kRI
 have bRI:=FRI.binds (ps:=["self","row"]) fun _ _ _ _ _ _ us hl=>by obtain ⟨_,_,rfl⟩:=L2.J.ln2 hl;rfl
 have FSB:=bx (st:=sSB) lSB cSB kSB
 have bSB:=FSB.binds (ps:=["self"]) fun _ _ _ _ _ _ us hl=>by obtain ⟨_,rfl⟩:=L2.J.ln1 hl;rfl
 have FRB:=bx (st:=sRB) lRB cRB kRB
 have bRB:=FRB.binds (ps:=["self"]) fun _ _ _ _ _ _ us hl=>by obtain ⟨_,rfl⟩:=L2.J.ln1 hl;rfl
 have FPB:=bx (st:=sPB) lPB cPB kPB
 have bPB:=FPB.binds (ps:=["self","how_many"]) fun _ _ _ _ _ _ us hl=>by obtain ⟨_,_,rfl⟩:=L2.J.ln2 hl;rfl
 have FRV:=bx (st:=sRV) lRV cRV kRV
 have bRV:=FRV.binds (ps:=["self"]) fun _ _ _ _ _ _ us hl=>by obtain ⟨_,rfl⟩:=L2.J.ln1 hl;rfl
 have FSL:=bx (st:=sSL) lSL cSL kSL
 have bSL:=FSL.binds (ps:=["first"]) fun _ _ _ _ _ _ us hl=>by obtain ⟨_,rfl⟩:=L2.J.ln1 hl;rfl
 have mSL:=ao X G aSL
 have FLS:=bx (st:=sLS) lLS cLS kLS
 have bLS:=FLS.binds (ps:=["first"]) fun _ _ _ _ _ _ us hl=>by obtain ⟨_,rfl⟩:=L2.J.ln1 hl;rfl
 have mLS:=ao X G aLS
 have FHS:=bx (st:=sHS) lHS cHS kHS
 have bHS:=FHS.binds (ps:=["first"]) fun _ _ _ _ _ _ us hl=>by obtain ⟨_,rfl⟩:=L2.J.ln1 hl;rfl
 have mHS:=ao X G aHS
 have FPS:=bx (st:=sPS) lPS cPS kPS
 have bPS:=FPS.binds (ps:=["row","place","end"]) fun _ _ _ _ _ _ us hl=>by obtain ⟨_,_,_,rfl⟩:=L2.J.ln3 hl;rfl
 have mPS:=ao X G aPS
 have FCU:=bx (st:=sCU) lCU cCU kCU
 have bCU:=FCU.binds (ps:=["row","start","end"]) fun _ _ _ _ _ _ us hl=>by obtain ⟨_,_,_,rfl⟩:=L2.J.ln3 hl;rfl
 have mCU:=ao X G aCU
 have FPN:=bx (st:=sPN) lPN cPN kPN
 have bPN:=FPN.binds (ps:=["reader","part"]) fun _ _ _ _ _ _ us hl=>by obtain ⟨_,_,rfl⟩:=L2.J.ln2 hl;rfl
 have mPN:=ao X G aPN
 have FPR:=bx (st:=sPR) lPR cPR kPR
 have bPR:=FPR.binds (ps:=["reader","part"]) fun _ _ _ _ _ _ us hl=>by obtain ⟨_,_,rfl⟩:=L2.J.ln2 hl;rfl
 have mPR:=ao X G aPR
 have FRN:=bx (st:=sRN) lRN cRN kRN
 have bRN:=FRN.binds (ps:=["reader","holder"]) fun _ _ _ _ _ _ us hl=>by obtain ⟨_,_,rfl⟩:=L2.J.ln2 hl;rfl
 have mRN:=ao X G aRN
 have FPI:=bx (st:=sPI) lPI cPI kPI
 have bPI:=FPI.binds (ps:=["self","kind","place"]) fun _ _ _ _ _ _ us hl=>by obtain ⟨_,_,_,rfl⟩:=L2.J.ln3 hl;rfl
 have FLM:=bx (st:=sLM) lLM cLM kLM
 have bLM:=FLM.binds (ps:=["part"]) fun _ _ _ _ _ _ us hl=>by obtain ⟨_,rfl⟩:=L2.J.ln1 hl;rfl
 have mLM:=ao X G aLM
 have FDP:=bx (st:=sDP) lDP cDP kDP
 have bDP:=FDP.binds (ps:=["holder","part"]) fun _ _ _ _ _ _ us hl=>by obtain ⟨_,_,rfl⟩:=L2.J.ln2 hl;rfl
 have mDP:=ao X G aDP
 have FBM:=bx (st:=sBM) lBM cBM kBM
 have bBM:=FBM.binds (ps:=["reader","holder","level"]) fun _ _ _ _ _ _ us hl=>by obtain ⟨_,_,_,rfl⟩:=L2.J.ln3 hl;rfl
 have mBM:=ao X G aBM
 have FBP:=bx (st:=sBP) lBP cBP kBP
 have bBP:=FBP.binds (ps:=["reader","level"]) fun _ _ _ _ _ _ us hl=>by obtain ⟨_,_,rfl⟩:=L2.J.ln2 hl;rfl
 have mBP:=ao X G aBP
 have FRW:=bx (st:=sRW) lRW cRW kRW
 have bRW:=FRW.binds (ps:=["row"]) fun _ _ _ _ _ _ us hl=>by obtain ⟨_,rfl⟩:=L2.J.ln1 hl;rfl
 have mRW:=ao X G aRW
 have FUI:=bx (st:=sUI) lUI cUI kUI
 have bUI:=FUI.binds (ps:=["self","answer"]) fun _ _ _ _ _ _ us hl=>by obtain ⟨_,_,rfl⟩:=L2.J.ln2 hl;rfl
 have FUP:=bx (st:=sUP) lUP cUP kUP
 have bUP:=FUP.binds (ps:=["self"]) fun _ _ _ _ _ _ us hl=>by obtain ⟨_,rfl⟩:=L2.J.ln1 hl;rfl
 have FUL:=bx (st:=sUL) lUL cUL kUL
 have bUL:=FUL.binds (ps:=["self","leading"]) fun _ _ _ _ _ _ us hl=>by obtain ⟨_,_,rfl⟩:=L2.J.ln2 hl;rfl
 have FUV:=bx (st:=sUV) lUV cUV kUV
 have bUV:=FUV.binds (ps:=["self"]) fun _ _ _ _ _ _ us hl=>by obtain ⟨_,rfl⟩:=L2.J.ln1 hl;rfl
 have FIB:=bx (st:=sIB) lIB cIB kIB
 have bIB:=FIB.binds (ps:=["row","part"]) fun _ _ _ _ _ _ us hl=>by obtain ⟨_,_,rfl⟩:=L2.J.ln2 hl;rfl
 have mIB:=ao X G aIB
 have FAO:=bx (st:=sAO) lAO cAO kAO
 have bAO:=FAO.binds (ps:=["row"]) fun _ _ _ _ _ _ us hl=>by obtain ⟨_,rfl⟩:=L2.J.ln1 hl;rfl
 have mAO:=ao X G aAO
 have FNO:=bx (st:=sNO) lNO cNO kNO
 have bNO:=FNO.binds (ps:=["row","part"]) fun _ _ _ _ _ _ us hl=>by obtain ⟨_,_,rfl⟩:=L2.J.ln2 hl;rfl
 have mNO:=ao X G aNO
 have FRP:=bx (st:=sRP) lRP cRP kRP
 have bRP:=FRP.binds (ps:=["row","whole"]) fun _ _ _ _ _ _ us hl=>by obtain ⟨_,_,rfl⟩:=L2.J.ln2 hl;rfl
 have mRP:=ao X G aRP
 have FRS:=bx (st:=sRS) lRS cRS kRS
 have bRS:=FRS.binds (ps:=["row","part"]) fun _ _ _ _ _ _ us hl=>by obtain ⟨_,_,rfl⟩:=L2.J.ln2 hl;rfl
 have mRS:=ao X G aRS
 have FIN:=bx (st:=sIN) lIN cIN kIN
 have bIN:=FIN.binds (ps:=["step"]) fun _ _ _ _ _ _ us hl=>by obtain ⟨_,rfl⟩:=L2.J.ln1 hl;rfl
 have mIN:=ao X G aIN
 have FFW:=bx (st:=sFW) lFW cFW kFW
 have bFW:=FFW.binds (ps:=["whole","steps"]) fun _ _ _ _ _ _ us hl=>by obtain ⟨_,_,rfl⟩:=L2.J.ln2 hl;rfl
 have mFW:=ao X G aFW
 have FFM:=bx (st:=sFM) lFM cFM kFM
 have bFM:=FFM.binds (ps:=["holder","step"]) fun _ _ _ _ _ _ us hl=>by obtain ⟨_,_,rfl⟩:=L2.J.ln2 hl;rfl
 have mFM:=ao X G aFM
 have FCB:=bx (st:=sCB) lCB cCB kCB
 have bCB:=FCB.binds (ps:=["holder","name"]) fun _ _ _ _ _ _ us hl=>by obtain ⟨_,_,rfl⟩:=L2.J.ln2 hl;rfl
 have mCB:=ao X G aCB
 have FVR:=bx (st:=sVR) lVR cVR kVR
 have bVR:=FVR.binds (ps:=["amount"]) fun _ _ _ _ _ _ us hl=>by obtain ⟨_,rfl⟩:=L2.J.ln1 hl;rfl
 have mVR:=ao X G aVR
 have FAB:=bx (st:=sAB) lAB cAB kAB
 have bAB:=FAB.binds (ps:=["row","part"]) fun _ _ _ _ _ _ us hl=>by obtain ⟨_,_,rfl⟩:=L2.J.ln2 hl;rfl
 have mAB:=ao X G aAB
 have FNI:=bx (st:=sNI) lNI cNI kNI
 have bNI:=FNI.binds (ps:=["self","row","part"]) fun _ _ _ _ _ _ us hl=>by obtain ⟨_,_,_,rfl⟩:=L2.J.ln3 hl;rfl
 have FNW:=bx (st:=sNW) lNW cNW kNW
 have bNW:=FNW.binds (ps:=["name"]) fun _ _ _ _ _ _ us hl=>by obtain ⟨_,rfl⟩:=L2.J.ln1 hl;rfl
 have mNW:=ao X G aNW
 have FML:=bx (st:=sML) lML cML kML
 have bML:=FML.binds (ps:=["node"]) fun _ _ _ _ _ _ us hl=>by obtain ⟨_,rfl⟩:=L2.J.ln1 hl;rfl
 have mML:=ao X G aML
 have FCO:=bx (st:=sCO) lCO cCO kCO
 have bCO:=FCO.binds (ps:=["holder"]) fun _ _ _ _ _ _ us hl=>by obtain ⟨_,rfl⟩:=L2.J.ln1 hl;rfl
 have mCO:=ao X G aCO
 have FLG:=bx (st:=sLN) lLG cLG kLG
 have bLG:=FLG.binds (ps:=["holders","grown"]) fun _ _ _ _ _ _ us hl=>by obtain ⟨_,_,rfl⟩:=L2.J.ln2 hl;rfl
 have mLG:=ao X G aLG
 have FKR:=bx (st:=sKR) lKR cKR kKR
 have bKR:=FKR.binds (ps:=["kind","how_many","inner"]) fun _ _ _ _ _ _ us hl=>by obtain ⟨_,_,_,rfl⟩:=L2.J.ln3 hl;rfl
 have mKR:=ao X G aKR
 have FTW:=bx (st:=sTW) lTW cTW kTW
 have bTW:=FTW.binds (ps:=["top"]) fun _ _ _ _ _ _ us hl=>by obtain ⟨_,rfl⟩:=L2.J.ln1 hl;rfl
 have mTW:=ao X G aTW
 have FMK:=bx (st:=sMK) lMK cMK kMK
 have bMK:=FMK.binds (ps:=["row","part"]) fun _ _ _ _ _ _ us hl=>by obtain ⟨_,_,rfl⟩:=L2.J.ln2 hl;rfl
 have mMK:=ao X G aMK
 have FRM:=bx (st:=sRM) lRM cRM kRM
 have bRM:=FRM.binds (ps:=["holders","i"]) fun _ _ _ _ _ _ us hl=>by obtain ⟨_,_,rfl⟩:=L2.J.ln2 hl;rfl
 have mRM:=ao X G aRM
 have FTA:=bx (st:=sTA) lTA cTA kTA
 have bTA:=FTA.binds (ps:=["top","steps"]) fun _ _ _ _ _ _ us hl=>by obtain ⟨_,_,rfl⟩:=L2.J.ln2 hl;rfl
 have mTA:=ao X G aTA
 have FIM:=bx (st:=sIM) lIM cIM kIM
 have bIM:=FIM.binds (ps:=["holders","i","x"]) fun _ _ _ _ _ _ us hl=>by obtain ⟨_,_,_,rfl⟩:=L2.J.ln3 hl;rfl
 have mIM:=ao X G aIM
 have FCD:=bx (st:=sCD) lCD cCD kCD
 have bCD:=FCD.binds (ps:=["steps","x_depth"]) fun _ _ _ _ _ _ us hl=>by obtain ⟨_,_,rfl⟩:=L2.J.ln2 hl;rfl
 have mCD:=ao X G aCD
 have FMA:=bx (st:=sMA) lMA cMA kMA
 have bMA:=FMA.binds (ps:=["holder","step"]) fun _ _ _ _ _ _ us hl=>by obtain ⟨_,_,rfl⟩:=L2.J.ln2 hl;rfl
 have mMA:=ao X G aMA
 have FAA:=bx (st:=sAA) lAA cAA kAA
 have bAA:=FAA.binds (ps:=["top","steps","x","x_depth"]) fun _ _ _ _ _ _ us hl=>by obtain ⟨_,_,_,_,rfl⟩:=L2.J.ln4 hl;rfl
 have mAA:=ao X G aAA
 have FMH:=bx (st:=sMH) lMH cMH kMH
 have bMH:=FMH.binds (ps:=["holder","step"]) fun _ _ _ _ _ _ us hl=>by obtain ⟨_,_,rfl⟩:=L2.J.ln2 hl;rfl
 have mMH:=ao X G aMH
 have FPW:=bx (st:=sPW) lPW cPW kPW
 have bPW:=FPW.binds (ps:=["holders","step","x"]) fun _ _ _ _ _ _ us hl=>by obtain ⟨_,_,_,rfl⟩:=L2.J.ln3 hl;rfl
 have mPW:=ao X G aPW
 have FRL:=bx (st:=sRL) lRL cRL kRL
 have bRL:=FRL.binds (ps:=["trail","steps","x"]) fun _ _ _ _ _ _ us hl=>by obtain ⟨_,_,_,rfl⟩:=L2.J.ln3 hl;rfl
 have mRL:=ao X G aRL
 have FPA:=bx (st:=sPA) lPA cPA kPA
 have bPA:=FPA.binds (ps:=["top","steps","x","x_depth"]) fun _ _ _ _ _ _ us hl=>by obtain ⟨_,_,_,_,rfl⟩:=L2.J.ln4 hl;rfl
 have mPA:=ao X G aPA
 have FS0:=bx (st:=vM) lS0 cS0 kS0
 have bS0:=FS0.binds (ps:=["self","action","path","part"]) fun _ _ _ _ _ _ us hl=>by obtain ⟨_,_,_,_,rfl⟩:=L2.J.ln4 hl;rfl
 have FDS:=bx (st:=sDS) lDS cDS kDS
 have bDS:=FDS.binds (ps:=["top","row","step"]) fun _ _ _ _ _ _ us hl=>by obtain ⟨_,_,_,rfl⟩:=L2.J.ln3 hl;rfl
 have mDS:=ao X G aDS
 have FCW:=bx (st:=sCW) lCW cCW kCW
 have bCW:=FCW.binds (ps:=["action","v","p","x"]) fun _ _ _ _ _ _ us hl=>by obtain ⟨_,_,_,_,rfl⟩:=L2.J.ln4 hl;rfl
 have mCW:=ao X G aCW
 have FEN:=bx (st:=sAD) lEN cEN kEN
 have mEN:=ao X G aEN
 refine ⟨PySem.W.fnOf "add" "add" (ja sAD) (gG sAD) (aQ sAD) .none kVEN dcEN pmEN anEN cdEN ctEN,fun s us hu=>match us,hu with | [_,_,_],_=>.of_eq rfl,fun base _ _=>?_⟩
 have GFI:bt P w K mg base CX0 1 fFI _ ["self","kind","place"] (ki CF):=nO FFI T
 have GSB:bt P w K mg base (CXF P w) 3 fSB _ ["self"] (xy K CF CR):=ok_SB FSB T FFI bFI
 have GRB:bt P w K mg base (CXF P w) 4 fRB _ ["self"] (vq K CF CR):=ok_RB FRB T GSB bSB ⟨aSB,iSB,kSB⟩
 have GPB:bt P w K mg base (CXF P w) 3 fPB _ ["self","how_many"] (xV K CF CR):=ok_PB FPB T FFI bFI
 have GRV:bt P w K mg base (CXF P w) 5 fRV _ ["self"] (xD K CF CR):=ok_RV FRV T FFI bFI GRB bRB ⟨aRB,iRB,kRB⟩
 have GPS:Co P w K mg base (CXF P w) 3 fPS _ ["row","place","end"] (xQ K CF) "pass_scalar":=⟨ok_PS FPS T U FFI bFI FSL bSL mSL FLS bLS mLS FHS bHS mHS,bPS,kPS,mPS⟩
 have GCU:Co P w K mg base (CXF P w) 4 fCU _ ["row","start","end"] (vx K CF) "check_utf8":=⟨ok_CU FCU T U FFI bFI GPS,bCU,kCU,mCU⟩
 have R:vh P w K mg base CF CR fRV fPB fRB _ _ _:=⟨GRV,bRV,⟨aRV,iRV,kRV⟩,GPB,bPB,⟨aPB,iPB,kPB⟩,GRB,bRB,⟨aRB,iRB,kRB⟩⟩
 have GPN:Co P w K mg base (CXF P w) 6 fPN _ ["reader","part"] (xT K CF CR CP) "pass_number":=⟨ok_PN FPN T TP NN GFI bFI R,bPN,kPN,mPN⟩
 have GPR:Co P w K mg base (CXF P w) 6 fPR _ ["reader","part"] (xR K CF CR CP) "pass_row":=⟨ok_PR FPR T TP NN R GCU,bPR,kPR,mPR⟩
 have GRN:Co P w K mg base (CXF P w) 6 fRN _ ["reader","holder"] (xJ K CF CR CP) "read_name":=⟨ok_RN FRN T TP GFI bFI R GCU,bRN,kRN,mRN⟩
 have GPI:bt P w K mg base CX0 1 fPI _ ["self","kind","place"] (xU CP):=ok_PI FPI TP
 have GLM:Co P w K mg base CX0 1 fLM _ ["part"] (x9 CP) "lacks_members":=⟨ok_LM FLM TP B T.len,bLM,kLM,mLM⟩
 have GDP:Co P w K mg base CX0 1 fDP _ ["holder","part"] (yf CP) "deepen":=⟨ok_DP FDP TP B,bDP,kDP,mDP⟩
 have GBP:Co P w K mg base (CXF P w) 7 fBP _ ["reader","level"] (vB K CF CR CP) "begin_part":=⟨ok_BP FBP T TP B GFI bFI R ⟨mkCP,aPI,iPI,kcCP⟩ GPI bPI GPN GPR,bBP,kBP,mBP⟩
 have GBM:Co P w K mg base (CXF P w) 8 fBM _ ["reader","holder","level"] (yh K CF CR CP) "begin_member":=⟨ok_BM FBM T TP B GRN GBP,bBM,kBM,mBM⟩
 have GRI:bt P w K mg base CX0 1 fRI _ ["self","row"] (xN CR):=ok_RI FRI T
 have GRW:Co P w K mg base (CXF P w) 9 fRW _ ["row"] (xC K CF CP) "read_whole":=⟨ok_RW FRW T TP (ao X G aCR) ⟨tBYTES_BEHIND,ao X G gBYTES_BEHIND⟩ GFI bFI ⟨mkCR,aRI,iRI,kcCR⟩ GRI bRI GBP GLM GBM GDP,bRW,kRW,mRW⟩
 have GIB:Co P w K mg base CX0 1 fIB _ ["row","part"] (vw K CP) "inner_bytes":=⟨ok_IB FIB TP,bIB,kIB,mIB⟩
 have GAO:Co P w K mg base CX0 1 fAO _ ["row"] (yi K) "amount_of":=⟨ok_AO FAO (bA X G zreversed),bAO,kAO,mAO⟩
 have GNO:Co P w K mg base CX0 2 fNO _ ["row","part"] (xX K CP) "number_of":=⟨ok_NO FNO TP GIB GAO,bNO,kNO,mNO⟩
 have GUI:bt P w K mg base CX0 1 fUI _ ["self","answer"] (uq K CZ):=ok_UI FUI
 have GUP:bt P w K mg base CX0 2 fUP _ ["self"] (iL CN 0 aNP):=ok_UP FUP ucCN cU mU GUI bUI
 have GUL:bt P w K mg base CX0 2 fUL _ ["self","leading"] (iL CL 1 aLN):=ok_UL FUL ucCL cU mU GUI bUI
 have GIN:Co P w K mg base CX0 1 fIN _ ["step"] (sU) "is_number":=⟨ok_IN FIN (bA X G zisinstance) (bA X G zint),bIN,kIN,mIN⟩
 have GRS:Co P w K mg base (CXF P w) 4 fRS _ ["row","part"] (xE K CP CN) "read_step":=⟨ok_RS FRS TP B ucCN mCN GUP bUP GIB GNO,bRS,kRS,mRS⟩
 have GRP:Co P w K mg base (CXF P w) 5 fRP _ ["row","whole"] (xF K CP CN) "read_path":=⟨ok_RP FRP TP B ucCN mCN GUP bUP GRS,bRP,kRP,mRP⟩
 have GCB:Co P w K mg base CX0 1 fCB _ ["holder","name"] (vA K) "count_before":=⟨ok_CB FCB T.len,bCB,kCB,mCB⟩
 have GFM:Co P w K mg base CX0 2 fFM _ ["holder","step"] (uv K) "find_member":=⟨ok_FM FFM B.k5 B.k6 ⟨tNO_MEMBER,ao X G gNO_MEMBER⟩ T.len GIN GCB,bFM,kFM,mFM⟩
 have GFW:Co P w K mg base CX0 3 fFW _ ["whole","steps"] (uu K) "follow":=⟨ok_FW FFW ⟨tNO_MEMBER,ao X G gNO_MEMBER⟩ GFM,bFW,kFW,mFW⟩
 have GUV:bt P w K mg base CX0 2 fUV _ ["self"] (iL CV 0 aNV):=ok_UV FUV ucCV cU mU GUI bUI
 have GVR:Co P w K mg base CX0 1 fVR _ ["amount"] (uo) "vary_row":=⟨ok_VR FVR,bVR,kVR,mVR⟩
 have GAB:Co P w K mg base CX0 1 fAB _ ["row","part"] (yj K CP) "all_bytes":=⟨ok_AB FAB TP,bAB,kAB,mAB⟩
 have GNI:bt P w K mg base CX0 2 fNI _ ["self","row","part"] (xY K CP CT):=ok_NI FNI TP B TD GAB
 have GNW:Co P w K mg base CX0 2 fNW _ ["name"] (vr) "name_row":=⟨ok_NW FNW T.len GVR,bNW,kNW,mNW⟩
 have GML:Co P w K mg base CX0 3 fML _ ["node"] (vt CT) "member_length":=⟨ok_ML FML TD T.len GNW,bML,kML,mML⟩
 have GCO:Co P w K mg base CX0 2 fCO _ ["holder"] (vy CT) "count_length":=⟨ok_CO FCO TD T.len GVR,bCO,kCO,mCO⟩
 have GLG:Co P w K mg base (CXF P w) 4 fLG _ ["holders","grown"] (ur CT CV) "lengthen":=⟨ok_LN FLG TD ⟨tLONGEST_VALUE,ao X G gLONGEST_VALUE⟩ ucCV mCV GUV bUV,bLG,kLG,mLG⟩
 have GKR:Co P w K mg base CX0 2 fKR _ ["kind","how_many","inner"] (yb K) "counted_row":=⟨ok_KR FKR GVR,bKR,kKR,mKR⟩
 have GTW:Co P w K mg base CX0 3 fTW _ ["top"] (xu CT) "tree_row":=⟨ok_TW FTW TD B.k5 B.k6 T.len (bA X G zlist) (bA X G zreversed) GNW GKR,bTW,kTW,mTW⟩
 have GMK:Co P w K mg base CX0 4 fMK _ ["row","part"] (vv K CP CT) "make_tree":=⟨ok_MK FMK TP TD ⟨mkCT,aNI,iNI,kcCT⟩ GNI bNI,bMK,kMK,mMK⟩
 have GRM:Co P w K mg base (CXF P w) 5 fRM _ ["holders","i"] (vp CT CV) "remove_member":=⟨ok_RM FRM TD GCO GML GLG,bRM,kRM,mRM⟩
 have GTA:Co P w K mg base (CXF P w) 6 fTA _ ["top","steps"] (xx CT CL CV) "take_at":=⟨ok_TA FTA TD T.len ucCL mCL GUL bUL GFW GFM GRM,bTA,kTA,mTA⟩
 have GIM:Co P w K mg base (CXF P w) 5 fIM _ ["holders","i","x"] (pE CT CV) "insert_member":=⟨ok_IM FIM TD GCO GML GLG,bIM,kIM,mIM⟩
 have GCD:Co P w K mg base (CXF P w) 4 fCD _ ["steps","x_depth"] (vz CV) "check_depth":=⟨ok_CD FCD ⟨tDEEPEST,ao X G gDEEPEST⟩ T.len ucCV mCV GUV bUV,bCD,kCD,mCD⟩
 have GMA:Co P w K mg base CX0 2 fMA _ ["holder","step"] (x8 K) "may_add":=⟨ok_MA FMA B.k5 T.len GIN,bMA,kMA,mMA⟩
 have GAA:Co P w K mg base (CXF P w) 6 fAA _ ["top","steps","x","x_depth"] (yk CT CL CV) "add_at":=⟨ok_AA FAA TD T.len ucCL mCL GUL bUL GFW GMA GCD GIM,bAA,kAA,mAA⟩
 have GMH:Co P w K mg base CX0 2 fMH _ ["holder","step"] (xZ K) "may_have":=⟨ok_MH FMH B.k5 B.k6 ⟨tLONGEST_NAME,ao X G gLONGEST_NAME⟩ T.len GIN,bMH,kMH,mMH⟩
 have GPW:Co P w K mg base (CXF P w) 6 fPW _ ["holders","step","x"] (xO K CT CV) "put_new":=⟨ok_PW FPW TD GIN GCB GIM,bPW,kPW,mPW⟩
 have GRL:Co P w K mg base (CXF P w) 5 fRL _ ["trail","steps","x"] (xM K CT CV) "replace_last":=⟨ok_RL FRL TD GFM GLG,bRL,kRL,mRL⟩
 have GPA:Co P w K mg base (CXF P w) 7 fPA _ ["top","steps","x","x_depth"] (xW CT CL CV) "put_at":=⟨ok_PA FPA TD T.len ucCL mCL GUL bUL GFW GMH GCD GRL GPW,bPA,kPA,mPA⟩
 have GS0:bt P w K mg base CX0 1 fS0 _ ["self","action","path","part"] (xA CS):=ok_S0 FS0 TS
 have GDS:Co P w K mg base (CXF P w) 8 fDS _ ["top","row","step"] (yc K CP CT CS CL CV) "do_step":=⟨ok_DS FDS TP TS ⟨tPUT,ao X G gPUT⟩ ⟨tTAKE,ao X G gTAKE⟩ GMK GTA GPA GAA,bDS,kDS,mDS⟩
 have GCW:Co P w K mg base CX0 10 fCW _ ["action","v","p","x"] (yg K) "change_with":=⟨ok_CW FCW xc (ao X G aCF) mU ucCN ucCL ucCV sbCN sbCL sbCV TS ⟨mkCS,aS0,iS0,kcCS⟩ GS0 bS0 GRW GRP GMK GDS GTW,bCW,kCW,mCW⟩
 exact yN FEN ⟨tADD,ao X G gADD⟩ GCW
end L2.J
namespace PySem.W.Fast
theorem tw6394369365736627384:True:=⟨⟩
theorem tw12756245605490994210:True:=⟨⟩
theorem tw8951658434203367791:True:=⟨⟩
theorem tw17274140180459033528:True:=⟨⟩
theorem tw2993888081180000160:True:=⟨⟩
theorem tw6623038518853666310:True:=⟨⟩
theorem tw13359957937001406960:True:=⟨⟩
theorem tw9077317361542201363:True:=⟨⟩
theorem tw11822843033373489060:True:=⟨⟩
theorem tw3270464857234297813:True:=⟨⟩
theorem tw16275927930352901979:True:=⟨⟩
theorem tw4640316727306516776:True:=⟨⟩
theorem tw16401420221482791411:True:=⟨⟩
theorem tw2026283402109330988:True:=⟨⟩
theorem tw6746145606576227341:True:=⟨⟩
theorem tw13909794353736233477:True:=⟨⟩
theorem tw467396264960505399:True:=⟨⟩
theorem tw13488844180107285115:True:=⟨⟩
theorem tw16749908274894408760:True:=⟨⟩
theorem tw3708033028446465587:True:=⟨⟩
theorem tw12557018313205926488:True:=⟨⟩
theorem tw6742978733832457310:True:=⟨⟩
theorem tw6662459932845771128:True:=⟨⟩
theorem tw7232163614236808415:True:=⟨⟩
theorem tw14627585469130281342:True:=⟨⟩
theorem tw6404827796728564128:True:=⟨⟩
theorem tw7111756223528164489:True:=⟨⟩
theorem tw15370529900880506233:True:=⟨⟩
theorem tw13132963625390246145:True:=⟨⟩
theorem tw15762855464569380213:True:=⟨⟩
theorem tw14112801294168342225:True:=⟨⟩
theorem tw6102676903481491069:True:=⟨⟩
theorem tw12834488253645416981:True:=⟨⟩
theorem tw1849591288371386902:True:=⟨⟩
theorem tw8921290176991473860:True:=⟨⟩
theorem tw2621261611760712822:True:=⟨⟩
theorem tw17119131403591586024:True:=⟨⟩
theorem tw3134927044864011416:True:=⟨⟩
theorem tw3130159104557769670:True:=⟨⟩
theorem tw7701023090639125987:True:=⟨⟩
theorem tw5560919463345027294:True:=⟨⟩
theorem tw11832252014271356369:True:=⟨⟩
theorem tw17325431314969587688:True:=⟨⟩
theorem tw14384060933695919217:True:=⟨⟩
theorem tw12995840607819972854:True:=⟨⟩
theorem tw5871913588357714354:True:=⟨⟩
theorem tw8977014274198033113:True:=⟨⟩
theorem tw5747035339518054927:True:=⟨⟩
theorem tw15525867189975221010:True:=⟨⟩
theorem tw14303489936207645998:True:=⟨⟩
theorem tw1975899651459977487:True:=⟨⟩
theorem tw1271634566111018527:True:=⟨⟩
theorem tw16174643419967836063:True:=⟨⟩
theorem tw10300057812027845869:True:=⟨⟩
theorem tw10183234233485649577:True:=⟨⟩
theorem tw15187814915426357025:True:=⟨⟩
theorem tw2340659475475313660:True:=⟨⟩
theorem tw5009367454518986583:True:=⟨⟩
theorem tw11662213446743583763:True:=⟨⟩
theorem tw7929092369980979224:True:=⟨⟩
theorem tw15322753118199072654:True:=⟨⟩
theorem tw13720846914682254375:True:=⟨⟩
theorem tw118914993337467655:True:=⟨⟩
theorem tw15871675422626800778:True:=⟨⟩
theorem tw7518787735955945707:True:=⟨⟩
theorem tw12636422230823856117:True:=⟨⟩
theorem tw14013969211546634139:True:=⟨⟩
theorem tw5342415052400800681:True:=⟨⟩
theorem tw16543273721349807428:True:=⟨⟩
theorem tw9414209778323838253:True:=⟨⟩
theorem tw2456251523932307732:True:=⟨⟩
theorem tw8551162367206935481:True:=⟨⟩
theorem tw17012057661726218036:True:=⟨⟩
theorem tw5260525952261923834:True:=⟨⟩
theorem tw13573687190933135522:True:=⟨⟩
theorem tw2639469669264373475:True:=⟨⟩
theorem tw16455760797454475509:True:=⟨⟩
theorem tw5297004231579712179:True:=⟨⟩
theorem tw5210072196418394086:True:=⟨⟩
theorem tw10710384354273803221:True:=⟨⟩
theorem tw11478197032562019037:True:=⟨⟩
theorem tw6871056869221929855:True:=⟨⟩
theorem tw1827365859852403405:True:=⟨⟩
theorem tw2874343197574826483:True:=⟨⟩
theorem tw10053328164964637901:True:=⟨⟩
theorem tw9663639001194056910:True:=⟨⟩
theorem tw5765046612333476524:True:=⟨⟩
theorem tw4724623202659697551:True:=⟨⟩
theorem tw1568320207604552562:True:=⟨⟩
theorem tw11321064957986644371:True:=⟨⟩
theorem tw1811867692791838533:True:=⟨⟩
theorem tw16404126329762100078:True:=⟨⟩
theorem tw8052179151577903875:True:=⟨⟩
theorem tw13028734721976830904:True:=⟨⟩
theorem tw13408241859792777450:True:=⟨⟩
theorem tw615705702936492923:True:=⟨⟩
theorem tw3079647778205216339:True:=⟨⟩
theorem tw6622361563611412025:True:=⟨⟩
theorem tw14673568434560099271:True:=⟨⟩
theorem tw7886713571266524642:True:=⟨⟩
theorem tw12393494161237010279:True:=⟨⟩
theorem tw10204253811961196039:True:=⟨⟩
theorem tw14668572747490135097:True:=⟨⟩
theorem tw15742324169069357433:True:=⟨⟩
theorem tw15094712935634474852:True:=⟨⟩
theorem tw7978442910068894431:True:=⟨⟩
theorem tw14701089144090661456:True:=⟨⟩
theorem tw18300894720687679481:True:=⟨⟩
theorem tw5414069198962075698:True:=⟨⟩
theorem tw2171046404800965865:True:=⟨⟩
theorem tw915634437684030634:True:=⟨⟩
theorem tw1551766223130148413:True:=⟨⟩
theorem tw12896270021384637931:True:=⟨⟩
theorem tw5610120308191932248:True:=⟨⟩
theorem tw9556773970012819878:True:=⟨⟩
theorem tw3869758023220043057:True:=⟨⟩
theorem tw3489668859738527144:True:=⟨⟩
theorem tw929593945857249886:True:=⟨⟩
theorem tw1200784649373667793:True:=⟨⟩
theorem tw6673561320588173368:True:=⟨⟩
theorem tw14979123927318705618:True:=⟨⟩
theorem tw3807618951807074662:True:=⟨⟩
theorem tw14736477303318972251:True:=⟨⟩
theorem tw16654349165914515325:True:=⟨⟩
theorem tw2986741977907561564:True:=⟨⟩
theorem tw18409299293571686181:True:=⟨⟩
theorem tw14837642325059893541:True:=⟨⟩
theorem tw3096937064231733055:True:=⟨⟩
theorem tw17544600057192343183:True:=⟨⟩
theorem tw9340604055339882425:True:=⟨⟩
theorem tw6485532516150200841:True:=⟨⟩
theorem tw3902259758921276819:True:=⟨⟩
theorem tw9121934680749460939:True:=⟨⟩
theorem tw11667105620128996218:True:=⟨⟩
theorem tw9468784274782577195:True:=⟨⟩
theorem tw5826639040542058100:True:=⟨⟩
theorem tw9843717386881972704:True:=⟨⟩
theorem tw1535188536556249260:True:=⟨⟩
theorem tw8966649259320123413:True:=⟨⟩
theorem tw2059874219002624374:True:=⟨⟩
theorem tw7093217823766689736:True:=⟨⟩
theorem tw2880873751270842716:True:=⟨⟩
theorem tw3046431493392464272:True:=⟨⟩
theorem tw14469651838119974476:True:=⟨⟩
theorem tw2348490973312502282:True:=⟨⟩
theorem tw11389999330087054475:True:=⟨⟩
theorem tw13296906702228851452:True:=⟨⟩
theorem tw13930445473193582026:True:=⟨⟩
theorem tw397005816344548771:True:=⟨⟩
theorem tw4306228270014964023:True:=⟨⟩
theorem tw8650222843194047228:True:=⟨⟩
theorem tw11159492672178516801:True:=⟨⟩
theorem tw14084868064761873662:True:=⟨⟩
theorem tw16356431729806492001:True:=⟨⟩
theorem tw7647868479268882697:True:=⟨⟩
theorem tw17933307861910120071:True:=⟨⟩
theorem tw6362085049465933143:True:=⟨⟩
theorem tw5320409952313981571:True:=⟨⟩
theorem tw8147565421022466189:True:=⟨⟩
theorem tw3288223981297590401:True:=⟨⟩
theorem tw14764571857268086841:True:=⟨⟩
theorem tw18287481634281282086:True:=⟨⟩
theorem tw11252211754044535404:True:=⟨⟩
theorem tw13520541460379413947:True:=⟨⟩
theorem tw16034634177937007747:True:=⟨⟩
theorem tw7174872185388226977:True:=⟨⟩
theorem tw7455715892899552209:True:=⟨⟩
theorem tw7259482791621627890:True:=⟨⟩
theorem tw7234194186958380329:True:=⟨⟩
theorem tw8278909810364022558:True:=⟨⟩
theorem tw15770589407801606063:True:=⟨⟩
theorem tw12399186494672813077:True:=⟨⟩
theorem tw16132205844283359358:True:=⟨⟩
theorem tw11651245569690689983:True:=⟨⟩
theorem tw1770436032603074300:True:=⟨⟩
theorem tw15331058215291014032:True:=⟨⟩
theorem tw11689662173379164740:True:=⟨⟩
theorem tw15273177225776941125:True:=⟨⟩
theorem tw550039057573147471:True:=⟨⟩
theorem tw12367112532867113238:True:=⟨⟩
theorem tw670940445019761757:True:=⟨⟩
theorem tw12937335611476656855:True:=⟨⟩
theorem tw4247126093549103006:True:=⟨⟩
theorem tw10998459925982922960:True:=⟨⟩
theorem tw10859165657274017962:True:=⟨⟩
theorem tw3524341105821944109:True:=⟨⟩
theorem tw17140954953833813379:True:=⟨⟩
theorem tw9265994812342175399:True:=⟨⟩
theorem tw2297653899376834881:True:=⟨⟩
theorem tw8170459161681053412:True:=⟨⟩
theorem tw3913995460657032328:True:=⟨⟩
theorem tw2671149667133798494:True:=⟨⟩
theorem tw9806439450826983711:True:=⟨⟩
theorem tw4243883458563295959:True:=⟨⟩
theorem tw13729551565571219753:True:=⟨⟩
theorem tw9855143358637366428:True:=⟨⟩
theorem tw13794242086844027507:True:=⟨⟩
theorem tw10208152045799544701:True:=⟨⟩
theorem tw8888448962571184629:True:=⟨⟩
theorem tw7426027092799015885:True:=⟨⟩
theorem tw16930864836310868362:True:=⟨⟩
theorem tw6311144753009681265:True:=⟨⟩
theorem tw17233761719369830547:True:=⟨⟩
theorem tw1115202703842988922:True:=⟨⟩
theorem tw5428209635396232928:True:=⟨⟩
theorem tw10057527236386510096:True:=⟨⟩
theorem tw6839235956851980655:True:=⟨⟩
theorem tw1274814817351092589:True:=⟨⟩
theorem tw13103540657551193613:True:=⟨⟩
theorem tw4150804608425310590:True:=⟨⟩
theorem tw16550016489822640293:True:=⟨⟩
theorem tw8393908813176451126:True:=⟨⟩
theorem tw929725851862897712:True:=⟨⟩
theorem tw16276921489140000469:True:=⟨⟩
theorem tw14239488178107713030:True:=⟨⟩
theorem tw15391763787560152815:True:=⟨⟩
theorem tw3817287817224982805:True:=⟨⟩
theorem tw9923489114500150624:True:=⟨⟩
theorem tw3341336114500414627:True:=⟨⟩
theorem tw12176016912009519819:True:=⟨⟩
theorem tw15870230869658296199:True:=⟨⟩
theorem tw830142884802320854:True:=⟨⟩
theorem tw3691985955519996657:True:=⟨⟩
theorem tw11649446607408932810:True:=⟨⟩
theorem tw9708780315500603806:True:=⟨⟩
theorem tw13309449493589913219:True:=⟨⟩
theorem tw4528419698208072662:True:=⟨⟩
theorem tw5569690388192305912:True:=⟨⟩
theorem tw882347479437730853:True:=⟨⟩
theorem tw14448646874792086710:True:=⟨⟩
theorem tw5814379058066880046:True:=⟨⟩
theorem tw13569837697127872052:True:=⟨⟩
theorem tw1376787365688950263:True:=⟨⟩
theorem tw12983170779290498421:True:=⟨⟩
theorem tw9017392831690863970:True:=⟨⟩
theorem tw7727346919525661619:True:=⟨⟩
theorem tw17346701269380176199:True:=⟨⟩
theorem tw538987250609840464:True:=⟨⟩
theorem tw7271983558472117700:True:=⟨⟩
theorem tw11725442090163016055:True:=⟨⟩
theorem tw15386681439324741226:True:=⟨⟩
theorem tw1930195675936767504:True:=⟨⟩
theorem tw9325820538229454760:True:=⟨⟩
theorem tw6473954960266156111:True:=⟨⟩
theorem tw14244272092348450654:True:=⟨⟩
theorem tw13422512023035738886:True:=⟨⟩
theorem tw7637258076408561531:True:=⟨⟩
theorem tw3150715329636304126:True:=⟨⟩
theorem tw2310313847129270815:True:=⟨⟩
theorem tw4773877708191133950:True:=⟨⟩
theorem tw17751648918834863105:True:=⟨⟩
theorem tw2400400503352881497:True:=⟨⟩
theorem tw3500947647039327951:True:=⟨⟩
theorem tw7260363262804659097:True:=⟨⟩
theorem tw4588091665741210765:True:=⟨⟩
theorem tw5827866883894502600:True:=⟨⟩
theorem tw2563087530953638547:True:=⟨⟩
theorem tw17816135171119594069:True:=⟨⟩
theorem tw8302228345678450497:True:=⟨⟩
theorem tw9400930734446415887:True:=⟨⟩
theorem tw8395939497466254834:True:=⟨⟩
theorem tw10080744633359207880:True:=⟨⟩
theorem tw6337317299374545665:True:=⟨⟩
theorem tw15463844953730523505:True:=⟨⟩
theorem tw16661795991613877358:True:=⟨⟩
theorem tw8332617978150793686:True:=⟨⟩
theorem tw11294606530974951669:True:=⟨⟩
theorem tw1063540876301626223:True:=⟨⟩
theorem tw9348310475353018962:True:=⟨⟩
theorem tw16257989587378083901:True:=⟨⟩
theorem tw4226622139609522444:True:=⟨⟩
theorem tw10977248333442155468:True:=⟨⟩
theorem tw18145556022986352556:True:=⟨⟩
theorem tw14580436656764378910:True:=⟨⟩
theorem tw11367425979685087632:True:=⟨⟩
theorem tw5057566184737536126:True:=⟨⟩
theorem tw18413794595277845044:True:=⟨⟩
theorem tw6021686592020842917:True:=⟨⟩
theorem tw7885320065322975990:True:=⟨⟩
theorem tw6586709033946205872:True:=⟨⟩
theorem tw3944008505545211523:True:=⟨⟩
theorem tw6368842592342132037:True:=⟨⟩
theorem tw14685471930115672130:True:=⟨⟩
theorem tw17781486318638794578:True:=⟨⟩
theorem tw14121630543361841706:True:=⟨⟩
theorem tw365358271007228694:True:=⟨⟩
theorem tw1649012299010585816:True:=⟨⟩
theorem tw619721687802644640:True:=⟨⟩
theorem tw6934212410490636319:True:=⟨⟩
theorem tw3463669608356928470:True:=⟨⟩
theorem tw16723828152983511049:True:=⟨⟩
theorem tw10710187285569133771:True:=⟨⟩
theorem tw5620652708787583003:True:=⟨⟩
theorem tw3598918478525562884:True:=⟨⟩
theorem tw13350773014297201218:True:=⟨⟩
theorem tw3664157068305352576:True:=⟨⟩
theorem tw11843472655366739185:True:=⟨⟩
theorem tw6247493319647094016:True:=⟨⟩
theorem tw5534563435614384054:True:=⟨⟩
theorem tw56798395964721345:True:=⟨⟩
end PySem.W.Fast
open PySem PySem.W PyProof.Rows
set_option maxRecDepth 100000 in
set_option maxHeartbeats 0 in
theorem PySem.Challenge.cw_onevalues_s10_add_holds : PySem.Challenge.rw_onevalues_s10_add.Holds := by
  w_on; k_headS; (case hw => exact ⟨[.list [], .list [], .list []], by decide +kernel, by decide +kernel⟩)
  k_fillS
  refine L2.wX (r := PySem.Challenge.rw_onevalues_s10_add) (k := 11) (CX := L2.CX0) (ps := ["v", "p", "x"]) (sp := fun K => L2.J.spP K 3) (by decide +kernel) rfl rfl ⟨rfl, by decide, by decide⟩ (fun w h Y => PySem.W.kIn_of Y) ?F ?S (fun _ _ _ _ z => z)
  case F =>
    intro w mg fa h Y KX G hmg
    refine' L2.J.all_mk KX G hmg ..
    any_goals (try unfold L2.J.NsR)
    any_goals (try unfold L2.J.FnR)
    any_goals first | k_is | (simp [L2.XC.qM]; done)
  case S =>
    intro K H xs a hO hwi hask hx
    cases hx with
    | cons h0 r0 =>
      cases r0 with
      | cons h1 r1 =>
        cases r1 with
        | cons h2 r2 =>
          cases r2
          cases h0 with
          | lst hs0 ha0 =>
            cases h1 with
            | lst hs1 ha1 =>
              cases h2 with
              | lst hs2 ha2 =>
                have e0 := L2.wj a.1 _ ha0
                subst e0
                have e1 := L2.wj a.2.1 _ ha1
                subst e1
                have e2 := L2.wj a.2.2.1 _ ha2
                subst e2
                have q : ((Codec.inLen 0 65536 a.1 && a.1.all (Codec.inInt 0 255)) && ((Codec.inLen 0 65536 a.2.1 && a.2.1.all (Codec.inInt 0 255)) && ((Codec.inLen 0 65536 a.2.2.1 && a.2.2.1.all (Codec.inInt 0 255)) && true))) = true := hwi
                simp only [Bool.and_eq_true] at q
                have hb0 : ∀ x ∈ a.1, 0 ≤ x ∧ x ≤ 255 := fun x hx => Codec.inInt_iff.mp (List.all_eq_true.mp q.1.2 x hx)
                obtain ⟨bs0, eb0, el0⟩ := L2.J.qQ a.1 hb0
                have hz0 : bs0.length ≤ 65536 := by rw [el0]; exact (Codec.inNat_iff.mp q.1.1).2
                have hb1 : ∀ x ∈ a.2.1, 0 ≤ x ∧ x ≤ 255 := fun x hx => Codec.inInt_iff.mp (List.all_eq_true.mp q.2.1.2 x hx)
                obtain ⟨bs1, eb1, el1⟩ := L2.J.qQ a.2.1 hb1
                have hz1 : bs1.length ≤ 65536 := by rw [el1]; exact (Codec.inNat_iff.mp q.2.1.1).2
                have hb2 : ∀ x ∈ a.2.2.1, 0 ≤ x ∧ x ≤ 255 := fun x hx => Codec.inInt_iff.mp (List.all_eq_true.mp q.2.2.1.2 x hx)
                obtain ⟨bs2, eb2, el2⟩ := L2.J.qQ a.2.2.1 hb2
                have hz2 : bs2.length ≤ 65536 := by rw [el2]; exact (Codec.inNat_iff.mp q.2.2.1.1).2
                have hd : PyYqswga.add a.1 a.2.1 a.2.2.1 = L2.J.tU 3 bs0 bs1 bs2 := by rw [eb0, eb1, eb2]; exact L2.J.add_is bs0 bs1 bs2 hz0 hz1 hz2
                rw [eb0, ← L2.J.jV] at hs0
                rw [eb1, ← L2.J.jV] at hs1
                rw [eb2, ← L2.J.jV] at hs2
                refine ⟨_, bs0, _, bs1, _, bs2, rfl, hs0, hz0, hs1, hz1, hs2, hz2, fun H' p hp => ?_⟩
                rw [← hd] at hp
                exact .lst (L2.SqL.of hp) (L2.wu _)
#print axioms PySem.Challenge.cw_onevalues_s10_add_holds

