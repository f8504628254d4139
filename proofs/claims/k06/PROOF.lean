import PyProof.Rows.All
import Wide.All
import OpenK.AllK
import Wide.FinOn
import Lean
import PyProof.EqAt
import PyProof.EqKinds
import PyProof.TupleCall
import PyProof.ReprStr
import KE.KTryMore
import KE.RegKTryMore
import PySem.Challenge.RW_twoorders_k06_whole_all_or_none
set_option linter.all false
set_option maxRecDepth 100000
set_option maxHeartbeats 4000000
set_option Elab.async false
def r_c:=@List.length_map
def r_d:=@List.getElem?_eq_getElem
def r_e:=@List.length_append
def r_f:=@List.mem_cons_of_mem
def r_g:=@List.mem_cons_self
def r_h:=@List.mem_singleton
def r_i:=@List.length_cons
def r_j:=@Option.some.inj
def r_k:=@List.map_append
def r_l:=@Nat.le_refl
def r_m:=@List.size_toArray
def r_n:=@List.mem_cons
def r_o:=@List.getElem?_map
def r_p:=@List.mem_append_right
def r_q:=@List.getElem?_eq_some_iff
def r_r:=@List.map_cons
def r_s:=@Nat.lt_of_lt_of_le
def r_t:=@Bool.false_ne_true
def r_u:=@List.mem_append
def r_v:=@List.getD_eq_getElem?_getD
def r_w:=@List.take_of_length_le
def r_x:=@Nat.le_trans
def r_y:=@List.length_take
def r_z:=@List.flatten_append
def r_A:=@Nat.ne_of_lt
def r_B:=@List.filter_cons
def r_C:=@List.mem_of_getElem?
def r_D:=@List.take_add_one
def r_E:=@Nat.zero_le
def r_F:=@List.flatten_cons
def r_G:=@List.nodup_cons
def r_H:=@List.mem_map
def r_I:=@List.length_eq_zero_iff
def r_J:=@List.append_nil
def r_K:=@List.length_singleton
def r_L:=@List.mem_append_left
def r_M:=@List.length_nil
def r_N:=@List.length_filter_le
def r_O:=@List.length_reverse
def r_P:=@List.take_append_drop
def r_Q:=@List.pairwise_cons
def r_R:=@Nat.lt_of_le_of_lt
def r_S:=@decide_eq_true
def r_T:=@decide_eq_false
def r_U:=@of_decide_eq_true
def r_V:=@PySem.boot_len
def r_W:=@PySem.F.plainAttrs_list
def r_X:=@PySem.F.type_list_append
def r_Y:=@PySem.F.slot_list_append
namespace L2
open PySem PySem.Spec PyProof.Rows
abbrev Key:=Sum Int Str
def i_b:Key->Value->Bool
 | .inl k,v=>Value.isInt k v
 | .inr x,v=>Value.isStrOf x v
def q_X (w:World):Key->Int
 | .inl k=>hashInt k
 | .inr x=>hashStr w x
theorem a_6:∀{k:Key} {v:Value},i_b k v=true->(∃i t,k=Sum.inl i/\v=Value.int i t)\/(∃x t,k=Sum.inr x/\v=Value.str x t)
 | .inl i,v,h=>by
   obtain⟨t,e⟩:=Value.isInt_shape (k:=i) (v:=v) h
   exact .inl ⟨i,t,rfl,e⟩
 | .inr x,v,h=>by
   obtain⟨t,e⟩:=Value.isStrOf_shape (x:=x) (v:=v) h
   exact .inr ⟨x,t,rfl,e⟩
theorem i_9 (i:Int) (t:Tok):i_b (.inl i) (.int i t)=true:=by simp[i_b,Value.isInt]
theorem j_9 (x:Str) (t:Tok):i_b (.inr x) (.str x t)=true:=by simp[i_b,Value.isStrOf]
theorem o_f (a b:Int):decide ((Sum.inl a:Key)=Sum.inl b)=(a == b):=by
 by_cases e:a=b
 ·subst e;simp
 ·have h:¬ (Sum.inl a:Key)=Sum.inl b:=λq=>e (Sum.inl.inj q)
  rw[r_T h]
  exact (beq_eq_false_iff_ne.mpr e).symm
theorem p_d (a b:Str):decide ((Sum.inr a:Key)=Sum.inr b)=decide (a=b):=by
 by_cases e:a=b
 ·subst e;simp
 ·have h:¬ (Sum.inr a:Key)=Sum.inr b:=λq=>e (Sum.inr.inj q)
  rw[r_T h,r_T e]
theorem p_a (a:Int) (b:Str):decide ((Sum.inl a:Key)=Sum.inr b)=false:=r_T (λq=>nomatch q)
theorem o_4 (a:Str) (b:Int):decide ((Sum.inr a:Key)=Sum.inl b)=false:=r_T (λq=>nomatch q)
def a_W (prog:Program) (w:World):PySem.KeyKind prog w Key where
 is:=i_b
 hash:=q_X w
 inj:=λv a b ha hb=>by
  rcases a_6 ha with⟨i,t,rfl,rfl⟩ | ⟨x,t,rfl,rfl⟩
  ·rcases a_6 hb with⟨j,u,rfl,e⟩ | ⟨y,u,rfl,e⟩
   ·injection e with e1 _;rw[e1]
   ·exact nomatch e
  ·rcases a_6 hb with⟨j,u,rfl,e⟩ | ⟨y,u,rfl,e⟩
   ·exact nomatch e
   ·injection e with e1 _;rw[e1]
 byValue:=λk v h=>by
  rcases a_6 h with⟨i,t,rfl,rfl⟩ | ⟨x,t,rfl,rfl⟩ <;> rfl
 pyHash:=λhv h=>by
  rcases a_6 hv with⟨i,t,rfl,rfl⟩ | ⟨x,t,rfl,rfl⟩
  ·exact wpAny_pyHash_int h
  ·exact wpAny_pyHash_str h
 eqBool:=λhu hv h=>by
  rcases a_6 hu with⟨i,t,rfl,rfl⟩ | ⟨x,t,rfl,rfl⟩
  ·rcases a_6 hv with⟨j,u,rfl,rfl⟩ | ⟨y,u,rfl,rfl⟩
   ·rw[o_f] at h;exact wpAny_eqBool_int h
   ·rw[p_a] at h;exact SeqAt.EqAt.int_str i t y u _ _ _ _ h
  ·rcases a_6 hv with⟨j,u,rfl,rfl⟩ | ⟨y,u,rfl,rfl⟩
   ·rw[o_4] at h;exact SeqAt.EqAt.str_int x t j u _ _ _ _ h
   ·rw[p_d] at h;exact wpAny_eqBool_str h
 «strs»:=λk x t v h=>by
  rcases a_6 h with⟨i,u,rfl,e⟩ | ⟨y,u,rfl,e⟩
  ·exact nomatch e
  ·injection e with e1 _
   subst e1
   cases v <;> rfl
theorem g_8 (prog:Program) (w:World) (i:Int) (t:Tok):(a_W prog w).is (.inl i) (.int i t)=true:=i_9 i t
theorem g_K (prog:Program) (w:World) (x:Str) (t:Tok):(a_W prog w).is (.inr x) (.str x t)=true:=j_9 x t
inductive V where
 | non | bl (b:Bool) | int (i:Int) | str (x:Str) | byt (b:Array UInt8) | flt (b:UInt64) | ref (a:Addr) | ty (n:String)
 deriving DecidableEq
def RelV:V->Value->Prop
 | .non,u=>u=Value.none
 | .bl b,u=>u=Value.bool b
 | .int i,u=>∃t,u=Value.int i t
 | .str x,u=>∃t,u=Value.str x t
 | .byt b,u=>∃t,u=Value.bytes b t
 | .flt b,u=>∃t,u=Value.float b t
 | .ref a,u=>u=Value.ref a
 | .ty n,u=>u=Value.type n
abbrev Vals:List V->List Value->Prop:=Paired RelV
theorem Vals.length {xs:List V} {us:List Value} (r:Vals xs us):xs.length=us.length:=Paired.length r
theorem Vals.get:∀{xs:List V} {us:List Value} {i:Nat} {x:V},Vals xs us->xs[i]? =some x->∃u,us[i]? =some u/\RelV x u
 | _,_,_,_,.nil,e=>by simp at e
 | _,_,0,_,.cons r _,e=>by simp at e;subst e;exact⟨_,rfl,r⟩
 | _,_,i+1,x,.cons _ t,e=>by
   obtain⟨u,h1,h2⟩:=Vals.get (i:=i) (x:=x) t (by simpa using e)
   exact⟨u,by simpa using h1,h2⟩
theorem Vals.set {x:V} {u:Value} (r:RelV x u):∀{xs:List V} {us:List Value} (i:Nat),Vals xs us->Vals (xs.set i x) (us.set i u)
 | _,_,_,.nil=> .nil
 | _,_,0,.cons _ t=> .cons r t
 | _,_,i+1,.cons q t=> .cons q (Vals.set r i t)
theorem Vals.append:∀{xs ys:List V} {us ws:List Value},Vals xs us->Vals ys ws->Vals (xs++ys) (us++ws)
 | _,_,_,_,.nil,s=>s
 | _,_,_,_,.cons r t,s=> .cons r (Vals.append t s)
theorem Vals.take:∀{xs:List V} {us:List Value} (n:Nat),Vals xs us->Vals (xs.take n) (us.take n)
 | _,_,0,_=> .nil
 | _,_,_+1,.nil=> .nil
 | _,_,n+1,.cons r t=> .cons r (Vals.take n t)
theorem Vals.drop:∀{xs:List V} {us:List Value} (n:Nat),Vals xs us->Vals (xs.drop n) (us.drop n)
 | _,_,0,r=>r
 | _,_,_+1,.nil=> .nil
 | _,_,n+1,.cons _ t=>Vals.drop n t
def RelO:Option V->Option Value->Prop
 | some v,some u=>RelV v u
 | none,none=>True
 | _,_=>False
def KV {κ:Type}:List (κ×V)->List (κ×Value)->Prop:=Paired λ(p:κ×V) (q:κ×Value)=>p.1=q.1/\RelV p.2 q.2
def kV:Key->V
 | .inl i=> .int i
 | .inr x=> .str x
inductive HO where
 /-- a list -/
 | lst (xs:List V)
 /-- a tuple (never changes) -/
 | tup (xs:List V)
 /-- a dict whose keys are ints and texts;one whose keys are tuples of ints and texts (the empty one is both) -/
 | dK (kvs:List (Key×V)) | dT (kvs:List (List Key×V))
 /-- a set of ints:its members,its size -/
 | set (S:Int->Bool) (n:Nat)
 /-- an instance of the class at C,its dict at dx,its attributes -/
 | ins (C dx:Addr) (fs:List (Str×V))
 /-- the dict of the instance at x -/
 | own (x:Addr)
 /-- the dict of an exception -/
 | xd (fs:List (Str×V))
 /-- a bound method,f of x -/
 | met (f x:Addr)
 /-- a range object lo,lo+1,.. below hi -/
 | rng (lo hi:Int)
 /-- a thing that is known to the object (the script;a dict while a loop walks it):read,never written while it is so -/
 | frz (o:Obj) (u:HO)
 /-- a code object's table -/
 | tbl (ps:Array Value)
 /-- any other thing,by what is true of its one object (a def of one's own:SetO a S n:=HO.ext λh=> ..) -/
 | ext (φ:Heap->Prop)
abbrev Hp:=Addr->Option HO
def upd (H:Hp) (a:Addr) (o:HO):Hp:=λb=>if b=a then some o else H b
theorem a_b {H:Hp} {a:Addr} {o:HO}:upd H a o a=some o:=by unfold upd;rw[if_pos rfl]
theorem a_i {H:Hp} {a b:Addr} {o:HO} (h:b≠a):upd H a o b=H b:=by unfold upd;rw[if_neg h]
theorem e_8 {H:Hp} {a b:Addr} {o u:HO} (h:H a=some o) (h':H b=some u) (d:o≠u):a≠b:=by
 intro e;subst e;rw[h] at h';exact d (r_j h')
theorem a_h {H:Hp} {a b:Addr} {o:HO} (h:H a=some o) (h':H b=none):a≠b:=by
 intro e;subst e;rw[h] at h';cases h'
section
variable (P:Program) (w:World)
def ObjOk (H:Hp) (h:Heap) (a:Addr):HO->Prop
 | .lst xs=>xs.length<=sizeLine/\∃(its:List Value) (n:Nat),Vals xs its/\h.get? a=some { cls:= .type "list",data:= .seq its.toArray n }
 | .tup xs=>xs.length<=sizeLine/\∃its:List Value,Vals xs its/\IsTup h a its.toArray
 | .dK kvs=>kvs.length<=sizeLine/\(a == sysModules)=false/\∃vs,KV kvs vs/\h.DictOf (a_W P w) a vs
 | .dT kvs=>kvs.length≤sizeLine∧(a == sysModules)=false∧∃xs:List (List Key×Addr×Value),
    Paired (λ(p:List Key×V) (q:List Key×Addr×Value)=>p.1=q.1/\H q.2.1=some (.tup (p.1.map kV))/\RelV p.2 q.2.2) kvs xs/\
    ∃o es ep,h.get? a=some o/\o.ExactDict/\o.data= .dict es ep/\es.toList=xs.map (entryOfKey (tupleKind (a_W P w)))/\(xs.map (·.1)).Nodup
 | .set S n=>h.SetOf (intKind P w) a S n
 | .ins C dx fs=>H dx=some (.own a)∧fs.length≤1000∧dx≠a∧h.get? a=some (PySem.W.instObj C dx)∧
    ∃mA,h.Ns1 dx mA/\(∀f,RelO (fs.lookup f) (mA f))/\PySem.Within mA (fs.map (·.1))
 | .own _=>∃o,h.get? a=some o
 | .xd fs=>∃mA,h.Ns1 a mA/\∀f,RelO (fs.lookup f) (mA f)
 | .rng lo hi=>∃t u v,h.get? a=some { cls:= .type "range",data:= .fields #[.int lo t,.int hi u,.int 1 v] }
 | .frz o u=>h.get? a=some o/\ObjOk H h a u
 | .tbl ps=>h.get? a=some { cls:= .none,data:= .fields ps }
 | .met f x=>h.get? a=some (PySem.W.methodObj (.ref f) (.ref x))
 | .ext φ=>φ h/\(∃o,h.get? a=some o)/\∀h1 h2:Heap,φ h1->(∀o,h1.get? a=some o->h2.get? a=some o)->φ h2
def HOk (H:Hp) (h:Heap):Prop:=∀a o,H a=some o->ObjOk P w H h a o
end
section
variable {P:Program} {w:World} {H H':Hp} {h h':Heap} {a:Addr} {o:HO}
theorem ObjOk.lt (x:ObjOk P w H h a o):a < h.objs.size:=by
 cases o with
 | lst xs=>obtain⟨_,_,_,_,e⟩:=x;exact Heap.lt_size e
 | tup xs=>obtain⟨_,_,_,p⟩:=x;exact p.lt
 | dK kvs=>obtain⟨_,_,_,_,o,_,_,e,_⟩:=x;exact Heap.lt_size e
 | dT kvs=>obtain⟨_,_,_,_,o,_,_,e,_⟩:=x;exact Heap.lt_size e
 | set S n=>obtain⟨o,_,_,_,e,_⟩:=x;exact Heap.lt_size e
 | ins C dx fs=>obtain⟨_,_,_,e,_⟩:=x;exact Heap.lt_size e
 | own y=>obtain⟨_,e⟩:=x;exact Heap.lt_size e
 | xd fs=>obtain⟨_,⟨_,_,_,e,_⟩,_⟩:=x;exact Heap.lt_size e
 | rng lo hi=>obtain⟨_,_,_,e⟩:=x;exact Heap.lt_size e
 | frz ob u=>obtain⟨e,_⟩:=x;exact Heap.lt_size e
 | tbl ps=>exact Heap.lt_size (show h.get? a=some _ from x)
 | met f y=>exact Heap.lt_size (show h.get? a=some _ from x)
 | ext φ=>obtain⟨_,⟨_,e⟩,_⟩:=x;exact Heap.lt_size e
theorem Paired.mapP {α β:Type} {F G:α->β->Prop}:∀{l₁:List α} {l₂:List β},Paired F l₁ l₂->(∀a b,F a b->G a b)->Paired G l₁ l₂
 | _,_,.nil,_=> .nil
 | _,_,.cons r t,f=> .cons (f _ _ r) (Paired.mapP t f)
theorem ObjOk.stay (x:ObjOk P w H h a o) (k:∀b u,(b=a\/H b=some (.own a))->h.get? b=some u->h'.get? b=some u)
 (ho:∀b,H b=some (.own a)->H' b=some (.own a)) (ht:∀b xs,H b=some (.tup xs)->H' b=some (.tup xs)):ObjOk P w H' h' a o:=by
 induction o with
 | lst xs=>obtain⟨z,its,n,r,e⟩:=x;exact⟨z,its,n,r,k _ _ (.inl rfl) e⟩
 | tup xs=>obtain⟨z,its,r,ob,e,c⟩:=x;exact⟨z,its,r,ob,k _ _ (.inl rfl) e,c⟩
 | dK kvs=>obtain⟨z,y,vs,r,ob,es,ep,e,c⟩:=x;exact⟨z,y,vs,r,ob,es,ep,k _ _ (.inl rfl) e,c⟩
 | dT kvs=>
   obtain⟨z,y,xs,r,ob,es,ep,e,c⟩:=x
   exact⟨z,y,xs,Paired.mapP r λp q z=>⟨z.1,ht _ _ z.2.1,z.2.2⟩,ob,es,ep,k _ _ (.inl rfl) e,c⟩
 | set S n=>obtain⟨ob,es,ep,t,e,c⟩:=x;exact⟨ob,es,ep,t,k _ _ (.inl rfl) e,c⟩
 | ins C dx fs=>
   obtain⟨d,z,ne,e,mA,⟨od,es,ep,e2,c⟩,r⟩:=x
   exact⟨ho _ d,z,ne,k _ _ (.inl rfl) e,mA,⟨od,es,ep,k _ _ (.inr d) e2,c⟩,r⟩
 | own y=>obtain⟨ob,e⟩:=x;exact⟨ob,k _ _ (.inl rfl) e⟩
 | xd fs=>obtain⟨mA,⟨od,es,ep,e,c⟩,r⟩:=x;exact⟨mA,⟨od,es,ep,k _ _ (.inl rfl) e,c⟩,r⟩
 | rng lo hi=>obtain⟨t,u,v,e⟩:=x;exact⟨t,u,v,k _ _ (.inl rfl) e⟩
 | frz ob u ih=>obtain⟨e,q⟩:=x;exact⟨k _ _ (.inl rfl) e,ih q⟩
 | tbl ps=>
   have e:h.get? a=some { cls:= .none,data:= .fields ps }:=x
   show h'.get? a=some { cls:= .none,data:= .fields ps }
   exact k a _ (.inl rfl) e
 | met f y=>
   have e:h.get? a=some (PySem.W.methodObj (.ref f) (.ref y)):=x
   show h'.get? a=some (PySem.W.methodObj (.ref f) (.ref y))
   exact k a _ (.inl rfl) e
 | ext φ=>obtain⟨p,⟨o,e⟩,st⟩:=x;exact⟨st _ _ p λo q=>k _ _ (.inl rfl) q,⟨o,k _ _ (.inl rfl) e⟩,st⟩
theorem HOk.lt (x:HOk P w H h) (e:H a=some o):a < h.objs.size:=(x a o e).lt
theorem HOk.fresh (x:HOk P w H h) (e:h.objs.size<=a):H a=none:=by
 cases q:H a with
 | none=>rfl
 | some u=>exact absurd (r_s (x.lt q) e) (Nat.lt_irrefl _)
theorem HOk.kept (x:HOk P w H h) (k:∀b u,h.get? b=some u->h'.get? b=some u):HOk P w H h':=λa o e=>
 (x a o e).stay (λb u _ q=>k b u q) (λ_ q=>q) λ_ _ q=>q
theorem HOk.laid (x:HOk P w H h) (k:∀b u,h.get? b=some u->h'.get? b=some u) (hp:h.objs.size<=a) (new:ObjOk P w (upd H a o) h' a o):HOk P w (upd H a o) h':=λb u e=>by
 have hn:=x.fresh hp
 by_cases hb:b=a
 ·subst hb;rw[a_b] at e;cases e;exact new
 ·rw[a_i hb] at e
  exact (x b u e).stay (λc v _ q=>k c v q) (λc q=>by rw[a_i (a_h q hn)];exact q) λc xs q=>by rw[a_i (a_h q hn)];exact q
end
def Rd (H:Hp) (a:Addr) (u:HO):Prop:=H a=some u\/∃o,H a=some (.frz o u)
theorem Rd.ok {P:Program} {w:World} {H:Hp} {h:Heap} {a:Addr} {u:HO} (r:Rd H a u) (x:HOk P w H h):ObjOk P w H h a u:=by
 rcases r with r | ⟨o,r⟩
 ·exact x a u r
 ·obtain⟨_,q⟩:=x a _ r
  exact q
def Mut:Option HO->Prop
 | some (.lst _)=>True
 | some (.dK _)=>True
 | some (.dT _)=>True
 | some (.set _ _)=>True
 | some (.ins _ _ _)=>True
 | some (.ext _)=>True
 | _=>False
section
variable {P:Program} {w:World} {H:Hp} {h h':Heap} {x e:Addr} {o':HO}
theorem HOk.write (ok:HOk P w H h) (mu:Mut (H x)) (he:e=x\/H e=some (.own x)) (k:∀b u,b≠e->h.get? b=some u->h'.get? b=some u) (heo:∃u,h'.get? e=some u)
 (new:ObjOk P w (upd H x o') h' x o'):HOk P w (upd H x o') h':=λb u q=>by
 have nown:∀c y,H c=some (.own y)->c≠x:=λc y r z=>by subst z;rw[r] at mu;exact mu
 have ntup:∀c xs,H c=some (.tup xs)->c≠x:=λc xs r z=>by subst z;rw[r] at mu;exact mu
 by_cases hb:b=x
 ·subst hb;rw[a_b] at q;cases q;exact new
 ·rw[a_i hb] at q
  by_cases hbe:b=e
  ·have q':H b=some (.own x):=by
    rcases he with z | z
    ·exact absurd (hbe.trans z) hb
    ·rw[hbe];exact z
   rw[q] at q';cases q'
   obtain⟨v,hv⟩:=heo
   exact⟨v,by rw[hbe];exact hv⟩
  ·refine (ok b u q).stay (λc v hc r=>k c v ?_ r) (λc r=>by rw[a_i (nown c b r)];exact r) λc xs r=>by rw[a_i (ntup c xs r)];exact r
   rcases hc with rfl | hc
   ·exact hbe
   ·rintro rfl
    rcases he with z | z
    ·exact nown c b hc z
    ·rw[hc] at z;cases z;exact hb rfl
end
structure Un (fs ex:List Addr) (H H':Hp) (h h':Heap):Prop where
 keep:∀b o,h.get? b=some o->H b=none->b∉fs->b∉ex->h'.get? b=some o
 slot:∀b o,h.get? b=some o->H b=none->b∈fs->b∉ex->∃sl,h'.get? b=some { o with slots:=sl }
 free:∀b o,h.get? b=some o->H b=none->b∉ex->H' b=none
 there:∀b o,h.get? b=some o->b∉ex->∃o',h'.get? b=some o'
 tups:∀b xs,H b=some (.tup xs)->H' b=some (.tup xs)
 frzs:∀b o u,H b=some (.frz o u)->H' b=some (.frz o u)
 tbls:∀b ps,H b=some (.tbl ps)->∃more,H' b=some (.tbl (ps++more))
section
variable {fs fs' ex ex':List Addr} {H H1 H2:Hp} {h h1 h2 h':Heap} {a x e:Addr} {o:HO}
theorem Un.any (u:Un fs ex H H1 h h1) {b:Addr} {ob:Obj} (q:h.get? b=some ob) (n:H b=none) (hx:b∉ex):∃sl,h1.get? b=some { ob with slots:=sl }:=by
 by_cases hb:b∈fs
 ·exact u.slot b ob q n hb hx
 ·exact⟨ob.slots,u.keep b ob q n hb hx⟩
theorem Un.kept (k:∀b u,h.get? b=some u->h'.get? b=some u):Un fs ex H H h h':=
 ⟨λb ob q _ _ _=>k b ob q,λb ob q _ _ _=>⟨ob.slots,k b ob q⟩,λ_ _ _ n _=>n,λb ob q _=>⟨ob,k b ob q⟩,λ_ _ q=>q,λ_ _ _ q=>q,λ_ ps q=>⟨#[],by rw[q];simp⟩⟩
theorem Un.refl:Un fs ex H H h h:=Un.kept λ_ _ q=>q
theorem Un.laid (k:∀b u,h.get? b=some u->h'.get? b=some u) (hp:h.objs.size<=a) (hn:H a=none):Un fs ex H (upd H a o) h h' where
 keep:=λb u q _ _ _=>k b u q
 slot:=λb u q _ _ _=>⟨u.slots,k b u q⟩
 free:=λb u q n _=>by rw[a_i (r_A (r_s (Heap.lt_size q) hp))];exact n
 there:=λb u q _=>⟨u,k b u q⟩
 tups:=λb xs q=>by rw[a_i (a_h q hn)];exact q
 frzs:=λb u xs q=>by rw[a_i (a_h q hn)];exact q
 tbls:=λb ps q=>⟨#[],by rw[a_i (a_h q hn),q];simp⟩
theorem Un.write (mu:Mut (H x)) (he:e=x\/H e=some (.own x)) (k:∀b u,b≠e->h.get? b=some u->h'.get? b=some u) (heo:∃u,h'.get? e=some u):Un fs ex H (upd H x o) h h':=by
 have hx:∀b,H b=none->b≠x:=λb n z=>by subst z;rw[n] at mu;exact mu
 have hb:∀b,H b=none->b≠e:=λb n z=>by
  subst z
  rcases he with r | r
  ·exact hx b n r
  ·rw[n] at r;cases r
 have hm:∀b u,H b=some u->¬ Mut (some u)->b≠x:=λb u q nm z=>by subst z;rw[q] at mu;exact nm mu
 refine⟨λb u q n _ _=>k b u (hb b n) q,λb u q n _ _=>⟨u.slots,k b u (hb b n) q⟩,λb u q n _=>by rw[a_i (hx b n)];exact n,λb u q _=> ?_,
  λb xs q=>by rw[a_i (hm b _ q λz=>z)];exact q,λb u xs q=>by rw[a_i (hm b _ q λz=>z)];exact q,λb ps q=>⟨#[],by rw[a_i (hm b _ q λz=>z),q];simp⟩⟩
 by_cases hbe:b=e
 ·subst hbe;exact heo
 ·exact⟨u,k b u hbe q⟩
end
def trk (h:Heap) (H:Hp):List Addr:=(List.range h.objs.size).filter λa=>(H a).isSome
def k_B (h:Heap) (H:Hp):Heap:=PySem.W.hideAll h (trk h H)
theorem j_h (h:Heap) (H:Hp):(k_B h H).objs.size=h.objs.size:=PySem.W.hideAll_size _ _
theorem k_y {h:Heap} {H:Hp} {b:Addr} {o:Obj} (e:h.get? b=some o) (n:H b=none):(k_B h H).get? b=some o:=
 PySem.W.hideAll_get _ e λhm=>by
  have q:(H b).isSome=true:=(List.mem_filter.mp hm).2
  rw[n] at q;simp at q
theorem m_S {h:Heap} {H:Hp} {b:Addr} {o:Obj} (e:(k_B h H).get? b=some o):h.get? b=some o/\H b=none:=by
 have e':h.get? b=some o:=PySem.W.of_hideAll (trk h H) e
 refine⟨e',?_⟩
 cases q:H b with
 | none=>rfl
 | some x=>
   have hm:b∈trk h H:=List.mem_filter.mpr ⟨List.mem_range.mpr (Heap.lt_size e'),by simp[q]⟩
   have z:(k_B h H).get? b=none:=PySem.W.hideAll_none (trk h H) hm
   rw[z] at e;cases e
def d_3 (g h:Heap) (L:Addr):List (Addr×Obj):=(List.range h.objs.size).filterMap λa=>if a=L\/(g.get? a).isSome=true then none else (h.get? a).map λo=>(a,o)
theorem c_U {g h:Heap} {L a:Addr} {o:Obj} (h1:a≠L) (h2:g.get? a=none) (h3:h.get? a=some o):(a,o)∈d_3 g h L:=
 List.mem_filterMap.mpr ⟨a,List.mem_range.mpr (Heap.lt_size h3),by simp[h1,h2,h3]⟩
theorem e_D {g h:Heap} {L:Addr} {p:Addr×Obj} (hp:p∈d_3 g h L):p.1≠L/\g.get? p.1=none/\h.get? p.1=some p.2:=by
 obtain⟨b,_,e⟩:=List.mem_filterMap.mp hp
 split at e
 ·cases e
 ·rename_i hn
  cases q:h.get? b with
  | none=>rw[q] at e;simp at e
  | some u=>
    rw[q] at e
    simp only[Option.map_some,Option.some.injEq] at e
    subst e
    refine⟨λz=>hn (.inl z),?_, q⟩
    show g.get? b=none
    cases r:g.get? b with
    | none=>rfl
    | some v=>exact (hn (.inr (by simp[r]))).elim
def e_B (g h:Heap) (L d:Addr):List (Addr×Obj):=(d_3 g h L).filter λp=>decide (p.1≠d)
theorem l_c {g h:Heap} {L:Addr}:News g L h (d_3 g h L):=λp hp=>let ⟨a,b,c⟩:=e_D hp;⟨c,a,b⟩
structure Mod (K:PySem.W.Frag) (mg:Str->Option Value) (base:Heap):Prop where
 kin:K.In base
 glob:base.Ns mainGlobals mg
 blt:∃mb,base.Ns builtinsNs mb/\∀x:Str,x≠"__name__"->mb x=bootBuiltins x
 nolimit:base.NoLimit
structure Cx where
 prog:Program
 w:World
 K:PySem.W.Frag
 mg:Str->Option Value
 base:Heap
 A:Around
 N:List Str
 s₀:Shared
 H₀:Hp
 env:Env
 outer:List Env
 stack:List Env
 ex:List Addr
 fn:Str->Bool
 calm:Bool
 pn:List (Addr×Obj)
 xe:Value->Shared->Prop
def frs (l:List Env):List Addr:=l.filterMap (·.frame)
abbrev Cx.fs (X:Cx):List Addr:=frs X.outer
def Vis (sc:Scope) (x:Str):Prop:=sc.names.lookup x=some .local\/sc.names.lookup x=some .cell\/sc.names.lookup x=some .free
def Loc (sc:Scope) (x:Str):Prop:=sc.names.lookup x=some .local\/sc.names.lookup x=some .cell
def q_6 (env:Env) (h:Heap) (m:Str->Option Value) (x:Str) (u:Value):Prop:=
 (env.kindOf x=some .local/\m x=some u)\/((env.kindOf x=some .cell\/env.kindOf x=some .free)/\∃c,env.cells.lookup x=some c/\h.IsCell c (some u))
structure Cx.Ok (X:Cx):Prop where
 mod:Mod X.K X.mg X.base
 kind:X.env.scope.kind= .function
 glob:X.env.globals=mainGlobals
 blt:X.env.builtins=builtinsNs
 above:X.s₀.heap.objs.size<=X.env.locals
 inj:∀x y c,X.env.cells.lookup x=some c->X.env.cells.lookup y=some c->x=y
 has:∀x,(X.env.kindOf x=some .cell\/X.env.kindOf x=some .free)->∃c,X.env.cells.lookup x=some c
 cab:∀x c,X.fn x=true->X.env.cells.lookup x=some c->X.s₀.heap.objs.size<=c
 hd:X.calm=true->X.A.handled=none
 frames:X.A.frames=some X.stack
 stk:X.stack=X.outer\/(X.stack=X.env::X.outer/\X.env.frame=some X.env.locals)
 exf:∀b∈X.ex,b≠X.env.locals/\∀x c,X.env.cells.lookup x=some c->c≠b
 bs:∀b o,X.base.get? b=some o->X.s₀.heap.get? b=some o/\X.H₀ b=none
 bsz:X.base.objs.size<=X.s₀.heap.objs.size
 noex:∀b o,X.base.get? b=some o->b∉X.ex
 exfs:∀b∈X.ex,b∉X.fs
 funs:X.s₀.heap.FunFrames X.base X.outer
 frf:∀b∈X.fs,X.H₀ b=none
structure Inv (X:Cx) (pins:List (Addr×Obj)) (σ:List (Option V)) (H:Hp) (s:Shared):Prop where
 ok:X.Ok
 os:s.os=X.s₀.os
 bare:AllBare s.gens
 base:Un X.fs X.ex X.H₀ H X.s₀.heap s.heap
 loc:∃m,s.heap.Ns X.env.locals m/\∀(i:Nat) (x:Str) (v:V),X.N[i]? =some x->σ[i]? =some (some v)->Vis X.env.scope x->∃u,RelV v u/\q_6 X.env s.heap m x u
 cell:∀x c,X.env.cells.lookup x=some c->∃v,s.heap.IsCell c v
 free:H X.env.locals=none
 freeC:∀x c,X.env.cells.lookup x=some c->H c=none
 pin:∀p∈X.pn++pins,s.heap.get? p.1=some p.2/\H p.1=none/\p.1≠X.env.locals/\p.1∉X.fs/\∀v,p.2.data≠ .cell v
 hok:HOk X.prog X.w H s.heap
 len:σ.length=X.N.length
section
variable {X:Cx} {pins:List (Addr×Obj)} {σ:List (Option V)} {H H':Hp} {s:Shared} {h':Heap}
theorem Cx.Ok.nofr (ok:X.Ok) {b:Addr} {o:Obj} (e:X.base.get? b=some o):b∉X.fs:=λhb=>by
 have:=(ok.funs.mem hb).1
 rw[e] at this;cases this
theorem Inv.bs (I:Inv X pins σ H s):∀b o,X.base.get? b=some o->s.heap.get? b=some o/\H b=none:=λb o e=>
 ⟨I.base.keep b o (I.ok.bs b o e).1 (I.ok.bs b o e).2 (I.ok.nofr e) (I.ok.noex b o e),I.base.free b o (I.ok.bs b o e).1 (I.ok.bs b o e).2 (I.ok.noex b o e)⟩
theorem Inv.bk (I:Inv X pins σ H s):∀b o,X.base.get? b=some o->s.heap.get? b=some o:=λb o e=>(I.bs b o e).1
theorem Inv.mod (I:Inv X pins σ H s):Mod X.K X.mg X.base:=I.ok.mod
theorem Inv.kIn (I:Inv X pins σ H s):X.K.In s.heap:=I.ok.mod.kin.keeps I.bk
theorem Inv.nolimit (I:Inv X pins σ H s):s.heap.NoLimit:=I.ok.mod.nolimit.keeps I.bk
theorem Inv.fr (I:Inv X pins σ H s):∃m,Fr X.base X.env.locals s.heap m:=
 let ⟨m,hn,_⟩:=I.loc
 ⟨m,hn,I.bk,r_x I.ok.bsz I.ok.above⟩
theorem Inv.lt (I:Inv X pins σ H s):X.env.locals < s.heap.objs.size:=let ⟨_,hn,_⟩:=I.loc;hn.lt
theorem Inv.sz (I:Inv X pins σ H s):X.s₀.heap.objs.size<=s.heap.objs.size:=r_x I.ok.above (Nat.le_of_lt I.lt)
theorem Inv.nofs (I:Inv X pins σ H s) {a:Addr} (h:s.heap.objs.size<=a):a∉X.fs:=λhb=>by
 obtain⟨_,o,ho,_⟩:=I.ok.funs.mem hb
 exact absurd (r_s (Heap.lt_size ho) (r_x I.sz h)) (Nat.lt_irrefl _)
theorem Inv.cne (I:Inv X pins σ H s):∀x c,X.env.cells.lookup x=some c->c≠X.env.locals:=λx c e z=>by
 obtain⟨v,o,ho,hd⟩:=I.cell x c e
 obtain⟨m,⟨o',es,ep,ho',hd',_⟩,_⟩:=I.loc
 rw[z,ho'] at ho;cases ho;rw[hd'] at hd;cases hd
theorem Inv.funs (I:Inv X pins σ H s):s.heap.FunFrames X.base X.outer:=by
 have all:∀(l:List Env),(∀b∈frs l,b∈X.fs)->X.s₀.heap.FunFrames X.base l->s.heap.FunFrames X.base l:=by
  intro l
  induction l with
  | nil=>intro _ _;trivial
  | cons env r ih=>
    intro hs hl
    obtain⟨hk,⟨L,o,hf,hn,ho,hd⟩,hr⟩:=hl
    have hL:L∈X.fs:=hs L (by unfold frs;rw[List.filterMap_cons,hf];exact r_g)
    obtain⟨sl,e⟩:=I.base.slot L o ho (I.ok.frf L hL) hL λz=>I.ok.exfs L z hL
    exact⟨hk,⟨L,_,hf,hn,e,hd⟩,ih (λb hb=>hs b (by unfold frs;rw[List.filterMap_cons,hf];exact r_f _ hb)) hr⟩
 exact all X.outer (λ_ hb=>hb) I.ok.funs
theorem Inv.stack (I:Inv X pins σ H s):s.heap.FunFrames X.base X.stack:=by
 rcases I.ok.stk with e | ⟨e,hf⟩
 ·rw[e];exact I.funs
 ·rw[e]
  obtain⟨m,hn,_⟩:=I.loc
  refine .cons (by rw[I.ok.kind];decide) hf hn ?_ I.funs
  exact Heap.get?_none_of_le (r_x I.ok.bsz I.ok.above)
theorem Inv.stkSub (I:Inv X pins σ H s):∀b∈frs X.stack,b∈X.env.locals::X.fs:=λb hb=>by
 rcases I.ok.stk with e | ⟨e,hf⟩
 ·rw[e] at hb;exact r_f _ hb
 ·rw[e] at hb
  unfold frs at hb
  rw[List.filterMap_cons,hf] at hb
  exact hb
theorem Inv.stkFree (I:Inv X pins σ H s):∀b∈frs X.stack,H b=none:=λb hb=>by
 rcases r_n.mp (I.stkSub b hb) with e | hb
 ·rw[e];exact I.free
 ·obtain⟨_,o,ho,_⟩:=I.ok.funs.mem hb
  exact I.base.free b o ho (I.ok.frf b hb) λz=>I.ok.exfs b z hb
theorem Inv.step {g':Array GenState} {t':Nat} {d':Drawn} {ch:List Addr} (I:Inv X pins σ H s)
 (hch:∀b∈ch,(b∈X.ex\/X.s₀.heap.objs.size<=b)/\b≠X.env.locals/\(∀x c,X.env.cells.lookup x=some c->c≠b)/\∀p∈X.pn++pins,p.1≠b)
 (keep:∀b o,b≠X.env.locals->b∉X.fs->b∉ch->s.heap.get? b=some o->H b=none->h'.get? b=some o)
 (slot:∀b o,b≠X.env.locals->b∈X.fs->b∉ch->s.heap.get? b=some o->H b=none->∃sl,h'.get? b=some { o with slots:=sl }) (free:∀b o,b∉ch->s.heap.get? b=some o->H b=none->H' b=none)
 (there:∀b o,b∉ch->s.heap.get? b=some o->∃o',h'.get? b=some o')
 (tups:∀b xs,H b=some (.tup xs)->H' b=some (.tup xs)) (frzs:∀b o u,H b=some (.frz o u)->H' b=some (.frz o u)) (tbls:∀b ps,H b=some (.tbl ps)->∃more,H' b=some (.tbl (ps++more)))
 (ns:∀m,s.heap.Ns X.env.locals m->h'.Ns X.env.locals m) (hok:HOk X.prog X.w H' h') (hg:AllBare g'):
 Inv X pins σ H' { s with heap:=h',gens:=g',drawn:=d',toks:=t' }:=by
 have neL:∀b o,X.s₀.heap.get? b=some o->b≠X.env.locals:=λb o e=>r_A (r_s (Heap.lt_size e) I.ok.above)
 have neC:∀b o,X.s₀.heap.get? b=some o->b∉X.ex->b∉ch:=λb o e hx hb=>by
  rcases (hch b hb).1 with z | z
  ·exact hx z
  ·exact absurd (r_s (Heap.lt_size e) z) (Nat.lt_irrefl _)
 have cellK:∀x c,X.env.cells.lookup x=some c->∀v,s.heap.IsCell c v->h'.IsCell c v:=λx c e v ⟨o,ho,hd⟩=>by
  have nch:c∉ch:=λz=>(hch c z).2.2.1 x c e rfl
  by_cases hc:c∈X.fs
  ·obtain⟨sl,q⟩:=slot c o (I.cne x c e) hc nch ho (I.freeC x c e)
   exact⟨_,q,hd⟩
  ·exact⟨o,keep c o (I.cne x c e) hc nch ho (I.freeC x c e),hd⟩
 refine⟨I.ok,I.os,hg,⟨λb o e n hb hx=> ?_, λb o e n hb hx=> ?_, λb o e n hx=> ?_, λb o e hx=> ?_, λb xs e=>tups b xs (I.base.tups b xs e),λb o xs e=>frzs b o xs (I.base.frzs b o xs e),λb ps e=> ?_⟩,?_, λx c e=> ?_, ?_, λx c e=> ?_, λp hp=> ?_, hok,I.len⟩
 ·exact keep b o (neL b o e) hb (neC b o e hx) (I.base.keep b o e n hb hx) (I.base.free b o e n hx)
 ·obtain⟨sl,e1⟩:=I.base.slot b o e n hb hx
  obtain⟨sl',e2⟩:=slot b _ (neL b o e) hb (neC b o e hx) e1 (I.base.free b o e n hx)
  exact⟨sl',e2⟩
 ·obtain⟨o',e1⟩:=I.base.there b o e hx
  exact free b o' (neC b o e hx) e1 (I.base.free b o e n hx)
 ·obtain⟨o',e1⟩:=I.base.there b o e hx
  exact there b o' (neC b o e hx) e1
 ·obtain⟨m1,e1⟩:=I.base.tbls b ps e
  obtain⟨m2,e2⟩:=tbls b _ e1
  exact⟨m1++m2,by rw[e2,Array.append_assoc]⟩
 ·obtain⟨m,hn,hl⟩:=I.loc
  refine⟨m,ns m hn,λi x v e1 e2 e3=> ?_⟩
  obtain⟨u,r,l⟩:=hl i x v e1 e2 e3
  refine⟨u,r,?_⟩
  rcases l with l | ⟨k,c,e,z⟩
  ·exact .inl l
  ·exact .inr ⟨k,c,e,cellK x c e _ z⟩
 ·obtain⟨v,z⟩:=I.cell x c e
  exact⟨v,cellK x c e v z⟩
 ·obtain⟨m,⟨o,_,_,ho,_⟩,_⟩:=I.loc
  exact free _ o (λz=>(hch _ z).2.1 rfl) ho I.free
 ·obtain⟨v,o,ho,hd⟩:=I.cell x c e
  exact free c o (λz=>(hch c z).2.2.1 x c e rfl) ho (I.freeC x c e)
 ·obtain⟨e,n,ne,nf,d⟩:=I.pin p hp
  have nch:p.1∉ch:=λz=>(hch p.1 z).2.2.2 p hp rfl
  exact⟨keep p.1 p.2 ne nf nch e n,free p.1 p.2 nch e n,ne,nf,d⟩
theorem Inv.un {t':Nat} (I:Inv X pins σ H s) (u:Un X.fs [] H H' s.heap h') (hok:HOk X.prog X.w H' h'):Inv X pins σ H' { s with heap:=h',toks:=t' }:=by
 obtain⟨m,⟨o,es,ep,ho,r⟩,_⟩:=id I.loc
 obtain⟨sl,hL⟩:=u.any ho I.free (by simp)
 exact I.step (g':=s.gens) (d':=s.drawn) (ch:= []) (λ_ z=>nomatch z) (λb o _ hb _ e n=>u.keep b o e n hb (by simp)) (λb o _ hb _ e n=>u.slot b o e n hb (by simp)) (λb o _ e n=>u.free b o e n (by simp)) (λb o _ e=>u.there b o e (by simp)) u.tups u.frzs u.tbls (λm' hm=>by
  obtain⟨o',es',ep',ho',r'⟩:=hm
  rw[ho] at ho';cases ho'
  exact⟨_,es',ep',hL,r'⟩) hok I.bare
theorem Inv.call {g':Array GenState} {t':Nat} {d':Drawn} {ch:List Addr} (I:Inv X pins σ H s) (u:Un (frs X.stack) ch H H' s.heap h') (hok:HOk X.prog X.w H' h') (hg:AllBare g')
 (hch:∀b∈ch,(b∈X.ex\/X.s₀.heap.objs.size<=b)/\b≠X.env.locals/\(∀x c,X.env.cells.lookup x=some c->c≠b)/\∀p∈X.pn++pins,p.1≠b):
 Inv X pins σ H' { s with heap:=h',gens:=g',drawn:=d',toks:=t' }:=by
 obtain⟨m,⟨o,es,ep,ho,r⟩,_⟩:=id I.loc
 obtain⟨sl,hL⟩:=u.any ho I.free λz=>(hch _ z).2.1 rfl
 exact I.step (ch:=ch) hch (λb o hL hb hc e n=>u.keep b o e n (λz=>(r_n.mp (I.stkSub b z)).elim hL hb) hc) (λb o _ _ hc e n=>u.any e n hc) (λb o hc e n=>u.free b o e n hc) (λb o hc e=>u.there b o e hc) u.tups u.frzs u.tbls (λm' hm=>by
  obtain⟨o',es',ep',ho',r'⟩:=hm
  rw[ho] at ho';cases ho'
  exact⟨_,es',ep',hL,r'⟩) hok hg
theorem Inv.turned {t':Nat} {it:Addr} (I:Inv X pins σ H s) (k:∀b o,b≠it->s.heap.get? b=some o->h'.get? b=some o) (hn:H it=none) (hL:it≠X.env.locals)
 (h1:it∈X.ex\/X.s₀.heap.objs.size<=it) (h2:∀x c,X.env.cells.lookup x=some c->c≠it) (h3:∀p∈X.pn++pins,p.1≠it):Inv X pins σ H { s with heap:=h',toks:=t' }:=by
 have nit:∀b u,H b=some u->b≠it:=λb u e z=>by rw[z,hn] at e;cases e
 refine I.step (g':=s.gens) (d':=s.drawn) (ch:= [it]) (λb hb=> ?_) (λb o _ _ hc e _=>k b o (λz=>hc (by simp[z])) e) (λb o _ _ hc e _=>⟨o.slots,k b o (λz=>hc (by simp[z])) e⟩) (λ_ _ _ _ n=>n)
  (λb o hc e=>⟨o,k b o (λz=>hc (by simp[z])) e⟩) (λ_ _ e=>e) (λ_ _ _ e=>e) (λb ps e=>⟨#[],by rw[e];simp⟩) (λm hm=> ?_) (λb u e=> ?_) I.bare
 ·have e:b=it:=by simpa using hb
  subst e
  exact⟨h1,hL,h2,h3⟩
 ·obtain⟨o,es,ep,ho,r⟩:=hm
  exact⟨o,es,ep,k _ o (Ne.symm hL) ho,r⟩
 ·refine (I.hok b u e).stay (λc v hc q=>k c v ?_ q) (λ_ q=>q) λ_ _ q=>q
  rcases hc with z | z
  ·rw[z];exact nit b u e
  ·exact nit c _ z
theorem Inv.tok (I:Inv X pins σ H s) (t:Nat):Inv X pins σ H { s with toks:=t }:=I.un (h':=s.heap) (t':=t) Un.refl I.hok
theorem Inv.kept {t':Nat} (I:Inv X pins σ H s) (k:∀b u,s.heap.get? b=some u->h'.get? b=some u):Inv X pins σ H { s with heap:=h',toks:=t' }:=I.un (Un.kept k) (I.hok.kept k)
theorem Inv.laid {a:Addr} {o:HO} {t':Nat} (I:Inv X pins σ H s) (k:∀b u,s.heap.get? b=some u->h'.get? b=some u) (hp:s.heap.objs.size<=a) (new:ObjOk X.prog X.w (upd H a o) h' a o):
 Inv X pins σ (upd H a o) { s with heap:=h',toks:=t' }:=I.un (Un.laid k hp (I.hok.fresh hp)) (I.hok.laid k hp new)
theorem Inv.write {x e:Addr} {o:HO} {t':Nat} (I:Inv X pins σ H s) (mu:Mut (H x)) (he:e=x\/H e=some (.own x)) (k:∀b u,b≠e->s.heap.get? b=some u->h'.get? b=some u) (heo:∃u,h'.get? e=some u)
 (new:ObjOk X.prog X.w (upd H x o) h' x o):Inv X pins σ (upd H x o) { s with heap:=h',toks:=t' }:=I.un (Un.write mu he k heo) (I.hok.write mu he k heo new)
theorem Inv.pins_of {pins':List (Addr×Obj)} (I:Inv X pins σ H s) (h:∀p∈pins',s.heap.get? p.1=some p.2/\H p.1=none/\p.1≠X.env.locals/\p.1∉X.fs/\∀v,p.2.data≠ .cell v):Inv X pins' σ H s:=
 ⟨I.ok,I.os,I.bare,I.base,I.loc,I.cell,I.free,I.freeC,λp hp=>(r_u.mp hp).elim (λz=>I.pin p (r_L _ z)) (h p),I.hok,I.len⟩
theorem h_H {N:List Str} (hN:N.Nodup) {i j:Nat} {x:Str} (a:N[i]? =some x) (b:N[j]? =some x):i=j:=by
 obtain⟨h1,e1⟩:=r_q.mp a
 obtain⟨h2,e2⟩:=r_q.mp b
 exact (List.getElem_inj hN).mp (e1.trans e2.symm)
theorem k_o {M:Model} {A:Around} {E:Value->Shared->Prop} {i:Nat} {x:Str} {v:V} {u:Value} {Q:Unit->Shared->Prop} (I:Inv X pins σ H s) (hN:X.N.Nodup) (hi:X.N[i]? =some x) (hx:Loc X.env.scope x) (r:RelV v u)
 (h:∀s',Inv X pins (σ.set i (some v)) H s'->(∃a,Heap.SameBut a s.heap s'.heap/\(a=X.env.locals\/X.env.cells.lookup x=some a))->Q () s') (hf:X.fn x=true\/X.env.scope.names.lookup x=some .local:=by first | exact .inl rfl | exact .inr rfl | assumption):wpAny M A (storeName X.env x u) Q E s:=by
 obtain⟨m,hn,hl⟩:=id I.loc
 have hcls:(X.env.scope.kind == .class||(X.env.scope.kind == .module&&X.env.locals != X.env.globals))=false:=by rw[I.ok.kind];rfl
 have hiσ:i < σ.length:=by rw[I.len];exact (r_q.mp hi).1
 have cne:=I.cne
 have tracked:∀{a:Addr} {h':Heap},(∃o,s.heap.get? a=some o/\H a=none)->Heap.SameBut a s.heap h'->HOk X.prog X.w H h':=λ{a h'} ha hs b ob e=>by
  obtain⟨_,_,hfree⟩:=ha
  refine (I.hok b ob e).stay (λc w' hc q=>(hs.2 c ?_).trans q) (λ_ q=>q) λ_ _ q=>q
  rintro rfl
  rcases hc with rfl | hc
  ·rw[hfree] at e;cases e
  ·rw[hfree] at hc;cases hc
 rcases hx with hk | hk
 ·refine wpAny_storeName_local hk hn (λh' hn' hs=> ?_) hcls
  obtain⟨oL,_,_,hoL,_⟩:=id hn
  refine h _ ⟨I.ok,I.os,I.bare,⟨λb o e n hb hx=> ?_, λb o e n hb hx=> ?_, I.base.free,λb o e hx=> ?_, I.base.tups,I.base.frzs,I.base.tbls⟩,⟨_,hn',λj y v' e1 e2 e3=> ?_⟩,λy c e=> ?_, I.free,I.freeC,λp hp=> ?_, tracked ⟨oL,hoL,I.free⟩ hs,by simpa using I.len⟩ ⟨_,hs,.inl rfl⟩
  ·exact (hs.2 b (r_A (r_s (Heap.lt_size e) I.ok.above))).trans (I.base.keep b o e n hb hx)
  ·obtain⟨sl,e1⟩:=I.base.slot b o e n hb hx
   exact⟨sl,(hs.2 b (r_A (r_s (Heap.lt_size e) I.ok.above))).trans e1⟩
  ·obtain⟨o',e1⟩:=I.base.there b o e hx
   exact⟨o',(hs.2 b (r_A (r_s (Heap.lt_size e) I.ok.above))).trans e1⟩
  ·by_cases hj:j=i
   ·subst hj
    rw[hi] at e1;cases e1
    rw[List.getElem?_set_self hiσ] at e2
    cases e2
    exact⟨u,r,.inl ⟨hk,by simp⟩⟩
   ·rw[List.getElem?_set_ne (Ne.symm hj)] at e2
    obtain⟨u',r',q⟩:=hl j y v' e1 e2 e3
    refine⟨u',r',?_⟩
    rcases q with⟨k,e⟩ | ⟨k,c,e,z⟩
    ·refine .inl ⟨k,?_⟩
     have:y≠x:=λe=>hj (h_H hN e1 (e ▸ hi))
     simp[this,e]
    ·exact .inr ⟨k,c,e,z.sameBut hs (cne y c e)⟩
  ·obtain⟨w',z⟩:=I.cell y c e
   exact⟨w',z.sameBut hs (cne y c e)⟩
  ·obtain⟨e,n,ne,nf,d⟩:=I.pin p hp
   exact⟨(hs.2 p.1 ne).trans e,n,ne,nf,d⟩
 ·have hfn:X.fn x=true:=by
   rcases hf with z | z
   ·exact z
   ·rw[z] at hk;cases hk
  obtain⟨c,hc⟩:=I.ok.has x (.inl hk)
  obtain⟨w',z⟩:=I.cell x c hc
  refine wpAny_storeName_cell I.ok.kind hk hc z (λh' hc' hs=> ?_)
  obtain⟨oc,hoc,hocd⟩:=id z
  refine h { s with heap:=h' } ⟨I.ok,I.os,I.bare,⟨λb o e n hb hx=> ?_, λb o e n hb hx=> ?_, I.base.free,λb o e hx=> ?_, I.base.tups,I.base.frzs,I.base.tbls⟩,⟨m,hn.sameBut hs (Ne.symm (cne x c hc)),λj y v' e1 e2 e3=> ?_⟩,λy c' e=> ?_, I.free,I.freeC,λp hp=> ?_, tracked ⟨oc,hoc,I.freeC x c hc⟩ hs,by simpa using I.len⟩ ⟨c,hs,.inr hc⟩
  ·exact (hs.2 b (r_A (r_s (Heap.lt_size e) (I.ok.cab x c hfn hc)))).trans (I.base.keep b o e n hb hx)
  ·obtain⟨sl,e1⟩:=I.base.slot b o e n hb hx
   exact⟨sl,(hs.2 b (r_A (r_s (Heap.lt_size e) (I.ok.cab x c hfn hc)))).trans e1⟩
  ·obtain⟨o',e1⟩:=I.base.there b o e hx
   exact⟨o',(hs.2 b (r_A (r_s (Heap.lt_size e) (I.ok.cab x c hfn hc)))).trans e1⟩
  ·by_cases hj:j=i
   ·subst hj
    rw[hi] at e1;cases e1
    rw[List.getElem?_set_self hiσ] at e2
    cases e2
    exact⟨u,r,.inr ⟨.inl hk,c,hc,hc'⟩⟩
   ·rw[List.getElem?_set_ne (Ne.symm hj)] at e2
    obtain⟨u',r',q⟩:=hl j y v' e1 e2 e3
    refine⟨u',r',?_⟩
    rcases q with q | ⟨k,c',e,z'⟩
    ·exact .inl q
    ·refine .inr ⟨k,c',e,z'.sameBut hs ?_⟩
     rintro rfl
     exact hj (h_H hN e1 (I.ok.inj _ _ _ e hc ▸ hi))
  ·by_cases hcc:c'=c
   ·subst hcc;exact⟨_,hc'⟩
   ·obtain⟨w2,z2⟩:=I.cell y c' e
    exact⟨w2,z2.sameBut hs hcc⟩
  ·obtain⟨e,n,ne,nf,d⟩:=I.pin p hp
   refine⟨(hs.2 p.1 ?_).trans e,n,ne,nf,d⟩
   intro q
   rw[q,hoc] at e
   have q':oc=p.2:=r_j e
   exact d w' (by rw[<-q'];exact hocd)
theorem d_P {M:Model} {A:Around} {E:Value->Shared->Prop} {i:Nat} {x:Str} {v:V} {u:Value} {Q:Unit->Shared->Prop} (I:Inv X pins σ H s) (hN:X.N.Nodup) (hi:X.N[i]? =some x) (hx:Loc X.env.scope x) (r:RelV v u)
 (h:∀s',Inv X pins (σ.set i (some v)) H s'->Q () s') (hf:X.fn x=true\/X.env.scope.names.lookup x=some .local:=by first | exact .inl rfl | exact .inr rfl | assumption):wpAny M A (storeName X.env x u) Q E s:=
 k_o I hN hi hx r (λs' I' _=>h s' I') hf
theorem Inv.call' {s':Shared} {ch:List Addr} (I:Inv X pins σ H s) (ho:s'.os=s.os) (u:Un (frs X.stack) ch H H' s.heap s'.heap) (hok:HOk X.prog X.w H' s'.heap) (hg:AllBare s'.gens)
 (hch:∀b∈ch,(b∈X.ex\/X.s₀.heap.objs.size<=b)/\b≠X.env.locals/\(∀x c,X.env.cells.lookup x=some c->c≠b)/\∀p∈X.pn++pins,p.1≠b):Inv X pins σ H' s':=by
 obtain⟨h',g',d',t',o'⟩:=s'
 have e:o'=s.os:=ho
 subst e
 exact I.call (g':=g') (t':=t') (d':=d') u hok hg hch
end
abbrev XK:=Value->Option Addr->Hp->Prop
abbrev St:=List (Option V)
abbrev VK:=V->Hp->Prop
abbrev TE:=St->Hp->VK->Prop
abbrev TT:=St->Hp->(Bool->Hp->Prop)->Prop
abbrev TA:=St->Hp->(List V->Hp->Prop)->Prop
structure i_y where
 nx:St->Hp->Prop
 rt:VK
 bk:St->Hp->Prop:=λ_ _=>False
 ct:St->Hp->Prop:=λ_ _=>False
abbrev TS:=i_y->St->Hp->Prop
def EP (X:Cx) (pins:List (Addr×Obj)) (σ:St) (Q:VK) (u:Value) (s':Shared):Prop:=∃v H',Inv X pins σ H' s'/\RelV v u/\Q v H'
def TP (X:Cx) (pins:List (Addr×Obj)) (σ:St) (Q:Bool->Hp->Prop) (b:Bool) (s':Shared):Prop:=∃H',Inv X pins σ H' s'/\Q b H'
def AP (X:Cx) (pins:List (Addr×Obj)) (σ:St) (Q:List V->Hp->Prop) (us:List Value) (s':Shared):Prop:=∃vs H',Inv X pins σ H' s'/\Vals vs us/\Q vs H'
def SP (X:Cx) (pins:List (Addr×Obj)) (D:i_y) (f:Flow) (s':Shared):Prop:=
 match f with
 | .next=>∃σ' H',Inv X pins σ' H' s'/\D.nx σ' H'
 | .brk=>∃σ' H',Inv X pins σ' H' s'/\D.bk σ' H'
 | .cont=>∃σ' H',Inv X pins σ' H' s'/\D.ct σ' H'
 | .ret u=>∃v σ' H',Inv X pins σ' H' s'/\RelV v u/\D.rt v H'
def PE (X:Cx) (e:Expr) (t:TE):Prop:=
 ∀(pins:List (Addr×Obj)) (s:Shared) (σ:St) (H:Hp) (Q:VK),Inv X pins σ H s->t σ H Q->wpAny (model X.prog X.w) X.A (eval e X.env) (EP X pins σ Q) X.xe s
def PT (X:Cx) (e:Expr) (t:TT):Prop:=
 ∀(pins:List (Addr×Obj)) (s:Shared) (σ:St) (H:Hp) (Q:Bool->Hp->Prop),Inv X pins σ H s->t σ H Q->wpAny (model X.prog X.w) X.A (isTrue e X.env (eval e X.env)) (TP X pins σ Q) X.xe s
def PW (X:Cx) (e:Expr) (t:TT):Prop:=
 ∀(whole:Sem Value) (pins:List (Addr×Obj)) (s:Shared) (σ:St) (H:Hp) (Q:Bool->Hp->Prop),Inv X pins σ H s->t σ H Q->wpAny (model X.prog X.w) X.A (isTrue e X.env whole) (TP X pins σ Q) X.xe s
theorem PW.pt {X:Cx} {e:Expr} {t:TT} (h:PW X e t):PT X e t:=h _
def PA (X:Cx) (es:List Expr) (t:TA):Prop:=
 ∀(pos:Pos) (pins:List (Addr×Obj)) (s:Shared) (σ:St) (H:Hp) (Q:List V->Hp->Prop),Inv X pins σ H s->t σ H Q->wpAny (model X.prog X.w) X.A (spliced (backTo pos (starEach es X.env))) (AP X pins σ Q) X.xe s
def PS (X:Cx) (st:Stmt) (t:TS):Prop:=
 ∀(pins:List (Addr×Obj)) (s:Shared) (σ:St) (H:Hp) (D:i_y),Inv X pins σ H s->t D σ H->wpAny (model X.prog X.w) X.A (exec st X.env) (SP X pins D) X.xe s
def PSs (X:Cx) (st:List Stmt) (t:TS):Prop:=
 ∀(pins:List (Addr×Obj)) (s:Shared) (σ:St) (H:Hp) (D:i_y),Inv X pins σ H s->t D σ H->wpAny (model X.prog X.w) X.A (execs st X.env) (SP X pins D) X.xe s
theorem thn {α:Type} {t:Sem α} {Q Q':α->Shared->Prop} {M:Model} {A:Around} {E:Value->Shared->Prop} {s:Shared} (h:wpAny M A t Q E s) (hQ:∀a s,Q a s->Q' a s):wpAny M A t Q' E s:=wpAny_mono h hQ λ_ _ x=>x
section
variable {X:Cx}
theorem bin {a b:Expr} {ta tb:TE} (ha:PE X a ta) (hb:PE X b tb) {pins:List (Addr×Obj)} {s:Shared} {σ:St} {H:Hp} {R:V->V->Hp->Prop} (I:Inv X pins σ H s) (h:ta σ H λx H1=>tb σ H1 λy H2=>R x y H2)
 {α:Type} {Q:α->Shared->Prop} {f:Value->Value->Sem α}
 (hf:∀v u s2 x y H2,Inv X pins σ H2 s2->RelV x v->RelV y u->R x y H2->wpAny (model X.prog X.w) X.A (f v u) Q X.xe s2):
 wpAny (model X.prog X.w) X.A (eval a X.env) (λv s₁=>wpAny (model X.prog X.w) X.A (eval b X.env) (λu s₂=>wpAny (model X.prog X.w) X.A (f v u) Q X.xe s₂) X.xe s₁) X.xe s:=by
 refine thn (ha pins s σ H _ I h) λv s1 ⟨x,H1,I1,r1,q1⟩=> ?_
 refine thn (hb pins s1 σ H1 _ I1 q1) λu s2 ⟨y,H2,I2,r2,q2⟩=> ?_
 exact hf v u s2 x y H2 I2 r1 r2 q2
def q_p (i:Nat):TE:=λσ H Q=>∃v,σ[i]? =some (some v)/\Q v H
def tC (v:V):TE:=λ_ H Q=>Q v H
theorem n_8 {i:Nat} {x:Str} {pos:Pos} (hN:X.N[i]? =some x) (hv:Vis X.env.scope x) (hd:(x == ("__debug__":Str))=false:=by decide) (hcd:(x == ("__classdict__":Str))=false:=by decide):PE X (.Name x pos) (q_p i):=by
 intro pins s σ H Q I h
 obtain⟨v,e,h⟩:=h
 obtain⟨m,hn,hl⟩:=I.loc
 obtain⟨u,r,l⟩:=hl i x v hN e hv
 have fin:EP X pins σ Q u s:=⟨v,H,I,r,h⟩
 rcases l with⟨hk,hm⟩ | ⟨hk,c,hc,hcell⟩
 ·exact wpAny_Name (wpAny_loadName_local I.ok.kind hk hn hm fin) hd
 ·rcases hk with hk | hk
  ·exact wpAny_Name (wpAny_loadName_cell I.ok.kind hk hc hcell fin) hd
  ·exact wpAny_Name (wpAny_loadName_free I.ok.kind hk hc hcell fin hcd) hd
theorem a_f {i j pos}:PE X (.Constant (.int i) j pos) (tC (.int i)):=λ_ _ _ H _ I h=>wpAny_Constant_int ⟨.int i,H,I.tok _,⟨_,rfl⟩,h⟩
theorem g_H {b j pos}:PE X (.Constant (.bool b) j pos) (tC (.bl b)):=λ_ _ _ H _ I h=>Constant_bool ⟨.bl b,H,I,rfl,h⟩
theorem l_F {j pos}:PE X (.Constant .none j pos) (tC .non):=λ_ _ _ H _ I h=>Constant_none ⟨.non,H,I,rfl,h⟩
theorem a_l {x j pos}:PE X (.Constant (.str x) j pos) (tC (.str x)):=λ_ _ _ H _ I h=>Calls.Constant_str ⟨.str x,H,I.tok _,⟨_,rfl⟩,h⟩
def Gl (X:Cx) (x:Str):Prop:=X.env.kindOf x=some .globalImplicit
theorem c_P {E:Value->Shared->Prop} {pins:List (Addr×Obj)} {s:Shared} {σ:St} {H:Hp} {x:Str} {u:Value} {pos:Pos} {Q:Value->Shared->Prop} (I:Inv X pins σ H s) (hg:Gl X x) (hm:X.mg x=some u) (h:Q u s)
 (hd:(x == ("__debug__":Str))=false:=by decide):wpAny (model X.prog X.w) X.A (eval (.Name x pos) X.env) Q E s:=
 Calls.Name_function_global I.ok.kind hg (Calls.loadGlobal_global (by rw[I.ok.glob];exact I.mod.glob.keeps I.bk) hm h) hd
theorem f_6 {E:Value->Shared->Prop} {pins:List (Addr×Obj)} {s:Shared} {σ:St} {H:Hp} {x:Str} {u:Value} {pos:Pos} {Q:Value->Shared->Prop} (I:Inv X pins σ H s) (hg:Gl X x) (hm:X.mg x=none) (hv:bootBuiltins x=some u) (h:Q u s)
 (hn:x≠"__name__":=by decide) (hd:(x == ("__debug__":Str))=false:=by decide):wpAny (model X.prog X.w) X.A (eval (.Name x pos) X.env) Q E s:=by
 obtain⟨mb,h1,h2⟩:=I.mod.blt
 exact Calls.Name_function_global I.ok.kind hg (Calls.loadGlobal_builtin (by rw[I.ok.glob];exact I.mod.glob.keeps I.bk) hm (by rw[I.ok.blt];exact h1.keeps I.bk) ((h2 x hn).trans hv) h) hd
theorem g_Q {x:Str} {v:V} {u:Value} {pos:Pos} (hg:Gl X x) (hm:X.mg x=some u) (r:RelV v u) (hd:(x == ("__debug__":Str))=false:=by decide):PE X (.Name x pos) (tC v):=
 λ_ _ _ H _ I h=>c_P I hg hm ⟨v,H,I,r,h⟩ hd
theorem m_L {x:Str} {v:V} {u:Value} {pos:Pos} (hg:Gl X x) (hm:X.mg x=none) (hv:bootBuiltins x=some u) (r:RelV v u) (hn:x≠"__name__":=by decide) (hd:(x == ("__debug__":Str))=false:=by decide):PE X (.Name x pos) (tC v):=
 λ_ _ _ H _ I h=>f_6 I hg hm hv ⟨v,H,I,r,h⟩ hn hd
variable {a b:Expr} {ta tb:TE} {pos:Pos}
def PC (X:Cx) (op:CmpOp) (a b:Expr) (t:TE):Prop:=
 ∀(pins:List (Addr×Obj)) (s:Shared) (σ:St) (H:Hp) (Q:VK),Inv X pins σ H s->t σ H Q->
  wpAny (model X.prog X.w) X.A (eval a X.env) (λv s₁=>wpAny (model X.prog X.w) X.A (eval b X.env) (λu s₂=>wpAny (model X.prog X.w) X.A (compareOp op v u) (EP X pins σ Q) X.xe s₂) X.xe s₁) X.xe s
theorem k_X (b:Expr) {op:CmpOp} (h:op≠ .In) (h2:op≠ .NotIn):behindInMarks op b=false:=by
 have e1:(op == CmpOp.In)=false:=by cases op <;> first | rfl | exact absurd rfl h
 have e2:(op == CmpOp.NotIn)=false:=by cases op <;> first | rfl | exact absurd rfl h2
 cases b <;> simp[behindInMarks,e1,e2]
def p_Q (ta:TE):TE:=λσ H Q=>ta σ H λx H1=>Q (.bl (!decide (x= .non))) H1
theorem RelV.none_iff {x:V} {v:Value} (r:RelV x v):(v == Value.none)=decide (x= .non):=by
 cases x with
 | non=>cases r;rfl
 | bl _=>cases r;rfl
 | int _=>obtain⟨t,rfl⟩:=r;rfl
 | str _=>obtain⟨t,rfl⟩:=r;rfl
 | byt _=>obtain⟨t,rfl⟩:=r;rfl
 | flt _=>obtain⟨t,rfl⟩:=r;rfl
 | ref _=>cases r;rfl
 | ty _=>cases r;rfl
theorem i_K {j pos'} (ha:PE X a ta):PC X .IsNot a (.Constant .none j pos') (p_Q ta):=by
 intro pins s σ H Q I h
 refine thn (ha pins s σ H _ I h) λv s1 ⟨x,H1,I1,r1,q1⟩=> ?_
 exact Constant_none (isnot_none_gen ⟨.bl _,H1,I1,by rw[r1.none_iff];rfl,q1⟩)
def tB (t:TE):TT:=λσ H Q=>t σ H λx H1=>∃c,x= .bl c/\Q c H1
theorem d_y {op:CmpOp} {t:TE} (h:PC X op a b t) (h1:behindInMarks op b=false:=by first | exact k_X _ (by decide) (by decide) | rfl):PT X (.Compare a [op] [b] pos) (tB t):=by
 intro pins s σ H Q I hw
 refine wpAny_isTrue_Compare1 (thn (h pins s σ H _ I hw) λv s1 h1=>thn h1 λu s2 h2=>thn h2 λc s3 ⟨x,H1,I1,r1,q1⟩=> ?_) h1
 obtain⟨d,rfl,q⟩:=q1
 cases r1
 exact wpAny_truthy_bool ⟨H1,I1,q⟩
theorem c_M {e:Expr} {t:TE} (h:PE X e t) (he:∀whole,isTrue e X.env whole=(do let v<-whole;standAt e.pos;holding [v] (truthy v)):=by intro _;rfl):PT X e (tB t):=by
 intro pins s σ H Q I hw
 refine isTrue_plain (thn (h pins s σ H _ I hw) λv s1 ⟨x,H1,I1,r1,q1⟩=> ?_) (he _)
 obtain⟨d,rfl,q⟩:=q1
 cases r1
 exact wpAny_truthy_bool ⟨H1,I1,q⟩
variable {tA tB':TT} {e_B:List Expr}
def r_b (t u:TT):TT:=λσ H Q=>t σ H λc H1=>if c=true then u σ H1 Q else Q false H1
def tOr (t u:TT):TT:=λσ H Q=>t σ H λc H1=>if c=true then Q true H1 else u σ H1 Q
def q_I (t:TT):TT:=λσ H Q=>t σ H λc H1=>Q (!c) H1
theorem c_Y (ha:PT X a tA):PW X (.BoolOp .And [a] pos) tA:=by
 intro wh pins s σ H Q I h
 refine isTrue_and (thn (ha pins s σ H Q I h) λc s1 e=> ?_)
 cases c with
 | true=>exact isTrue_and_nil e
 | false=>exact e
theorem c_y (ha:PT X a tA):PW X (.BoolOp .Or [a] pos) tA:=by
 intro wh pins s σ H Q I h
 refine isTrue_or (thn (ha pins s σ H Q I h) λc s1 e=> ?_)
 cases c with
 | false=>exact isTrue_or_nil e
 | true=>exact e
theorem e_j (ha:PT X a tA) (hb:PW X (.BoolOp .And (b::e_B) pos) tB'):PW X (.BoolOp .And (a::b::e_B) pos) (r_b tA tB'):=by
 intro wh pins s σ H Q I h
 refine isTrue_and (thn (ha pins s σ H _ I h) λc s1 ⟨H1,I1,q1⟩=> ?_)
 cases c with
 | true=>exact hb wh pins s1 σ H1 Q I1 q1
 | false=>exact⟨H1,I1,q1⟩
theorem e_c (ha:PT X a tA) (hb:PW X (.BoolOp .Or (b::e_B) pos) tB'):PW X (.BoolOp .Or (a::b::e_B) pos) (tOr tA tB'):=by
 intro wh pins s σ H Q I h
 refine isTrue_or (thn (ha pins s σ H _ I h) λc s1 ⟨H1,I1,q1⟩=> ?_)
 cases c with
 | true=>exact⟨H1,I1,q1⟩
 | false=>exact hb wh pins s1 σ H1 Q I1 q1
theorem g_d (ha:PT X a tA):PT X (.UnaryOp .Not a pos) (q_I tA):=by
 intro pins s σ H Q I h
 exact isTrue_not (ha pins s σ H (λc H1=>Q (!c) H1) I h)
def p_1 (ta tb:TE):TE:=λσ H Q=>ta σ H λx H1=>∃c,x= .bl c/\if c=true then tb σ H1 Q else Q (.bl false) H1
def q_l (ta:TE):TE:=λσ H Q=>ta σ H λx H1=>∃c,x= .bl c/\Q (.bl (!c)) H1
theorem i_P {op} {t:TE} (h:PE X a t):PE X (.BoolOp op [a] pos) t:=λpins s σ H Q I hw=>BoolOp_one (h pins s σ H Q I hw)
theorem j_u (ha:PE X a ta) (hb:PE X (.BoolOp .And (b::e_B) pos) tb):PE X (.BoolOp .And (a::b::e_B) pos) (p_1 ta tb):=by
 intro pins s σ H Q I h
 refine BoolOp_and (thn (ha pins s σ H _ I h) λv s1 ⟨x,H1,I1,r1,q1⟩=> ?_)
 obtain⟨c,rfl,q1⟩:=q1
 cases r1
 refine wpAny_truthy_bool ?_
 cases c with
 | true=>exact hb pins s1 σ H1 Q I1 q1
 | false=>exact⟨.bl false,H1,I1,rfl,q1⟩
theorem o_1 (ha:PE X a ta):PE X (.UnaryOp .Not a pos) (q_l ta):=by
 intro pins s σ H Q I h
 refine UnaryOp_ (thn (ha pins s σ H _ I h) λv s1 ⟨x,H1,I1,r1,q1⟩=> ?_)
 obtain⟨c,rfl,q1⟩:=q1
 cases r1
 exact not_of (wpAny_truthy_bool ⟨.bl (!c),H1,I1,rfl,q1⟩)
end
def SqL (K:PySem.W.Frag) (H:Hp) (a:Addr) (xs:List V):Prop:=
 Rd H a (.lst xs)\/
  ∃(o:Obj) (its:Array Value) (n:Nat),K.lookup a=some o/\o.cls= .type "list"/\o.dict=none/\o.data= .seq its n/\its.size<=sizeLine/\Vals xs its.toList
def SqT (K:PySem.W.Frag) (H:Hp) (a:Addr) (xs:List V):Prop:=
 Rd H a (.tup xs)\/
  ∃(o:Obj) (its:Array Value) (n:Nat),K.lookup a=some o/\o.cls= .type "tuple"/\o.data= .seq its n/\its.size<=sizeLine/\Vals xs its.toList
def q_E:Value->Option V
 | .none=>some .non
 | .bool b=>some (.bl b)
 | .int i _=>some (.int i)
 | .str x _=>some (.str x)
 | .bytes b _=>some (.byt b)
 | .float b _=>some (.flt b)
 | .ref a=>some (.ref a)
 | .type n=>some (.ty n)
 | _=>none
theorem RelV.abs {x:V} {u:Value} (r:RelV x u):q_E u=some x:=by
 cases x with
 | non=>cases r;rfl
 | bl _=>cases r;rfl
 | int _=>obtain⟨t,rfl⟩:=r;rfl
 | str _=>obtain⟨t,rfl⟩:=r;rfl
 | byt _=>obtain⟨t,rfl⟩:=r;rfl
 | flt _=>obtain⟨t,rfl⟩:=r;rfl
 | ref _=>cases r;rfl
 | ty _=>cases r;rfl
theorem RelV.inj {x y:V} {u:Value} (r:RelV x u) (q:RelV y u):x=y:=r_j (r.abs.symm.trans q.abs)
theorem Vals.inj:∀{xs ys:List V} {us:List Value},Vals xs us->Vals ys us->xs=ys
 | _,_,_,.nil,.nil=>rfl
 | _,_,_,.cons r t,.cons r' t'=>by rw[r.inj r',Vals.inj t t']
section
variable {X:Cx} {pins:List (Addr×Obj)} {σ:St} {H:Hp} {s:Shared} {a:Addr} {xs ys:List V}
theorem SqL.of {K:PySem.W.Frag} (h:H a=some (.lst xs)):SqL K H a xs:= .inl (.inl h)
theorem SqT.of {K:PySem.W.Frag} (h:H a=some (.tup xs)):SqT K H a xs:= .inl (.inl h)
theorem Inv.list (I:Inv X pins σ H s) (h:SqL X.K H a xs):∃its:List Value,Vals xs its/\PlainL s.heap a its.toArray/\xs.length<=sizeLine:=by
 rcases h with h | ⟨o,its,n,hk,hc,hd,hs,hz,r⟩
 ·obtain⟨z,its,n,r,e⟩:=h.ok I.hok
  exact⟨its,r,⟨_,n,e,rfl,rfl,rfl⟩,z⟩
 ·refine⟨its.toList,r,⟨o,n,I.kIn a o hk,hc,hd,by simpa using hs⟩,?_⟩
  have e:=r.length
  simp only[Array.length_toList] at e
  omega
theorem Inv.tuple (I:Inv X pins σ H s) (h:SqT X.K H a xs):∃its:List Value,Vals xs its/\IsTup s.heap a its.toArray/\xs.length<=sizeLine:=by
 rcases h with h | ⟨o,its,n,hk,hc,hs,hz,r⟩
 ·obtain⟨z,its,r,p⟩:=h.ok I.hok
  exact⟨its,r,p,z⟩
 ·refine⟨its.toList,r,⟨o,I.kIn a o hk,hc,n,by simpa using hs⟩,?_⟩
  have e:=r.length
  simp only[Array.length_toList] at e
  omega
theorem Inv.list_inj (I:Inv X pins σ H s) (h:SqL X.K H a xs) (h':SqL X.K H a ys):xs=ys:=by
 obtain⟨its,r,⟨o,n,e,_,_,d⟩,_⟩:=I.list h
 obtain⟨its',r',⟨o',n',e',_,_,d'⟩,_⟩:=I.list h'
 rw[e] at e';cases e'
 rw[d] at d'
 injection d' with d1 _
 have:its=its':=by simpa using congrArg Array.toList d1
 subst this
 exact r.inj r'
end
abbrev Cx.wish (X:Cx) (E:Value->Shared->Prop):Cx:={ X with xe:=E }
abbrev Cx.nox (X:Cx):Cx:=X.wish λ_ _=>False
theorem Cx.Ok.wish {X:Cx} (ok:X.Ok) (E:Value->Shared->Prop):(X.wish E).Ok:=
 ⟨ok.mod,ok.kind,ok.glob,ok.blt,ok.above,ok.inj,ok.has,ok.cab,ok.hd,ok.frames,ok.stk,ok.exf,ok.bs,ok.bsz,ok.noex,ok.exfs,ok.funs,ok.frf⟩
theorem Cx.Ok.unwish {X:Cx} {E:Value->Shared->Prop} (ok:(X.wish E).Ok):X.Ok:=
 ⟨ok.mod,ok.kind,ok.glob,ok.blt,ok.above,ok.inj,ok.has,ok.cab,ok.hd,ok.frames,ok.stk,ok.exf,ok.bs,ok.bsz,ok.noex,ok.exfs,ok.funs,ok.frf⟩
section
variable {X:Cx} {pins:List (Addr×Obj)} {σ:St} {H:Hp} {s:Shared} {E:Value->Shared->Prop}
theorem Inv.wish (I:Inv X pins σ H s) (E:Value->Shared->Prop):Inv (X.wish E) pins σ H s:=⟨I.ok.wish E,I.os,I.bare,I.base,I.loc,I.cell,I.free,I.freeC,I.pin,I.hok,I.len⟩
theorem Inv.unwish (I:Inv (X.wish E) pins σ H s):Inv X pins σ H s:=⟨I.ok.unwish,I.os,I.bare,I.base,I.loc,I.cell,I.free,I.freeC,I.pin,I.hok,I.len⟩
theorem SP.unwish {D:i_y} {f:Flow} {s':Shared} (h:SP (X.wish E) pins D f s'):SP X pins D f s':=by
 cases f with
 | next=>obtain⟨σ',H',I,q⟩:=h;exact⟨σ',H',I.unwish,q⟩
 | brk=>obtain⟨σ',H',I,q⟩:=h;exact⟨σ',H',I.unwish,q⟩
 | cont=>obtain⟨σ',H',I,q⟩:=h;exact⟨σ',H',I.unwish,q⟩
 | ret u=>obtain⟨v,σ',H',I,r,q⟩:=h;exact⟨v,σ',H',I.unwish,r,q⟩
theorem PSs.nox {st:List Stmt} {t:TS} (h:PSs X.nox st t):PSs X st t:=λpins s σ H D I hw=>
 wpAny_mono (h pins s σ H D (I.wish _) hw) (λ_ _ q=>q.unwish) λ_ _ z=>False.elim z
end
section
variable {X:Cx} {st:Stmt} {e_B:List Stmt} {t u:TS} {e:Expr} {te:TE} {pos:Pos}
def p_5:TS:=λD σ H=>D.nx σ H
def p_q (t u:TS):TS:=λD σ H=>t { D with nx:=u D } σ H
theorem a_q:PSs X [] p_5:=λ_ _ σ H _ I h=>wpAny_execs_nil ⟨σ,H,I,h⟩
theorem a_c (h1:PS X st t) (h2:PSs X e_B u):PSs X (st::e_B) (p_q t u):=by
 intro pins s σ H D I h
 refine wpAny_execs_cons (thn (h1 pins s σ H { D with nx:=u D } I h) λf s1 q=> ?_)
 cases f with
 | next=>
   obtain⟨σ',H',I',q⟩:=q
   exact h2 pins s1 σ' H' D I' q
 | ret v=>exact q
 | brk=>exact q
 | cont=>exact q
theorem a_g (h1:PS X st t):PSs X [st] t:=by
 intro pins s σ H D I h
 refine wpAny_execs_cons (thn (h1 pins s σ H D I h) λf s1 q=> ?_)
 cases f with
 | next=>exact wpAny_execs_nil q
 | ret v=>exact q
 | brk=>exact q
 | cont=>exact q
theorem Inv.quiet {pins:List (Addr×Obj)} {σ:St} {H:Hp} {s:Shared} (I:Inv X pins σ H s):interactive X.env=false:=by simp[interactive,I.ok.kind]
def q_j (te:TE):TS:=λD σ H=>te σ H λ_ H1=>D.nx σ H1
theorem a_z (he:PE X e te) (hs:swapsWith e none pos.line X.env=pure false:=by rfl):PS X (.Expr e pos) (q_j te):=by
 intro pins s σ H D I h
 exact wpAny_Expr_any (thn (he pins s σ H _ I h) λv s1 ⟨x,H1,I1,r1,q1⟩=>⟨σ,H1,I1,q1⟩) I.quiet hs
def q_F (te:TE):TS:=λD σ H=>te σ H D.rt
theorem a_n (he:PE X e te):PS X (.Return (some e) pos) (q_F te):=by
 intro pins s σ H D I h
 exact wpAny_Return_some (thn (he pins s σ H _ I h) λv s1 ⟨x,H1,I1,r1,q1⟩=>⟨x,σ,H1,I1,r1,q1⟩)
def p_6:TS:=λD _ H=>D.rt .non H
theorem i_5:PS X (.Return none pos) p_6:=λ_ _ σ H _ I h=>wpAny_Return_none ⟨.non,σ,H,I,rfl,h⟩
def q_7 (c:TT) (t u:TS):TS:=λD σ H=>c σ H λb H1=>if b=true then t D σ H1 else u D σ H1
theorem a_C {c:Expr} {a b:List Stmt} {tc:TT} (hc:PT X c tc) (ha:PSs X a t) (hb:PSs X b u):PS X (.If c a b pos) (q_7 tc t u):=by
 intro pins s σ H D I h
 refine wpAny_If (thn (hc pins s σ H _ I h) λd s1 ⟨H1,I1,q1⟩=> ?_)
 cases d with
 | true=>exact ha pins s1 σ H1 D I1 q1
 | false=>exact hb pins s1 σ H1 D I1 q1
def n_W:TS:=λ_ _ _=>False
theorem l_s:PS X st n_W:=λ_ _ _ _ _ _ h=>h.elim
end
abbrev TG:=V->St->Hp->(St->Hp->Prop)->Prop
abbrev TGs:=List V->St->Hp->(St->Hp->Prop)->Prop
def PG (X:Cx) (target:Expr) (t:TG):Prop:=
 ∀(pins:List (Addr×Obj)) (s:Shared) (σ:St) (H:Hp) (v:V) (u:Value) (Q:St->Hp->Prop),Inv X pins σ H s->RelV v u->t v σ H Q->
  wpAny (model X.prog X.w) X.A (assign target X.env u) (λ_ s'=>∃σ' H',Inv X pins σ' H' s'/\Q σ' H') X.xe s
def PGs (X:Cx) (ts:List Expr) (t:TGs):Prop:=
 ∀(pins:List (Addr×Obj)) (s:Shared) (σ:St) (H:Hp) (vs:List V) (us:List Value) (Q:St->Hp->Prop),Inv X pins σ H s->Vals vs us->t vs σ H Q->
  wpAny (model X.prog X.w) X.A (assignInOrder ((assignEach ts X.env).map (·.2)) us) (λ_ s'=>∃σ' H',Inv X pins σ' H' s'/\Q σ' H') X.xe s
abbrev p_r:=V->V->V->Hp->(Hp->Prop)->Prop
def q_n (X:Cx) (t:p_r):Prop:=
 ∀(pins:List (Addr×Obj)) (s:Shared) (σ:St) (H:Hp) (o i v:V) (ov iv u:Value) (Q:Hp->Prop),Inv X pins σ H s->RelV o ov->RelV i iv->RelV v u->t o i v H Q->
  wpAny (model X.prog X.w) X.A (setItem ov iv u) (λ_ s'=>∃H',Inv X pins σ H' s'/\Q H') X.xe s
section
variable {X:Cx} {pos:Pos}
def k_F (i:Nat):TG:=λv σ H Q=>Q (σ.set i (some v)) H
theorem b_d {i:Nat} {x:Str} (hN:X.N.Nodup) (hi:X.N[i]? =some x) (hx:Loc X.env.scope x) (hf:X.fn x=true\/X.env.scope.names.lookup x=some .local:=by first | exact .inl rfl | exact .inr rfl | assumption):PG X (.Name x pos) (k_F i):=by
 intro pins s σ H v u Q I r h
 exact wpAny_assign_Name (d_P I hN hi hx r (λs' I'=>⟨_,H,I',h⟩) hf)
def q_Y:TGs:=λvs σ H Q=>vs= []/\Q σ H
def p_N (t:TG) (u:TGs):TGs:=λvs σ H Q=>∃v r,vs=v::r/\t v σ H λσ' H'=>u r σ' H' Q
theorem n_u:PGs X [] q_Y:=by
 intro pins s σ H vs us Q I r h
 obtain⟨e,h⟩:=h
 subst e
 cases r
 exact assignInOrder_nil ⟨σ,H,I,h⟩
theorem h_q {e:Expr} {es:List Expr} {t:TG} {u:TGs} (h1:PG X e t) (h2:PGs X es u)
 (hs:(assignEach (e::es) X.env).map (·.2)=assign e X.env::(assignEach es X.env).map (·.2):=by rfl):PGs X (e::es) (p_N t u):=by
 intro pins s σ H vs us Q I r h
 obtain⟨v,vr,e1,h⟩:=h
 subst e1
 cases r with
 | cons r rr=>
   rw[hs]
   refine assignInOrder_cons (thn (h1 pins s σ H _ _ _ I r h) λ_ s1 ⟨σ1,H1,I1,q1⟩=> ?_)
   exact h2 pins s1 σ1 H1 _ _ Q I1 rr q1
def q_U (K:PySem.W.Frag) (n:Nat) (t:TGs):TG:=λv σ H Q=>∃a xs,v= .ref a/\SqT K H a xs/\xs.length=n/\t xs σ H Q
theorem o_S {es:List Expr} {k:Nat} {t:TGs} {n:Nat} (hc:X.calm=true) (h:PGs X es t)
 (hn:(assignEach es X.env).length=n:=by rfl) (hst:(assignEach es X.env).findIdx? (·.1)=none:=by rfl):PG X (.Tuple es k pos) (q_U X.K n t):=by
 intro pins s σ H v u Q I r hw
 obtain⟨a,xs,e1,hq,hl,hw⟩:=hw
 subst e1
 cases r
 obtain⟨its,rv,ht,hz⟩:=I.tuple hq
 refine assign_Tuple_tuple (I.ok.hd hc) ht (by simp[hn,<-hl,rv.length]) hst λh' hx=> ?_
 have I1:Inv X pins σ H { s with heap:=h' }:=I.kept (t':=s.toks) λb o e=>hx b o (r_A (Heap.lt_size e)) e
 exact h pins _ σ H xs _ Q I1 (by simpa using rv) hw
def q_K (to ti:TE) (t:p_r):TG:=λv σ H Q=>to σ H λo H1=>ti σ H1 λi H2=>t o i v H2 λH3=>Q σ H3
theorem l_L {o i:Expr} {to ti:TE} {t:p_r} (ho:PE X o to) (hi:PE X i ti) (hs:q_n X t)
 (ha:∀v,assign (.Subscript o i pos) X.env v=(do
   let ov<-holding [v] (eval o X.env)
   let iv<-holding [v,ov] (eval i X.env)
   standAt pos
   holding [v,ov,iv] (setItem ov iv v)
   release [v,ov,iv] []):=by intro _;rfl):PG X (.Subscript o i pos) (q_K to ti t):=by
 intro pins s σ H v u Q I r h
 rw[ha]
 refine wpAny_bind (wpAny_holding (thn (ho pins s σ H _ I h) λov s1 ⟨x,H1,I1,r1,q1⟩=> ?_))
 refine wpAny_bind (wpAny_holding (thn (hi pins s1 σ H1 _ I1 q1) λiv s2 ⟨y,H2,I2,r2,q2⟩=> ?_))
 refine wpAny_bind (wpAny_standAt (wpAny_bind (wpAny_holding (thn (hs pins s2 σ H2 x y v ov iv u _ I2 r1 r2 r q2) λ_ s3 ⟨H3,I3,q3⟩=> ?_))))
 exact wpAny_release ⟨σ,H3,I3,q3⟩
def p_g (te:TE) (g:TG):TS:=λD σ H=>te σ H λx H1=>g x σ H1 D.nx
theorem l_P {tg e:Expr} {te:TE} {g:TG} (he:PE X e te) (hg:PG X tg g) (hs:swapsWithSole [tg] e pos.line X.env=pure false:=by rfl) (hw:swappedStores [tg] e X.env=pure none:=by rfl)
 (h1:(assignEach [tg] X.env).map (·.2)= [assign tg X.env]:=by rfl):PS X (.Assign [tg] e pos) (p_g te g):=by
 intro pins s σ H D I h
 refine wpAny_Assign_stores (thn (he pins s σ H _ I h) λv s1 ⟨x,H1,I1,r1,q1⟩=> ?_) hs hw
 rw[h1]
 exact thn (hg pins s1 σ H1 x v _ I1 r1 q1) λ_ s2 q=>q
theorem a_w {i:Nat} {x:Str} {e:Expr} {te:TE} {pos':Pos} (hN:X.N.Nodup) (hi:X.N[i]? =some x) (hx:Loc X.env.scope x) (he:PE X e te) (hs:swapsWith e (some (.Name x pos')) pos.line X.env=pure false:=by rfl) (hf:X.fn x=true\/X.env.scope.names.lookup x=some .local:=by first | exact .inl rfl | exact .inr rfl | assumption):
 PS X (.Assign [.Name x pos'] e pos) (p_g te (k_F i)):=by
 intro pins s σ H D I h
 refine wpAny_Assign_Name (thn (he pins s σ H _ I h) λv s1 ⟨y,H1,I1,r1,q1⟩=> ?_) hs
 exact d_P I1 hN hi hx r1 (λs2 I2=>⟨_,H1,I2,q1⟩) hf
end
section
variable {X:Cx} {pos:Pos}
def o_i (c:TT) (tb:TS):TS:=λD σ H=>∃W:Nat->St->Hp->Prop,(∃m,W m σ H)/\∀m σ H,W m σ H->
 c σ H λb H1=>if b=true then ∃N:St->Hp->Prop,(∀σ' H',N σ' H'->∃m',m' < m/\W m' σ' H')/\tb { D with nx:=N,ct:=N,bk:=D.nx } σ H1 else D.nx σ H1
theorem d_g {c:Expr} {body:List Stmt} {tc:TT} {tb:TS} (hp:PassesOwn (model X.prog X.w) X.A X.env X.xe) (hc:PT X c tc) (hb:PSs X body tb):PS X (.While c body [] pos) (o_i tc tb):=by
 intro pins s σ H D I h
 obtain⟨W,⟨m0,w0⟩,turn⟩:=h
 refine wpAny_While (codeAny_whileLoop (λn s'=>∃σ' H',Inv X pins σ' H' s'/\W n σ' H') ?_ m0 ⟨σ,H,I,w0⟩)
 rintro n s1 ⟨σ1,H1,I1,w1⟩
 refine wpAny_passesOwn hp (thn (hc pins s1 σ1 H1 _ I1 (turn n σ1 H1 w1)) λb s2 ⟨H2,I2,q2⟩=> ?_)
 cases b with
 | true=>
   obtain⟨N,hN,q2⟩:=q2
   rw[if_pos rfl]
   refine wpAny_passesOwn hp (thn (hb pins s2 σ1 H2 _ I2 q2) λf s3 q3=> ?_)
   cases f with
   | next=>
     obtain⟨σ3,H3,I3,n3⟩:=q3
     obtain⟨m',hm,w3⟩:=hN σ3 H3 n3
     exact⟨m',hm,σ3,H3,I3,w3⟩
   | cont=>
     obtain⟨σ3,H3,I3,n3⟩:=q3
     obtain⟨m',hm,w3⟩:=hN σ3 H3 n3
     exact⟨m',hm,σ3,H3,I3,w3⟩
   | brk=>exact q3
   | ret v=>exact q3
 | false=>
   rw[if_neg r_t]
   exact wpAny_execs_nil ⟨σ1,H2,I2,q2⟩
end
structure It where
 go:Nat->Hp->Prop
 yld:Nat->Hp->V->Hp->Prop
 stop:Nat->Hp->Prop
def f_z (X:Cx) (pins:List (Addr×Obj)) (H:Hp) (b:Addr):Prop:=
 H b=none/\b≠X.env.locals/\b∉X.fs/\(b∈X.ex\/X.s₀.heap.objs.size<=b)/\(∀x c,X.env.cells.lookup x=some c->c≠b)/\∀p∈X.pn++pins,p.1≠b
theorem Inv.fpOk {X:Cx} {pins:List (Addr×Obj)} {σ:St} {H H':Hp} {s:Shared} {b:Addr} (I:Inv X pins σ H s) (hb:s.heap.objs.size<=b) (hn:H' b=none):f_z X pins H' b:=by
 refine⟨hn,Nat.ne_of_gt (r_s I.lt hb),I.nofs hb,.inr (r_x I.sz hb),λx c e z=> ?_, λp hp z=> ?_⟩
 ·obtain⟨v,q⟩:=I.cell x c e
  exact absurd (r_s q.lt (by rw[z];exact hb)) (Nat.lt_irrefl _)
 ·exact absurd (r_s (Heap.lt_size (I.pin p hp).1) (by rw[z];exact hb)) (Nat.lt_irrefl _)
structure p_f (P:Program) (w:World) (K:PySem.W.Frag) (tg:Expr) (J:It) (fp:List Addr) (it:Addr) (tn:Nat->Heap->Prop):Prop where
 mem:it∈fp
 obj:∀i h,tn i h->∀b∈fp,∃o,h.get? b=some o/\∀v,o.data≠ .cell v
 keep:∀i h h',tn i h->(∀b∈fp,∀o,h.get? b=some o->h'.get? b=some o)->tn i h'
 item:∀(X:Cx),X.prog=P->X.w=w->X.K=K->X.calm=true->∀(i:Nat) (pins:List (Addr×Obj)) (s:Shared) (σ:St) (H:Hp) (E:Value->Shared->Prop),Inv X pins σ H s->(∀b∈fp,f_z X pins H b)->tn i s.heap->J.go i H->
  wpAny (model P w) X.A (pyNext (.ref it)) (λr s1=>∃u,r=some u/\
   wpAny (model P w) X.A (letOwnedTupleGo tg (.ref it) u) (λ_ s2=>∃x H',Inv X pins σ H' s2/\RelV x u/\J.yld i H x H'/\tn (i+1) s2.heap/\∀b∈fp,H' b=none) E s1) E s
 done:∀(X:Cx),X.prog=P->X.w=w->X.K=K->X.calm=true->∀(i:Nat) (pins:List (Addr×Obj)) (s:Shared) (σ:St) (H:Hp) (E:Value->Shared->Prop),Inv X pins σ H s->(∀b∈fp,f_z X pins H b)->tn i s.heap->J.stop i H->
  wpAny (model P w) X.A (pyNext (.ref it)) (λr s1=>r=none/\Inv X pins σ H s1) E s
 self:∀(A:Around) (i:Nat) (s:Shared) (Q:Value->Shared->Prop) (E:Value->Shared->Prop),tn i s.heap->Q (.ref it) s->wpAny (model P w) A (pyIter (.ref it)) Q E s
abbrev TI:=St->Hp->(It->Hp->Prop)->Prop
def PIE (X:Cx) (pins:List (Addr×Obj)) (σ:St) (tg:Expr) (R:It->Hp->Prop) (itv:Value) (s2:Shared):Prop:=
 ∃(it:Addr) (fp:List Addr) (tn:Nat->Heap->Prop) (J:It) (H':Hp),itv= .ref it/\Inv X pins σ H' s2/\p_f X.prog X.w X.K tg J fp it tn/\tn 0 s2.heap/\(∀b∈fp,f_z X pins H' b)/\R J H'
def PI (X:Cx) (tg iter:Expr) (wi:TI):Prop:=
 ∀(pins:List (Addr×Obj)) (s:Shared) (σ:St) (H:Hp) (R:It->Hp->Prop),Inv X pins σ H s->wi σ H R->
  wpAny (model X.prog X.w) X.A (eval iter X.env) (λv s1=>wpAny (model X.prog X.w) X.A (pyIter v) (PIE X pins σ tg R) X.xe s1) X.xe s
theorem m_z {M:Model} {A:Around} {E:Value->Shared->Prop} {s:Shared} {tg:Expr} {it:Addr} {u:Value} {o:Obj} {n:String} {vs:Array Value} {Q:Unit->Shared->Prop} (ho:s.heap.get? it=some o) (hc:o.cls= .type n) (hd:o.data= .fields vs)
 (hn: ["enumerate","zip","dict_itemiterator","dict_reverseitemiterator","odict_iterator","itertools.zip_longest","itertools.pairwise"].contains n=false) (hQ:Q () s):wpAny M A (letOwnedTupleGo tg (.ref it) u) Q E s:=by
 unfold letOwnedTupleGo
 cases tg <;> first
  | exact wpAny_pure hQ
  | (cases u <;> first
      | exact wpAny_pure hQ
      | (refine wpAny_bind (wpAny_load ho ?_)
         rw[hc,hd]
         show wpAny M A (if (["enumerate","zip","dict_itemiterator","dict_reverseitemiterator","odict_iterator","itertools.zip_longest","itertools.pairwise"].contains n&&vs[0]? == some (rawInt _))=true then _ else _) Q E s
         rw[if_neg (by intro h;rw[hn,Bool.false_and] at h;cases h)]
         exact wpAny_pure hQ))
def Itl (K:PySem.W.Frag) (a:Addr):It:=
 ⟨λi H=>∃xs x,SqL K H a xs/\xs[i]? =some x,λi H x H'=>H'=H/\∀xs,SqL K H a xs->xs[i]? =some x,λi H=>∃xs,SqL K H a xs/\xs.length<=i⟩
def Itr (lo:Int) (n:Nat):It:=⟨λi _=>i < n,λi H x H'=>H'=H/\x= .int (lo+i),λi _=>n<=i⟩
theorem k_s {P:Program} {w:World} {K:PySem.W.Frag} {tg:Expr} (a it:Addr):p_f P w K tg (Itl K a) [it] it (λi h=>h.IsListIter it a i) where
 mem:=by simp
 obj:=λi h st b hb=>by
  have e:b=it:=by simpa using hb
  subst e
  obtain⟨o,e,c,d⟩:=st
  exact⟨o,e,λv z=>by rw[d] at z;cases z⟩
 keep:=λi h h' st k=>st.at λo e=>k it (by simp) o e
 item:=by
  intro X hP hw hK hc i pins s σ H E I hf st hg
  subst hP hw hK
  obtain⟨xs,x,hq,hx⟩:=hg
  obtain⟨its,rv,p,hz⟩:=I.list hq
  obtain⟨u,hu,ru⟩:=rv.get hx
  obtain⟨f0,f1,f2,f3,f4,f5⟩:=hf it (by simp)
  refine wpAny_pyNext_list_item st p.isList (x:=u) (by simpa using hu) λh' st' sb=> ?_
  have I1:Inv X pins σ H { s with heap:=h' }:=I.turned (t':=s.toks) (λb o hb e=>(sb.2 b hb).trans e) f0 f1 f3 f4 f5
  obtain⟨o,e,c,d⟩:=id st'
  exact⟨u,rfl,m_z (s:={ s with heap:=h' }) e c d (by decide) ⟨x,H,I1,ru,⟨rfl,λys hy=>by rw[I.list_inj hy hq];exact hx⟩,st',λb hb=>(hf b hb).1⟩⟩
 done:=by
  intro X hP hw hK hc i pins s σ H E I hf st hg
  subst hP hw hK
  obtain⟨xs,hq,hx⟩:=hg
  obtain⟨its,rv,p,hz⟩:=I.list hq
  obtain⟨f0,f1,f2,f3,f4,f5⟩:=hf it (by simp)
  have hl:=rv.length
  exact wpAny_pyNext_list_end (I.ok.hd hc) st p.isList (by simp;omega) λh' eb=>⟨rfl,I.turned (t':=s.toks) (λb o hb e=>eb b o hb e) f0 f1 f3 f4 f5⟩
 self:=λ_ _ _ _ _ st h=>wpAny_pyIter_listiter st h
theorem i_r {P:Program} {w:World} {K:PySem.W.Frag} {tg:Expr} (it:Addr) (lo:Int) (n:Nat):p_f P w K tg (Itr lo n) [it] it (λi h=>IsRangeIter h it (lo+(i:Nat) * 1) ((n:Int) - (i:Nat)) 1) where
 mem:=by simp
 obj:=λi h st b hb=>by
  have e:b=it:=by simpa using hb
  subst e
  exact⟨_,st,λv z=>by
   have z':Data.fields _=Data.cell v:=z
   cases z'⟩
 keep:=λi h h' st k=>k it (by simp) _ st
 item:=by
  intro X hP hw hK hc i pins s σ H E I hf st hg
  subst hP hw hK
  obtain⟨f0,f1,f2,f3,f4,f5⟩:=hf it (by simp)
  have W:=Walks.range (prog:=X.prog) (w:=X.w) (I.ok.hd hc) it lo 1 n
  refine W.item i s _ _ hg st λv h' tk hv st' kk=> ?_
  obtain⟨t,rfl⟩:=hv
  have I1:Inv X pins σ H { s with heap:=h',toks:=tk }:=I.turned (λb o hb e=>kk b o (by simpa using hb) e) f0 f1 f3 f4 f5
  refine⟨_,rfl,m_z (s:={ s with heap:=h',toks:=tk }) (n:="range_iterator") st' rfl rfl (by decide) ⟨.int (lo+i),H,I1,⟨t,?_⟩,⟨rfl,rfl⟩,st',λb hb=>(hf b hb).1⟩⟩
  rw[Int.mul_one]
 done:=by
  intro X hP hw hK hc i pins s σ H E I hf st hg
  subst hP hw hK
  obtain⟨f0,f1,f2,f3,f4,f5⟩:=hf it (by simp)
  exact wpAny_pyNext_range_end (I.ok.hd hc) st (by have:n<=i:=hg;omega) λh' eb=>⟨rfl,I.turned (t':=s.toks) (λb o hb e=>eb b o hb e) f0 f1 f3 f4 f5⟩
 self:=λ_ _ _ _ _ st h=>wpAny_pyIter_rangeiter st h
section
variable {X:Cx} {tg:Expr}
def p_7 (K:PySem.W.Frag) (tl:TE):TI:=λσ H R=>tl σ H λx H1=>∃a,x= .ref a/\(∃xs,SqL K H1 a xs)/\R (Itl K a) H1
theorem b_e {l:Expr} {tl:TE} (hl:PE X l tl):PI X tg l (p_7 X.K tl):=by
 intro pins s σ H R I h
 refine thn (hl pins s σ H _ I h) λv s1 ⟨x,H1,I1,r1,q1⟩=> ?_
 obtain⟨a,e,⟨xs,hq⟩,q⟩:=q1
 subst e
 cases r1
 obtain⟨its,rv,p,hz⟩:=I1.list hq
 refine wpAny_pyIter_list p.isList ?_
 refine⟨s1.heap.objs.size, [s1.heap.objs.size],_,_,H1,rfl,I1.kept (t':=s1.toks) λb o e=>Heap.get?_push_of_some _ e,k_s a _,⟨_,Heap.get?_push_size _ rfl,rfl,rfl⟩,λb hb=> ?_, q⟩
 have e:b=s1.heap.objs.size:=by simpa using hb
 subst e
 exact I1.fpOk (r_l _) (I1.hok.fresh (r_l _))
theorem k_N {pins:List (Addr×Obj)} {σ:St} {H:Hp} {s:Shared} {R:It->Hp->Prop} {E:Value->Shared->Prop} {lo hi:Int} {t u v:Tok} {tk:Nat} (I:Inv X pins σ H s) (h1: -(2 ^ 62)<=lo) (h2:lo < 2 ^ 62) (h3: -(2 ^ 62)<=hi) (h4:hi < 2 ^ 62)
 (q:R (Itr lo (hi - lo).toNat) H):wpAny (model X.prog X.w) X.A (pyIter (.ref s.heap.objs.size)) (PIE X pins σ tg R) E { s with heap:=s.heap.push { cls:= .type "range",data:= .fields #[.int lo t,.int hi u,.int 1 v] },toks:=tk }:=by
 refine wpAny_pyIter_range (IsRange.new ..) (small_one h1 h2 h3 h4) ?_
 have I1:Inv X pins σ H { s with heap:=s.heap.push { cls:= .type "range",data:= .fields #[.int lo t,.int hi u,.int 1 v] },toks:=tk }:=I.kept λb o e=>Heap.get?_push_of_some _ e
 refine⟨(s.heap.push { cls:= .type "range",data:= .fields #[.int lo t,.int hi u,.int 1 v] }).objs.size, [(s.heap.push { cls:= .type "range",data:= .fields #[.int lo t,.int hi u,.int 1 v] }).objs.size],_,_,H,rfl,
  I1.kept (t':=tk) λb o e=>Heap.get?_push_of_some _ e,i_r _ lo (hi - lo).toNat,?_, λb hb=> ?_, q⟩
 ·have e1:lo+((0:Nat):Int) * 1=lo:=by simp
  have e2:(((hi - lo).toNat:Nat):Int) - ((0:Nat):Int)=Builtin.Range.rangeSize lo hi 1:=by rw[rangeSize_one];split <;> omega
  show IsRangeIter _ _ (lo+((0:Nat):Int) * 1) ((((hi - lo).toNat:Nat):Int) - ((0:Nat):Int)) 1
  rw[e1,e2]
  exact Heap.get?_push_size _ rfl
 ·have e:b=(s.heap.push { cls:= .type "range",data:= .fields #[.int lo t,.int hi u,.int 1 v] }).objs.size:=by simpa using hb
  subst e
  exact I1.fpOk (r_l _) (I1.hok.fresh (r_l _))
def q_e (ta:TA):TI:=λσ H R=>ta σ H λvs H1=>∃j:Int,vs= [.int j]/\-(2 ^ 62)<=j/\j < 2 ^ 62/\R (Itr 0 j.toNat) H1
theorem b_L {a:Expr} {ta:TA} {p pos:Pos} (hg:Gl X "range") (hm:X.mg "range"=none) (ha:PA X [a] ta) (hs:starEach [a] X.env= [(false,eval a X.env)]:=by rfl):PI X tg (.Call (.Name "range" p) [a] [] pos) (q_e ta):=by
 intro pins s σ H R I h
 refine Call_ (f_6 I hg hm boot_range (PyProof.Rows.callWith_type1 (thn (ha pos pins s σ H _ I h) λus s1 ⟨vs,H1,I1,r1,q1⟩=> ?_) hs rfl))
 obtain⟨j,e,q1,q2,q⟩:=q1
 subst e
 cases r1 with
 | cons r rr=>
   cases rr
   obtain⟨t,rfl⟩:=r
   exact call_range_1 (k_N I1 (by omega) (by omega) q1 q2 (by simpa using q))
def q_Q (wi:TI) (g:TG) (tb:TS):TS:=λD σ H=>wi σ H λJ H1=>∃W:Nat->Nat->St->Hp->Prop,(∃m,W 0 m σ H1)/\∀i m σ H,W i m σ H->
 (J.stop i H/\D.nx σ H)\/(J.go i H/\∃N:St->Hp->Prop,(∀σ' H',N σ' H'->∃m',m' < m/\W (i+1) m' σ' H')/\∀x H',J.yld i H x H'->g x σ H' λσ2 H2=>tb { D with nx:=N,ct:=N,bk:=D.nx } σ2 H2)
def e_0 (fp:List Addr) (h:Heap):List (Addr×Obj):=fp.filterMap λb=>(h.get? b).map λo=>(b,o)
theorem b_F {fp:List Addr} {h:Heap} {b:Addr} {o:Obj} (hb:b∈fp) (e:h.get? b=some o):(b,o)∈e_0 fp h:=List.mem_filterMap.mpr ⟨b,hb,by rw[e];rfl⟩
theorem i_U {fp:List Addr} {h:Heap} {p:Addr×Obj} (hp:p∈e_0 fp h):p.1∈fp/\h.get? p.1=some p.2:=by
 obtain⟨b,hb,e⟩:=List.mem_filterMap.mp hp
 cases q:h.get? b with
 | none=>rw[q] at e;cases e
 | some o=>
   rw[q] at e
   have e':(b,o)=p:=r_j e
   subst e'
   exact⟨hb,q⟩
theorem Inv.pinned {pins:List (Addr×Obj)} {σ:St} {H:Hp} {s:Shared} {fp:List Addr} (I:Inv X pins σ H s) (hf:∀b∈fp,f_z X pins H b) (ho:∀b∈fp,∃o,s.heap.get? b=some o/\∀v,o.data≠ .cell v):Inv X (pins++e_0 fp s.heap) σ H s:=
 I.pins_of λp hp=>(r_u.mp hp).elim (λz=>I.pin p (r_p _ z)) λz=>by
  obtain⟨hb,e⟩:=i_U z
  obtain⟨f0,f1,f2,_⟩:=hf p.1 hb
  obtain⟨o,e',d⟩:=ho p.1 hb
  rw[e] at e';cases e'
  exact⟨e,f0,f1,f2,d⟩
theorem Inv.unpinned {pins pl:List (Addr×Obj)} {σ:St} {H:Hp} {s:Shared} (I:Inv X (pins++pl) σ H s):Inv X pins σ H s:=I.pins_of λp hp=>I.pin p (r_p _ (r_L _ hp))
theorem c_g {iter:Expr} {body:List Stmt} {wi:TI} {g:TG} {tb:TS} {pos:Pos} (hp:PassesOwn (model X.prog X.w) X.A X.env X.xe) (hc:X.calm=true) (hi:PI X tg iter wi) (hg:PG X tg g) (hb:PSs X body tb)
 (hs:∀x,foldedSetIterable iter X.env x=pure x:=by intro _;rfl):PS X (.For tg iter body [] pos) (q_Q wi g tb):=by
 intro pins s σ H D I h
 refine wpAny_For (thn (hi pins s σ H _ I h) λv s1 h1=>thn h1 λitv s2 h2=> ?_) hs
 obtain⟨it,fp,tn,J,H2,e,I2,T,st2,f2,W,⟨m0,w0⟩,turn⟩:=h2
 subst e
 -- what stays true of the iterator's objects through the loop
 have stat:∀{H':Hp},(∀b∈fp,H' b=none)->∀b∈fp,f_z X pins H' b:=λhn b hb=>⟨hn b hb,(f2 b hb).2⟩
 refine codeAny_forLoop_any (λn s'=>∃i σ' H',Inv X pins σ' H' s'/\tn i s'.heap/\(∀b∈fp,H' b=none)/\W i n σ' H') ?_ m0 ⟨0,σ,H2,I2,st2,λb hb=>(f2 b hb).1,w0⟩
 rintro n s3 ⟨i,σ3,H3,I3,st3,fr3,w3⟩
 rcases turn i n σ3 H3 w3 with⟨stop,qn⟩ | ⟨go,N,hN,step⟩
 ·refine wpAny_passesOwn hp (thn (T.done X rfl rfl rfl hc i pins s3 σ3 H3 X.xe I3 (stat fr3) st3 stop) λr s4 ⟨hr,I4⟩=> ?_)
  subst hr
  exact wpAny_execs_nil ⟨σ3,H3,I4,qn⟩
 ·refine wpAny_passesOwn hp (thn (T.item X rfl rfl rfl hc i pins s3 σ3 H3 X.xe I3 (stat fr3) st3 go) λr s4 ⟨u,hr,h4⟩=> ?_)
  subst hr
  refine wpAny_passesOwn hp (thn h4 λ_ s5 ⟨x,H5,I5,r5,y5,st5,fr5⟩=> ?_)
  have I5':=I5.pinned (stat fr5) (T.obj _ _ st5)
  refine wpAny_passesOwn hp (thn (hg _ s5 σ3 H5 x u _ I5' r5 (step x H5 y5)) λ_ s6 ⟨σ6,H6,I6,q6⟩=> ?_)
  refine wpAny_passesOwn hp (thn (hb _ s6 σ6 H6 _ I6 q6) λf s7 q7=> ?_)
  have again:∀{σ7:St} {H7:Hp},Inv X (pins++e_0 fp s5.heap) σ7 H7 s7->N σ7 H7->∃m,m < n/\∃i σ' H',Inv X pins σ' H' s7/\tn i s7.heap/\(∀b∈fp,H' b=none)/\W i m σ' H':=λ{σ7 H7} I7 n7=>by
   obtain⟨m',hm,w7⟩:=hN σ7 H7 n7
   refine⟨m',hm,i+1,σ7,H7,I7.unpinned,T.keep _ _ _ st5 λb hb o e=>(I7.pin (b,o) (r_p _ (r_p _ (b_F hb e)))).1,λb hb=> ?_, w7⟩
   obtain⟨o,e,d⟩:=T.obj _ _ st5 b hb
   exact (I7.pin (b,o) (r_p _ (r_p _ (b_F hb e)))).2.1
  cases f with
  | next=>obtain⟨σ7,H7,I7,n7⟩:=q7;exact again I7 n7
  | cont=>obtain⟨σ7,H7,I7,n7⟩:=q7;exact again I7 n7
  | brk=>obtain⟨σ7,H7,I7,q7⟩:=q7;exact⟨σ7,H7,I7.unpinned,q7⟩
  | ret v=>obtain⟨x7,σ7,H7,I7,r7,q7⟩:=q7;exact⟨x7,σ7,H7,I7.unpinned,r7,q7⟩
end
theorem c_F {K:PySem.W.Frag} {a:Addr} {xs:List V} {g:TG} {tb:TS} {D:i_y} {σ:St} {H:Hp} (Pv:Nat->St->Hp->Prop) (h0:Pv 0 σ H) (hl:∀i σ H,i<=xs.length->Pv i σ H->SqL K H a xs)
 (hs:∀i x σ H,xs[i]? =some x->Pv i σ H->g x σ H λσ2 H2=>tb { D with nx:=Pv (i+1),ct:=Pv (i+1),bk:=D.nx } σ2 H2) (hd:∀σ H,Pv xs.length σ H->D.nx σ H):
 ∃W:Nat->Nat->St->Hp->Prop,(∃m,W 0 m σ H)/\∀i m σ H,W i m σ H->
  ((Itl K a).stop i H/\D.nx σ H)\/((Itl K a).go i H/\∃N:St->Hp->Prop,(∀σ' H',N σ' H'->∃m',m' < m/\W (i+1) m' σ' H')/\∀x H',(Itl K a).yld i H x H'->g x σ H' λσ2 H2=>tb { D with nx:=N,ct:=N,bk:=D.nx } σ2 H2):=by
 refine⟨λi m σ H=>m=xs.length - i/\i<=xs.length/\Pv i σ H,⟨xs.length,by simp,r_E _,h0⟩,?_⟩
 rintro i m σ H ⟨rfl,hi,p⟩
 have q:=hl i σ H hi p
 by_cases hlt:i < xs.length
 ·refine .inr ⟨⟨xs,xs[i],q,by simp[hlt]⟩,Pv (i+1),λσ' H' p'=>⟨xs.length - (i+1),by omega,rfl,hlt,p'⟩,λx H' y=> ?_⟩
  obtain⟨e,y⟩:=y
  subst e
  exact hs i x σ _ (y xs q) p
 ·have e:i=xs.length:=by omega
  subst e
  exact .inl ⟨⟨xs,q,r_l _⟩,hd σ H p⟩
theorem b_X {lo:Int} {n:Nat} {g:TG} {tb:TS} {D:i_y} {σ:St} {H:Hp} (Pv:Nat->St->Hp->Prop) (h0:Pv 0 σ H)
 (hs:∀i σ H,i < n->Pv i σ H->g (.int (lo+i)) σ H λσ2 H2=>tb { D with nx:=Pv (i+1),ct:=Pv (i+1),bk:=D.nx } σ2 H2) (hd:∀σ H,Pv n σ H->D.nx σ H):
 ∃W:Nat->Nat->St->Hp->Prop,(∃m,W 0 m σ H)/\∀i m σ H,W i m σ H->
  ((Itr lo n).stop i H/\D.nx σ H)\/((Itr lo n).go i H/\∃N:St->Hp->Prop,(∀σ' H',N σ' H'->∃m',m' < m/\W (i+1) m' σ' H')/\∀x H',(Itr lo n).yld i H x H'->g x σ H' λσ2 H2=>tb { D with nx:=N,ct:=N,bk:=D.nx } σ2 H2):=by
 refine⟨λi m σ H=>m=n - i/\i<=n/\Pv i σ H,⟨n,by simp,r_E _,h0⟩,?_⟩
 rintro i m σ H ⟨rfl,hi,p⟩
 by_cases hlt:i < n
 ·refine .inr ⟨hlt,Pv (i+1),λσ' H' p'=>⟨n - (i+1),by omega,rfl,hlt,p'⟩,λx H' y=> ?_⟩
  obtain⟨e,y⟩:=y
  subst e y
  exact hs i σ _ hlt p
 ·have e:i=n:=by omega
  subst e
  exact .inl ⟨r_l _,hd σ H p⟩
abbrev R2:=V->V->Hp->VK->Prop
def OpR (X:Cx) (f:Value->Value->Sem Value) (r:R2):Prop:=
 ∀(pins:List (Addr×Obj)) (s:Shared) (σ:St) (H:Hp) (x y:V) (v u:Value) (Q:VK),Inv X pins σ H s->RelV x v->RelV y u->r x y H Q->
  wpAny (model X.prog X.w) X.A (f v u) (EP X pins σ Q) X.xe s
def UnR (X:Cx) (f:Value->Sem Value) (r:V->Hp->VK->Prop):Prop:=
 ∀(pins:List (Addr×Obj)) (s:Shared) (σ:St) (H:Hp) (x:V) (v:Value) (Q:VK),Inv X pins σ H s->RelV x v->r x H Q->
  wpAny (model X.prog X.w) X.A (f v) (EP X pins σ Q) X.xe s
def d_a (X:Cx) (f:Value) (r:List V->Hp->VK->Prop):Prop:=
 ∀(pins:List (Addr×Obj)) (s:Shared) (σ:St) (H:Hp) (xs:List V) (us:List Value) (Q:VK),Inv X pins σ H s->Vals xs us->r xs H Q->
  wpAny (model X.prog X.w) X.A (call f us) (EP X pins σ Q) X.xe s
def tOp (r:R2) (ta tb:TE):TE:=λσ H Q=>ta σ H λx H1=>tb σ H1 λy H2=>r x y H2 Q
def tUn (r:V->Hp->VK->Prop) (ta:TE):TE:=λσ H Q=>ta σ H λx H1=>r x H1 Q
def rI (C:Int->Int->Prop) (g:Int->Int->V):R2:=λx y H Q=>∃i j,x= .int i/\y= .int j/\C i j/\Q (g i j) H
def rI0 (g:Int->Int->V):R2:=λx y H Q=>∃i j,x= .int i/\y= .int j/\Q (g i j) H
def rU (g:Int->V):V->Hp->VK->Prop:=λx H Q=>∃i,x= .int i/\Q (g i) H
section
variable {X:Cx} {a b c:Expr} {ta tb tc:TE} {pos:Pos}
theorem p_S (ha:PE X a ta) (hb:PE X b tb) {pins:List (Addr×Obj)} {s:Shared} {σ:St} {H:Hp} {R:V->V->Hp->Prop} (I:Inv X pins σ H s)
 (h:ta σ H λx H1=>tb σ H1 λy H2=>R x y H2) {Q:Value->Shared->Prop} {f:Value->Value->Sem Value}
 (hf:∀v u s2 x y H2,Inv X pins σ H2 s2->RelV x v->RelV y u->R x y H2->wpAny (model X.prog X.w) X.A (f v u) Q X.xe s2):
 wpAny (model X.prog X.w) X.A (eval a X.env) (λv s₁=>wpAny (model X.prog X.w) X.A (eval b X.env) (λu s₂=>wpAny (model X.prog X.w) X.A (f v u) Q X.xe s₂) X.xe s₁) X.xe s:=by
 refine thn (ha pins s σ H _ I h) λv s1 ⟨x,H1,I1,r1,q1⟩=> ?_
 refine thn (hb pins s1 σ H1 _ I1 q1) λu s2 ⟨y,H2,I2,r2,q2⟩=> ?_
 exact hf v u s2 x y H2 I2 r1 r2 q2
theorem a_t {op:Operator} {r:R2} (ho:OpR X (binaryOp op) r) (ha:PE X a ta) (hb:PE X b tb):PE X (.BinOp a op b pos) (tOp r ta tb):=by
 intro pins s σ H Q I h
 exact wpAny_BinOp (p_S ha hb I h λv u s2 x y H2 I2 rx ry q=>ho pins s2 σ H2 x y v u Q I2 rx ry q)
theorem o_k {op:UnaryOp} {r:V->Hp->VK->Prop} (ho:UnR X (unaryOp op) r) (ha:PE X a ta):PE X (.UnaryOp op a pos) (tUn r ta):=by
 intro pins s σ H Q I h
 exact UnaryOp_ (thn (ha pins s σ H _ I h) λv s1 ⟨x,H1,I1,r1,q1⟩=>ho pins s1 σ H1 x v Q I1 r1 q1)
theorem opI {f:Value->Value->Sem Value} {C:Int->Int->Prop} {g:Int->Int->Int}
 (rule:∀(i j:Int) (t u:Tok) (s:Shared) (Q:Value->Shared->Prop) (E:Value->Shared->Prop),C i j->Q (.int (g i j) s.toks) { s with toks:=s.toks+1 }->wpAny (model X.prog X.w) X.A (f (.int i t) (.int j u)) Q E s):
 OpR X f (rI C λi j=> .int (g i j)):=by
 intro pins s σ H x y v u Q I rx ry h
 obtain⟨i,j,rfl,rfl,hc,q⟩:=h
 obtain⟨t,rfl⟩:=rx
 obtain⟨t',rfl⟩:=ry
 exact rule i j t t' s _ _ hc ⟨.int (g i j),H,I.tok _,⟨_,rfl⟩,q⟩
theorem q_r {f:Value->Value->Sem Value} {g:Int->Int->Int}
 (rule:∀(i j:Int) (t u:Tok) (s:Shared) (Q:Value->Shared->Prop) (E:Value->Shared->Prop),Q (.int (g i j) s.toks) { s with toks:=s.toks+1 }->wpAny (model X.prog X.w) X.A (f (.int i t) (.int j u)) Q E s):
 OpR X f (rI0 λi j=> .int (g i j)):=by
 intro pins s σ H x y v u Q I rx ry h
 obtain⟨i,j,rfl,rfl,q⟩:=h
 obtain⟨t,rfl⟩:=rx
 obtain⟨t',rfl⟩:=ry
 exact rule i j t t' s _ _ ⟨.int (g i j),H,I.tok _,⟨_,rfl⟩,q⟩
theorem p_h {f:Value->Value->Sem Value} {g:Int->Int->Bool}
 (rule:∀(i j:Int) (t u:Tok) (s:Shared) (Q:Value->Shared->Prop) (E:Value->Shared->Prop),Q (.bool (g i j)) s->wpAny (model X.prog X.w) X.A (f (.int i t) (.int j u)) Q E s):
 OpR X f (rI0 λi j=> .bl (g i j)):=by
 intro pins s σ H x y v u Q I rx ry h
 obtain⟨i,j,rfl,rfl,q⟩:=h
 obtain⟨t,rfl⟩:=rx
 obtain⟨t',rfl⟩:=ry
 exact rule i j t t' s _ _ ⟨.bl (g i j),H,I,rfl,q⟩
def q_3 (i j:Int):Prop:=0 < j/\j < 1073741824
def q_9 (i j:Int):Prop:=0<=j/\j<=1000000/\i.natAbs < 2 ^ 64
def CMul (i j:Int):Prop:=(-(2 ^ 64) < i/\i < 2 ^ 64)\/(-(2 ^ 64) < j/\j < 2 ^ 64)
theorem CMul.ok {i j:Int} (h:CMul i j):IntMulOk i j:=by
 rcases h with⟨h1,h2⟩ | ⟨h1,h2⟩
 ·exact .of_left (intBits_le_64 h1 h2)
 ·exact .of_right (intBits_le_64 h1 h2)
theorem a_S:OpR X (binaryOp .Add) (rI0 λi j=> .int (i+j)):=q_r λ_ _ _ _ _ _ _ q=>add_int q
theorem b_R:OpR X (binaryOp .Sub) (rI0 λi j=> .int (i - j)):=q_r λ_ _ _ _ _ _ _ q=>sub_int q
theorem b_M:OpR X (binaryOp .Mult) (rI CMul λi j=> .int (i * j)):=opI λ_ _ _ _ _ _ _ hc q=>mul_int q hc.ok
theorem a_2:OpR X (binaryOp .FloorDiv) (rI q_3 λi j=> .int (i / j)):=opI λi j _ _ _ _ _ hc q=>by
 have h1:(0:Int) < j:=hc.1
 have h2:j < 1073741824:=hc.2
 exact floordiv_int (by omega) (by rw[Int.fdiv_eq_ediv_of_nonneg i (by omega)];exact q) (.inl (PyProof.noPylong_small (by omega)))
theorem a_P:OpR X (binaryOp .Mod) (rI (λ_ j=>0 < j) λi j=> .int (i % j)):=opI λi j _ _ _ _ _ hc q=>by
 have h1:(0:Int) < j:=hc
 exact mod_int' (by omega) (by rw[Int.fmod_eq_emod_of_nonneg i (by omega)];exact q)
theorem h_p:OpR X (binaryOp .Pow) (rI q_9 λi j=> .int (i ^ j.toNat)):=opI λ_ _ _ _ _ _ _ hc q=>pow_int_small hc.1 hc.2.1 hc.2.2 q
theorem unI {f:Value->Sem Value} {g:Int->Int}
 (rule:∀(i:Int) (t:Tok) (s:Shared) (Q:Value->Shared->Prop) (E:Value->Shared->Prop),Q (.int (g i) s.toks) { s with toks:=s.toks+1 }->wpAny (model X.prog X.w) X.A (f (.int i t)) Q E s):
 UnR X f (rU λi=> .int (g i)):=by
 intro pins s σ H x v Q I rx h
 obtain⟨i,rfl,q⟩:=h
 obtain⟨t,rfl⟩:=rx
 exact rule i t s _ _ ⟨.int (g i),H,I.tok _,⟨_,rfl⟩,q⟩
theorem l_0:UnR X (unaryOp .USub) (rU λi=> .int (-i)):=unI λ_ _ _ _ _ q=>neg_int q
end
def q_A:V->V->Bool
 | .non,.non=>true | .non,.int _=>true | .int _,.non=>true | .non,.bl _=>true | .bl _,.non=>true | .non,.str _=>true | .str _,.non=>true
 | .int _,.int _=>true | .bl _,.bl _=>true | .str _,.str _=>true | .byt _,.byt _=>true
 | .int _,.str _=>true | .str _,.int _=>true | .bl _,.str _=>true | .str _,.bl _=>true
 | _,_=>false
def rEq:R2:=λx y H Q=>q_A x y=true/\Q (.bl (decide (x=y))) H
def rNe:R2:=λx y H Q=>q_A x y=true/\Q (.bl (!decide (x=y))) H
theorem g_6 {i j:Int}:decide (V.int i=V.int j)=(i == j):=by
 rw[Bool.eq_iff_iff]
 simp
theorem l_2 {i j:Bool}:decide (V.bl i=V.bl j)=(i == j):=by
 rw[Bool.eq_iff_iff]
 simp
theorem g_F {i j:Str}:decide (V.str i=V.str j)=(i == j):=by
 rw[Bool.eq_iff_iff]
 simp
theorem k_g {i j:Array UInt8}:decide (V.byt i=V.byt j)=(i.toList == j.toList):=by
 rw[Bool.eq_iff_iff]
 cases i
 cases j
 simp
section
variable {X:Cx} {a b c:Expr} {ta tb tc:TE} {pos:Pos}
theorem a_K {pins:List (Addr×Obj)} {σ:St} {H:Hp} {s:Shared} {Q:VK} {k k':Bool} (I:Inv X pins σ H s) (q:Q (.bl k) H) (e:k=k'):EP X pins σ Q (.bool k') s:=by
 subst e
 exact⟨.bl k,H,I,rfl,q⟩
theorem a_H:OpR X (compareOp .Eq) rEq:=by
 intro pins s σ H x y v u Q I rx ry h
 obtain⟨hs,q⟩:=h
 cases x with
 | non=>
   cases rx
   cases y with
   | non=>cases ry;exact PySem.EqNone.eq_none_none (a_K I q (by simp))
   | bl j=>cases ry;exact PySem.EqNone.eq_none_bool (a_K I q (by simp))
   | int j=>obtain⟨t',rfl⟩:=ry;exact PySem.EqNone.eq_none_int (a_K I q (by simp))
   | str j=>obtain⟨t',rfl⟩:=ry;exact PySem.EqNone.eq_none_str (a_K I q (by simp))
   | _=>exact absurd (show false=true from hs) r_t
 | bl i=>
   cases rx
   cases y with
   | non=>cases ry;exact PySem.EqNone.eq_bool_none (a_K I q (by simp))
   | bl j=>cases ry;exact eq_bool (a_K I q l_2)
   | str j=>obtain⟨t',rfl⟩:=ry;exact PySem.EqMixed.eq_bool_str (a_K I q (by simp))
   | _=>exact absurd (show false=true from hs) r_t
 | int i=>
   obtain⟨t,rfl⟩:=rx
   cases y with
   | non=>cases ry;exact PySem.EqNone.eq_int_none (a_K I q (by simp))
   | int j=>obtain⟨t',rfl⟩:=ry;exact eq_int (a_K I q g_6)
   | str j=>obtain⟨t',rfl⟩:=ry;exact PySem.EqMixed.eq_int_str (a_K I q (by simp))
   | _=>exact absurd (show false=true from hs) r_t
 | str i=>
   obtain⟨t,rfl⟩:=rx
   cases y with
   | non=>cases ry;exact PySem.EqNone.eq_str_none (a_K I q (by simp))
   | bl j=>cases ry;exact PySem.EqMixed.eq_str_bool (a_K I q (by simp))
   | int j=>obtain⟨t',rfl⟩:=ry;exact PySem.EqMixed.eq_str_int (a_K I q (by simp))
   | str j=>obtain⟨t',rfl⟩:=ry;exact eq_str (a_K I q g_F)
   | _=>exact absurd (show false=true from hs) r_t
 | byt i=>
   obtain⟨t,rfl⟩:=rx
   cases y with
   | byt j=>obtain⟨t',rfl⟩:=ry;exact PySem.W.eq_bytes (a_K I q k_g)
   | _=>exact absurd (show false=true from hs) r_t
 | _=>cases y <;> exact absurd (show false=true from hs) r_t
theorem d_D:OpR X (compareOp .NotEq) rNe:=by
 intro pins s σ H x y v u Q I rx ry h
 obtain⟨hs,q⟩:=h
 cases x with
 | non=>
   cases rx
   cases y with
   | non=>cases ry;exact PySem.EqNone.ne_none_none (a_K I q (by simp))
   | bl j=>cases ry;exact PySem.EqNone.ne_none_bool (a_K I q (by simp))
   | int j=>obtain⟨t',rfl⟩:=ry;exact PySem.EqNone.ne_none_int (a_K I q (by simp))
   | str j=>obtain⟨t',rfl⟩:=ry;exact PySem.EqNone.ne_none_str (a_K I q (by simp))
   | _=>exact absurd (show false=true from hs) r_t
 | bl i=>
   cases rx
   cases y with
   | non=>cases ry;exact PySem.EqNone.ne_bool_none (a_K I q (by simp))
   | bl j=>cases ry;exact ne_bool (a_K I q (congrArg not l_2))
   | str j=>obtain⟨t',rfl⟩:=ry;exact PySem.EqMixed.ne_bool_str (a_K I q (by simp))
   | _=>exact absurd (show false=true from hs) r_t
 | int i=>
   obtain⟨t,rfl⟩:=rx
   cases y with
   | non=>cases ry;exact PySem.EqNone.ne_int_none (a_K I q (by simp))
   | int j=>obtain⟨t',rfl⟩:=ry;exact ne_int (a_K I q (congrArg not g_6))
   | str j=>obtain⟨t',rfl⟩:=ry;exact PySem.EqMixed.ne_int_str (a_K I q (by simp))
   | _=>exact absurd (show false=true from hs) r_t
 | str i=>
   obtain⟨t,rfl⟩:=rx
   cases y with
   | non=>cases ry;exact PySem.EqNone.ne_str_none (a_K I q (by simp))
   | bl j=>cases ry;exact PySem.EqMixed.ne_str_bool (a_K I q (by simp))
   | int j=>obtain⟨t',rfl⟩:=ry;exact PySem.EqMixed.ne_str_int (a_K I q (by simp))
   | str j=>obtain⟨t',rfl⟩:=ry;exact ne_str (a_K I q (congrArg not g_F))
   | _=>exact absurd (show false=true from hs) r_t
 | byt i=>
   obtain⟨t,rfl⟩:=rx
   cases y with
   | byt j=>obtain⟨t',rfl⟩:=ry;exact PySem.W.ne_bytes (a_K I q (congrArg not k_g))
   | _=>exact absurd (show false=true from hs) r_t
 | _=>cases y <;> exact absurd (show false=true from hs) r_t
theorem e_E:OpR X (compareOp .Lt) (rI0 λi j=> .bl (decide (i < j))):=p_h λ_ _ _ _ _ _ _ q=>lt_int q
theorem p_s:OpR X (compareOp .LtE) (rI0 λi j=> .bl (decide (i<=j))):=p_h λ_ _ _ _ _ _ _ q=>le_int q
theorem h_0:OpR X (compareOp .Gt) (rI0 λi j=> .bl (decide (j < i))):=p_h λ_ _ _ _ _ _ _ q=>gt_int q
theorem i_W:OpR X (compareOp .GtE) (rI0 λi j=> .bl (decide (j<=i))):=p_h λ_ _ _ _ _ _ _ q=>ge_int q
theorem OpR.or {f:Value->Value->Sem Value} {r r':R2} (h:OpR X f r) (h':OpR X f r'):OpR X f (λx y H Q=>r x y H Q\/r' x y H Q):=by
 intro pins s σ H x y v u Q I rx ry q
 rcases q with q | q
 ·exact h pins s σ H x y v u Q I rx ry q
 ·exact h' pins s σ H x y v u Q I rx ry q
theorem a_o (b:Expr) {op:CmpOp} (h:op≠ .In:=by decide) (h2:op≠ .NotIn:=by decide):behindInMarks op b=false:=by
 have e1:(op == CmpOp.In)=false:=by cases op <;> first | rfl | exact absurd rfl h
 have e2:(op == CmpOp.NotIn)=false:=by cases op <;> first | rfl | exact absurd rfl h2
 cases b <;> simp[behindInMarks,e1,e2]
theorem b_W {op:CmpOp} {r:R2} (ho:OpR X (compareOp op) r) (ha:PE X a ta) (hb:PE X b tb) (hm:behindInMarks op b=false):PE X (.Compare a [op] [b] pos) (tOp r ta tb):=by
 intro pins s σ H Q I h
 exact wpAny_Compare1 (p_S ha hb I h λv u s2 x y H2 I2 rx ry q=>ho pins s2 σ H2 x y v u Q I2 rx ry q) hm
def p_z (t:TE):TT:=λσ H Q=>t σ H λx H'=>∃k,x= .bl k/\Q k H'
theorem a_k {op:CmpOp} {r:R2} (ho:OpR X (compareOp op) r) (ha:PE X a ta) (hb:PE X b tb) (hm:behindInMarks op b=false):PT X (.Compare a [op] [b] pos) (p_z (tOp r ta tb)):=by
 intro pins s σ H Q I h
 refine wpAny_isTrue_Compare1 (thn (ha pins s σ H _ I h) λv s1 ⟨x,H1,I1,r1,q1⟩=>thn (hb pins s1 σ H1 _ I1 q1) λu s2 ⟨y,H2,I2,r2,q2⟩=>
  thn (ho pins s2 σ H2 x y v u _ I2 r1 r2 q2) λc s3 ⟨z,H3,I3,r3,k,e,q3⟩=> ?_) hm
 subst e
 cases r3
 exact wpAny_truthy_bool ⟨H3,I3,q3⟩
theorem e_s:(sizeLine:Nat) < 2 ^ 63:=by rw[sizeLine_eq];decide
theorem e_3:OpR X (binaryOp .Add) (λx y H Q=>∃i j,x= .str i/\y= .str j/\i.length+j.length<=sizeLine/\Q (.str (i++j)) H):=by
 intro pins s σ H x y v u Q I rx ry h
 obtain⟨i,j,rfl,rfl,hz,q⟩:=h
 obtain⟨t,rfl⟩:=rx
 obtain⟨t',rfl⟩:=ry
 exact add_str (λt' tk=>⟨.str (i++j),H,I.tok _,⟨_,rfl⟩,q⟩) hz
theorem i_k {x:V} {us:List Value} (r:Vals [x] us):∃u,us= [u]/\RelV x u:=by
 cases r with
 | cons r1 r2=>cases r2;exact⟨_,rfl,r1⟩
theorem o_Z {x y:V} {us:List Value} (r:Vals [x,y] us):∃u w',us= [u,w']/\RelV x u/\RelV y w':=by
 cases r with
 | cons r1 r2=>
   cases r2 with
   | cons r3 r4=>cases r4;exact⟨_,_,rfl,r1,r3⟩
theorem j_L (hc:X.calm=true):d_a X (.builtin "max") (λxs H Q=>∃i j,xs= [.int i,.int j]/\Q (.int (if j > i then j else i)) H):=by
 intro pins s σ H xs us Q I r h
 obtain⟨i,j,rfl,q⟩:=h
 obtain⟨u,w',rfl,⟨t,rfl⟩,⟨t',rfl⟩⟩:=o_Z r
 refine max_two_ints (I.ok.hd hc) λh' tk k=>⟨_,H,I.kept k,?_, q⟩
 by_cases hj:j > i
 ·rw[if_pos hj,if_pos hj];exact⟨_,rfl⟩
 ·rw[if_neg hj,if_neg hj];exact⟨_,rfl⟩
theorem j_W (hc:X.calm=true):d_a X (.builtin "min") (λxs H Q=>∃i j,xs= [.int i,.int j]/\Q (.int (if j < i then j else i)) H):=by
 intro pins s σ H xs us Q I r h
 obtain⟨i,j,rfl,q⟩:=h
 obtain⟨u,w',rfl,⟨t,rfl⟩,⟨t',rfl⟩⟩:=o_Z r
 refine min_two_ints (I.ok.hd hc) λh' tk k=>⟨_,H,I.kept k,?_, q⟩
 by_cases hj:j < i
 ·rw[if_pos hj,if_pos hj];exact⟨_,rfl⟩
 ·rw[if_neg hj,if_neg hj];exact⟨_,rfl⟩
theorem b_z:d_a X (.type "int") (λxs H Q=>(∃i,xs= [.int i]/\Q (.int i) H)\/∃k,xs= [.bl k]/\Q (.int (if k then 1 else 0)) H):=by
 intro pins s σ H xs us Q I r h
 rcases h with⟨i,rfl,q⟩ | ⟨k,rfl,q⟩
 ·obtain⟨u,rfl,t,rfl⟩:=i_k r
  exact call_int_int ⟨.int i,H,I,⟨_,rfl⟩,q⟩
 ·obtain⟨u,rfl,r1⟩:=i_k r
  cases r1
  exact call_int_bool ⟨.int (if k then 1 else 0),H,I.tok _,⟨_,rfl⟩,q⟩
end
structure ObjM (h:Heap) (x dx C:Addr) (mA:Str->Option Value):Prop where
 obj:h.get? x=some (PySem.W.instObj C dx)
 ns:h.Ns1 dx mA
 ne:dx≠x
theorem j_A {h:Heap} {dx:Addr} {mA:Str->Option Value} (n:h.Ns1 dx mA):∃od,h.get? dx=some od/\∀name,PySem.W.lookIn name od=some (mA name):=by
 obtain⟨o,es,ep,ho,hd,hk,_,hm⟩:=n
 refine⟨o,ho,λname=> ?_⟩
 have e:=hm name
 unfold nsFind findBy at e
 rw[<-Array.find?_toList] at e
 unfold PySem.W.lookIn
 rw[hd]
 dsimp only
 split
 ·rename_i y q
  rw[q] at e
  exact congrArg some e
 ·rename_i q
  rw[q] at e
  have a:es.toList.any (·.refKey)=false:=by
   rw[List.any_eq_false]
   intro y hy
   obtain⟨z,t,hkey⟩:=hk y (Array.mem_toList_iff.mp hy)
   simp[DictEntry.refKey,hkey]
  have a':¬ es.toList.any (·.refKey)=true:=by rw[a];exact r_t
  rw[if_neg a']
  exact congrArg some e
theorem ObjM.look {h:Heap} {x dx C:Addr} {mA:Str->Option Value} (I:ObjM h x dx C mA):∃od,PySem.W.InstAt h x (PySem.W.instObj C dx) C (some od)/\∀name,PySem.W.lookIn name od=some (mA name):=
 let ⟨od,ho,hl⟩:=j_A I.ns
 ⟨od,⟨I.obj,rfl,rfl,ho⟩,hl⟩
section
variable {prog:Program} {w:World} {A:Around} {E:Value->Shared->Prop} {s:Shared} {K:PySem.W.Frag} {x dx C f:Addr} {mA:Str->Option Value} {name:Str} {v:Value}
theorem m_9 {expr:Bool} {Q:Value->Shared->Prop} (X:K.In s.heap) (I:ObjM s.heap x dx C mA) (hg:PySem.W.plainGet K C name=true) (hh:PySem.W.hasDictIn K C=true)
 (ha:PySem.W.findIn K (.ref C) name=some none) (hv:mA name=some v) (hv':PySem.W.handedIn v=true) (h:Q v { s with toks:=s.toks+1 }):
 wpAny (model prog w) A (getAttr (.ref x) name expr) Q E s:=by
 obtain⟨od,J,hl⟩:=I.look
 exact PySem.W.get_value X J (PySem.W.plainGet_of hg).1 (PySem.W.findObj_own hh ha rfl (by rw[hl,hv])) hv' h
theorem k_I {pl:Sem Bool} {Q:Value×List Value->Shared->Prop} (X:K.In s.heap) (I:ObjM s.heap x dx C mA) (hg:PySem.W.plainGet K C name=true)
 (hf:PySem.W.findIn K (.ref C) name=some (some (.ref f))) (ht:PySem.W.isFn K (.ref f)=true) (hv:mA name=none) (h:Q (.ref f, [.ref x]) s):
 wpAny (model prog w) A (getMethod (.ref x) name pl) Q E s:=by
 obtain⟨od,J,hl⟩:=I.look
 exact PySem.W.method_fn X J (PySem.W.plainGet_of hg).1 (PySem.W.plainGet_of hg).2 hf (beq_iff_eq.mp ht) (by show (PySem.W.lookIn name od).map (·.isSome)=some false;rw[hl,hv];rfl) h
theorem m_V {ns:List Str} {Q:Unit->Shared->Prop} (X:K.In s.heap) (I:ObjM s.heap x dx C mA)
 (hs:PySem.W.findIn K (.ref C) "__setattr__"=some (some (.builtin "object.__setattr__"))) (hp:PySem.W.plainOver K C=true) (ht:PySem.W.takerIn K C name=some none) (hh:PySem.W.hasDictIn K C=true)
 (hw:PySem.Within mA ns) (hsz:ns.length<=sizeLine)
 (h:∀h',ObjM h' x dx C (λy=>if y=name then some v else mA y)->Heap.SameBut dx s.heap h'->Q () { s with heap:=h',toks:=s.toks+2 }):
 wpAny (model prog w) A (setAttr (.ref x) name v) Q E s:=by
 obtain⟨od,J,hl⟩:=I.look
 refine PySem.W.set_plain X J hs (PySem.W.osa_open (s:={ s with toks:=s.toks+1 }) (r:=none) X J hp ht λb=> ?_)
 obtain⟨cd,hc,hd'⟩:=PySem.W.any_some hh
 have hx:s.heap.get? x=some ⟨.ref C,some dx,.plain,#[]⟩:=I.obj
 refine wpAny_bind (wpAny_pure (wpAny_bind (wpAny_bind (wpAny_loadPart hx (wpAny_bind (PySem.W.Looks.here (s:={ s with toks:=s.toks+1 }) (PySem.W.looks_clsIn X hc) ?_))))))
 rw[hd']
 refine wpAny_pure (a:=some dx) (wpAny_bind (wpAny_pure (wpAny_bind ?_)))
 refine wpAny_nsSet1 (s:={ s with toks:=s.toks+1 }) I.ns λh' hn2 hs2=> ?_
 obtain⟨oD,esD,epD,hoD,hdD,hcD⟩:=hn2.count (PySem.Within.cons name v hw)
 refine wpAny_bind (wpAny_lookBehind hoD (by rw[hdD];exact pastItsLine_dict (r_x hcD (by rw[r_i];omega))) ?_)
 exact wpAny_pure (h _ ⟨(hs2.2 _ (Ne.symm I.ne)).trans I.obj,hn2,I.ne⟩ hs2)
theorem l_D {R:Result->Shared->Prop} {vs:List Value} {kw:List (Str×Value)} (X:K.In s.heap) (hm:PySem.W.makesIn K C=true)
 (hi:PySem.W.findIn K (.ref C) "__init__"=some (some (.ref f))) (hf:PySem.W.typeIn K (.ref f)=some (.type "function"))
 (h:codeAny (model prog w) (A.under (.builtin "type.__call__" ⟨.ref C::vs,kw⟩)) (.call (.ref f) ⟨.ref (s.heap.objs.size+1)::vs,kw⟩) (PySem.W.InitBack (s.heap.objs.size+1) R)
   { s with heap:=(s.heap.push PySem.W.emptyDict).push (PySem.W.instObj C s.heap.objs.size) }):
 codeAny (model prog w) A (.call (.ref C) ⟨vs,kw⟩) R s:=by
 obtain⟨hh,g,d,t,os⟩:=s
 exact PySem.W.make_core (PySem.W.makes_of X hm) (PySem.W.looks_findIn X hi) (λself=>PySem.W.bind_fn X self hf) (.inl rfl) h
end
def d_m (f:Str) (v:V):List (Str×V)->List (Str×V)
 | []=> [(f,v)]
 | (g,x)::r=>if g=f then (g,v)::r else (g,x)::d_m f v r
theorem b_k (f g:Str) (v:V):∀fs:List (Str×V),(d_m f v fs).lookup g=if g=f then some v else fs.lookup g
 | []=>by
   show List.lookup g [(f,v)]=_
   by_cases h:g=f
   ·have hb:(g == f)=true:=beq_iff_eq.mpr h
    simp only[List.lookup,hb,if_pos h]
   ·have hb:(g == f)=false:=beq_eq_false_iff_ne.mpr h
    simp only[List.lookup,hb,if_neg h]
 | (k,x)::r=>by
   have ih:=b_k f g v r
   rw[show d_m f v ((k,x)::r)=(if k=f then (k,v)::r else (k,x)::d_m f v r) from rfl]
   by_cases hk:k=f
   ·rw[if_pos hk]
    by_cases h:g=k
    ·have hb:(g == k)=true:=beq_iff_eq.mpr h
     simp only[List.lookup,hb,if_pos (h.trans hk)]
    ·have hb:(g == k)=false:=beq_eq_false_iff_ne.mpr h
     simp only[List.lookup,hb,if_neg (λe:g=f=>h (e.trans hk.symm))]
   ·rw[if_neg hk]
    by_cases h:g=k
    ·have hb:(g == k)=true:=beq_iff_eq.mpr h
     simp only[List.lookup,hb,if_neg (λe:g=f=>hk (h.symm.trans e))]
    ·have hb:(g == k)=false:=beq_eq_false_iff_ne.mpr h
     simp only[List.lookup,hb]
     exact ih
theorem e_t (f:Str) (v:V):∀fs:List (Str×V),f∈(d_m f v fs).map (·.1)/\∀g,g∈fs.map (·.1)->g∈(d_m f v fs).map (·.1)
 | []=>⟨by simp[d_m],λg h=>by simp at h⟩
 | (k,x)::r=>by
   obtain⟨i1,i2⟩:=e_t f v r
   rw[show d_m f v ((k,x)::r)=(if k=f then (k,v)::r else (k,x)::d_m f v r) from rfl]
   by_cases hk:k=f
   ·rw[if_pos hk]
    subst hk
    exact⟨by simp,λg h=>by simpa using h⟩
   ·rw[if_neg hk]
    refine⟨?_, λg h=> ?_⟩
    ·rw[r_r]
     exact r_f _ i1
    ·rw[r_r] at h ⊢
     rcases r_n.mp h with e | e
     ·exact r_n.mpr (.inl e)
     ·exact r_f _ (i2 g e)
theorem e_f (f:Str) (v:V):∀fs:List (Str×V),(d_m f v fs).length<=fs.length+1
 | []=>by simp[d_m]
 | (k,x)::r=>by
   have ih:=e_f f v r
   rw[show d_m f v ((k,x)::r)=(if k=f then (k,v)::r else (k,x)::d_m f v r) from rfl]
   by_cases hk:k=f
   ·rw[if_pos hk,r_i,r_i];omega
   ·rw[if_neg hk,r_i,r_i];omega
theorem RelO.some_of {v:V} {o:Option Value} (r:RelO (some v) o):∃u,o=some u/\RelV v u:=by
 cases o with
 | none=>exact (show False from r).elim
 | some u=>exact⟨u,rfl,r⟩
theorem RelO.none_of {o:Option Value} (r:RelO none o):o=none:=by
 cases o with
 | none=>rfl
 | some u=>exact (show False from r).elim
theorem j_4 {v:V} {u:Value} (r:RelV v u):PySem.W.handedIn u=true:=by
 cases v with
 | non=>cases (show u=Value.none from r);rfl
 | bl b=>cases (show u=Value.bool b from r);rfl
 | int i=>obtain⟨t,e⟩:=(show ∃t,u=Value.int i t from r);cases e;rfl
 | str x=>obtain⟨t,e⟩:=(show ∃t,u=Value.str x t from r);cases e;rfl
 | byt b=>obtain⟨t,e⟩:=(show ∃t,u=Value.bytes b t from r);cases e;rfl
 | flt b=>obtain⟨t,e⟩:=(show ∃t,u=Value.float b t from r);cases e;rfl
 | ref a=>cases (show u=Value.ref a from r);rfl
 | ty n=>cases (show u=Value.type n from r);rfl
section
variable {P:Program} {w:World} {H H':Hp} {h h':Heap} {a C dx:Addr} {fs fs':List (Str×V)}
theorem f_a (hok:HOk P w H h) (e:H a=some (.ins C dx fs)):∃mA,ObjM h a dx C mA/\(∀f,RelO (fs.lookup f) (mA f))/\PySem.Within mA (fs.map (·.1))/\fs.length<=1000/\H dx=some (.own a):=by
 obtain⟨d,z,ne,ob,mA,n,r,q⟩:=(show ObjOk P w H h a (.ins C dx fs) from hok a _ e)
 exact⟨mA,⟨ob,n,ne⟩,r,q,z,d⟩
end
structure Cls (K:PySem.W.Frag) (C:Addr):Prop where
 pg:PySem.W.plainGet K C Str.empty=true
 hd:PySem.W.hasDictIn K C=true
 po:PySem.W.plainOver K C=true
 sa:PySem.W.findIn K (.ref C) "__setattr__"=some (some (.builtin "object.__setattr__"))
theorem Cls.get {K:PySem.W.Frag} {C:Addr} (c:Cls K C) (f:Str):PySem.W.plainGet K C f=true:=c.pg
def NoAttr (K:PySem.W.Frag) (C:Addr) (f:Str):Prop:=PySem.W.findIn K (.ref C) f=some none
theorem NoAttr.taker {K:PySem.W.Frag} {C:Addr} {f:Str} (n:NoAttr K C f):PySem.W.takerIn K C f=some none:=by
 unfold PySem.W.takerIn
 rw[show PySem.W.findIn K (.ref C) f=some none from n]
 rfl
structure o_B (K:PySem.W.Frag) (C:Addr) (m:Str) (f:Addr):Prop where
 at_:PySem.W.findIn K (.ref C) m=some (some (.ref f))
 fn:PySem.W.isFn K (.ref f)=true
 kp:PySem.W.keepIn K (.ref f)=true
section
variable {X:Cx} {pins:List (Addr×Obj)} {σ:St} {H:Hp} {s:Shared} {a C dx:Addr} {fs:List (Str×V)} {f:Str} {v:V} {A:Around} {E:Value->Shared->Prop}
theorem i_u {b:Bool} {Q:Value->Shared->Prop} (I:Inv X pins σ H s) (e:H a=some (.ins C dx fs)) (c:Cls X.K C) (n:NoAttr X.K C f) (l:fs.lookup f=some v)
 (h:∀u s',Inv X pins σ H s'->RelV v u->Q u s'):wpAny (model X.prog X.w) A (getAttr (.ref a) f b) Q E s:=by
 obtain⟨mA,O,r,_,_,_⟩:=f_a I.hok e
 obtain⟨u,hu,ru⟩:=RelO.some_of (v:=v) (o:=mA f) (by rw[<-l];exact r f)
 exact m_9 I.kIn O (c.get f) c.hd n hu (j_4 ru) (h u _ (I.tok _) ru)
theorem d_r {m:Str} {g:Addr} {pl:Sem Bool} {Q:Value×List Value->Shared->Prop} (I:Inv X pins σ H s) (e:H a=some (.ins C dx fs)) (c:Cls X.K C) (k:o_B X.K C m g) (l:fs.lookup m=none)
 (h:Q (.ref g, [.ref a]) s):wpAny (model X.prog X.w) A (getMethod (.ref a) m pl) Q E s:=by
 obtain⟨mA,O,r,_,_,_⟩:=f_a I.hok e
 have hn:mA m=none:=RelO.none_of (by rw[<-l];exact r m)
 exact k_I I.kIn O (c.get m) k.at_ k.fn hn h
theorem h_X {y:V} {u:Value} {Q:Unit->Shared->Prop} (I:Inv X pins σ H s) (e:H a=some (.ins C dx fs)) (c:Cls X.K C) (n:NoAttr X.K C f) (hl:fs.length < 1000) (ry:RelV y u)
 (h:∀s',Inv X pins σ (upd H a (.ins C dx (d_m f y fs))) s'->Q () s'):wpAny (model X.prog X.w) A (setAttr (.ref a) f u) Q E s:=by
 obtain⟨mA,O,r,wi,_,ho⟩:=f_a I.hok e
 have hz:(fs.map (·.1)).length<=sizeLine:=by rw[r_c,sizeLine_eq];omega
 refine m_V I.kIn O c.sa c.po n.taker c.hd wi hz λh' O' sb=>h _ ?_
 have hd:∃o,h'.get? dx=some o:=let ⟨o,_,_,e',_⟩:=O'.ns;⟨o,e'⟩
 refine I.write (x:=a) (e:=dx) (by rw[e];exact True.intro) (.inr ho) (λb q hb z=>(sb.2 b hb).trans z) hd ?_
 refine⟨by rw[a_i O.ne];exact ho,?_, O.ne,O'.obj,_,O'.ns,λg=> ?_, λg hg=> ?_⟩
 ·have:=e_f f y fs;omega
 ·show RelO ((d_m f y fs).lookup g) (if g=f then some u else mA g)
  rw[b_k]
  by_cases q:g=f
  ·rw[if_pos q,if_pos q];exact ry
  ·rw[if_neg q,if_neg q];exact r g
 ·by_cases q:g=f
  ·rw[q];exact (e_t f y fs).1
  ·refine (e_t f y fs).2 g (wi g λz=>hg ?_)
   show (if g=f then some u else mA g)=none
   rw[if_neg q];exact z
theorem Inv.made (I:Inv X pins σ H s):Inv X pins σ (upd (upd H s.heap.objs.size (.own (s.heap.objs.size+1))) (s.heap.objs.size+1) (.ins C s.heap.objs.size []))
 { s with heap:=(s.heap.push PySem.W.emptyDict).push (PySem.W.instObj C s.heap.objs.size) }:=by
 have e1:(s.heap.push PySem.W.emptyDict).get? s.heap.objs.size=some PySem.W.emptyDict:=Heap.get?_push_size s.heap rfl
 have e2:((s.heap.push PySem.W.emptyDict).push (PySem.W.instObj C s.heap.objs.size)).get? (s.heap.objs.size+1)=some (PySem.W.instObj C s.heap.objs.size):=by
  have:=Heap.get?_push_size (s.heap.push PySem.W.emptyDict) (o:=PySem.W.instObj C s.heap.objs.size) rfl
  rwa [Heap.size_push] at this
 have e3:(s.heap.push PySem.W.emptyDict).Ns s.heap.objs.size (λ_=>none):=⟨PySem.W.emptyDict,#[],_,e1,rfl,(λe he=>absurd he (by simp)),λ_=>rfl⟩
 have I1:=I.laid (a:=s.heap.objs.size) (o:= .own (s.heap.objs.size+1)) (h':=s.heap.push PySem.W.emptyDict) (t':=s.toks) (λb u q=>Heap.get?_push_of_some _ q) (r_l _) ⟨_,e1⟩
 refine I1.laid (a:=s.heap.objs.size+1) (o:= .ins C s.heap.objs.size []) (t':=s.toks) (λb u q=>Heap.get?_push_of_some _ q) (Nat.le_of_eq (Heap.size_push _ _)) ?_
 have ne:s.heap.objs.size≠s.heap.objs.size+1:=r_A (Nat.lt_succ_self _)
 refine⟨by rw[a_i ne,a_b],r_E _,ne,e2,λ_=>none,(Heap.Ns1.of_empty e3).at λo q=>Heap.get?_push_of_some _ q,λ_=>True.intro,λy hy=>absurd rfl hy⟩
theorem m_r {prog:Program} {w:World} {env:Env} {e:Expr} {f:Str} {pos:Pos} {s:Shared} {Q:Value->Shared->Prop} (hb:attributeBase e f env (eval e env)=eval e env)
 (h:wpAny (model prog w) A (eval e env) (λo s₁=>wpAny (model prog w) A (getAttr o f true) Q E s₁) E s):wpAny (model prog w) A (eval (.Attribute e f pos) env) Q E s:=
 Attribute_any_ h (by rw[arm_eval_Attribute,hb])
end
def q_8 (K:PySem.W.Frag) (ta:TE) (f:Str):TE:=λσ H Q=>ta σ H λx H1=>∃a C dx fs v,x= .ref a/\H1 a=some (.ins C dx fs)/\Cls K C/\NoAttr K C f/\fs.lookup f=some v/\Q v H1
def q_N (K:PySem.W.Frag) (ta tv:TE) (f:Str):TS:=λD σ H=>tv σ H λy H1=>ta σ H1 λx H2=>∃a C dx fs,x= .ref a/\H2 a=some (.ins C dx fs)/\Cls K C/\NoAttr K C f/\fs.length < 1000/\
 D.nx σ (upd H2 a (.ins C dx (d_m f y fs)))
section
variable {X:Cx} {o e value:Expr} {f:Str} {pos pos' tpos:Pos} {ta tv:TE}
theorem a_D (he:PE X e ta) (hb:attributeBase e f X.env (eval e X.env)=eval e X.env):PE X (.Attribute e f pos) (q_8 X.K ta f):=by
 intro pins s σ H Q I h
 refine m_r hb (thn (he pins s σ H _ I h) λu s1 ⟨x,H1,I1,rx,a,C,dx,fs,v,ex,ea,c,n,l,q⟩=> ?_)
 subst ex
 obtain rfl:u=Value.ref a:=rx
 exact i_u I1 ea c n l λu' s2 I2 ru=>⟨v,H1,I2,ru,q⟩
theorem d_d (ha:PE X o ta) (hv:PE X value tv) (hs:swapsWith value (some (.Attribute o f pos')) pos.line X.env=pure false):PS X (.Assign [.Attribute o f pos'] value pos) (q_N X.K ta tv f):=by
 intro pins s σ H D I h
 refine plainObj_wpAny_Assign_Attribute (thn (hv pins s σ H _ I h) λu s1 ⟨y,H1,I1,ry,q⟩=>thn (ha pins s1 σ H1 _ I1 q) λov s2 ⟨x,H2,I2,rx,a,C,dx,fs,ex,ea,c,n,l,q2⟩=> ?_) hs
 subst ex
 obtain rfl:ov=Value.ref a:=rx
 exact h_X I2 ea c n l ry λs3 I3=>⟨σ,_,I3,q2⟩
theorem n_c {pl:Sem Bool} {m:Str} {apos:Pos} {args:List Expr} {pins:List (Addr×Obj)} {s:Shared} {σ:St} {H:Hp} {Q:Value->Shared->Prop} {te:TE} (he:PE X e te) (I:Inv X pins σ H s)
 (h:te σ H fun x H1=>∃a C dx fs g,x= .ref a∧H1 a=some (.ins C dx fs)∧Cls X.K C∧o_B X.K C m g∧fs.lookup m=none∧
   ∀s1,Inv X pins σ H1 s1->wpAny (model X.prog X.w) X.A (callWith pos (.ref g) [.ref a] (backTo pos (starEach args X.env)) (backToKw pos (keywordEach [] X.env))) Q X.xe s1)
 (ht:eval (.Call (.Attribute e m apos) args [] pos) X.env=(do
   let ov<-eval e X.env
   standAt apos.atName
   let (f,first)<-holding [ov] (getMethod ov m pl)
   callWith pos f first (backTo pos (starEach args X.env)) (backToKw pos (keywordEach [] X.env)))):
 wpAny (model X.prog X.w) X.A (eval (.Call (.Attribute e m apos) args [] pos) X.env) Q X.xe s:=by
 refine PySem.W.methodCall_KW (pl:=pl) (thn (he pins s σ H _ I h) λu s1 ⟨x,H1,I1,rx,a,C,dx,fs,g,ex,ea,c,k,l,q⟩=> ?_) ht
 subst ex
 obtain rfl:u=Value.ref a:=rx
 exact d_r I1 ea c k l (q s1 I1)
end
section
variable {X:Cx} {pins:List (Addr×Obj)} {σ:St} {H:Hp} {s:Shared} {A:Around} {E:Value->Shared->Prop} {Q:Value->Shared->Prop} {c:Value} {b:Bool}
inductive h_z (K:PySem.W.Frag) (H:Hp):V->Value->Prop where
 | non:h_z K H .non (.type "NoneType")
 | bl (x:Bool):h_z K H (.bl x) (.type "bool")
 | int (i:Int):h_z K H (.int i) (.type "int")
 | str (x:Str):h_z K H (.str x) (.type "str")
 | flt (x:UInt64):h_z K H (.flt x) (.type "float")
 | lst {a:Addr} {xs:List V} (e:H a=some (.lst xs)):h_z K H (.ref a) (.type "list")
 | frz {a:Addr} {o:Obj} {xs:List V} (e:H a=some (.frz o (.lst xs))):h_z K H (.ref a) (.type "list")
 | tup {a:Addr} {xs:List V} (e:H a=some (.tup xs)):h_z K H (.ref a) (.type "tuple")
 | dK {a:Addr} {kvs:List (Key×V)} (e:H a=some (.dK kvs)):h_z K H (.ref a) (.type "dict")
 | dT {a:Addr} {kvs:List (List Key×V)} (e:H a=some (.dT kvs)):h_z K H (.ref a) (.type "dict")
 | ins {a C dx:Addr} {fs:List (Str×V)} (e:H a=some (.ins C dx fs)) (cl:Cls K C) (ha:PySem.W.findIn K (.ref C) "__class__"=some (some (.builtin "object.__class__")))
    (hn:PySem.W.specialIn K (.builtin "object.__class__") "__get__"=some (some (.builtin "getset_descriptor.__get__"))) (htk:PySem.W.takesIn K (.builtin "object.__class__")=some true)
    (hm:PySem.W.mroIn K C (.type "object")=some true):h_z K H (.ref a) (.ref C)
theorem j_p {x:V} {u t:Value} (I:Inv X pins σ H s) (rx:RelV x u) (ty:h_z X.K H x t) (e:PySem.W.kitOne X.K t c=some b) (h:∀tk,Q (.bool b) { s with toks:=tk }):
 wpAny (model X.prog X.w) A (call (.builtin "isinstance") [u,c]) Q E s:=by
 cases ty with
 | non=>cases (show u=Value.none from rx);exact PySem.W.kia_one PySem.W.kitx_none I.kIn True.intro e (λz=>nomatch z) h
 | bl y=>cases (show u=Value.bool y from rx);exact PySem.W.kia_one PySem.W.kitx_bool I.kIn True.intro e (λz=>nomatch z) h
 | int i=>obtain⟨t,q⟩:=(show ∃t,u=Value.int i t from rx);cases q;exact PySem.W.kia_one PySem.W.kitx_int I.kIn True.intro e (λz=>nomatch z) h
 | str y=>obtain⟨t,q⟩:=(show ∃t,u=Value.str y t from rx);cases q;exact PySem.W.kia_one PySem.W.kitx_str I.kIn True.intro e (λz=>nomatch z) h
 | flt y=>obtain⟨t,q⟩:=(show ∃t,u=Value.float y t from rx);cases q;exact PySem.W.kia_one PySem.W.kitx_float I.kIn True.intro e (λz=>nomatch z) h
 | @lst a xs ea=>
   cases (show u=Value.ref a from rx)
   obtain⟨_,_,n,_,h1⟩:=(show ObjOk X.prog X.w H s.heap a (.lst xs) from I.hok a _ ea)
   exact PySem.W.kia_one PySem.W.kitx_list I.kIn ⟨_,h1,rfl⟩ e (λz=>nomatch z) h
 | @frz a ob xs ea=>
   cases (show u=Value.ref a from rx)
   obtain⟨_,_,_,n,_,h1⟩:=(show ObjOk X.prog X.w H s.heap a (.frz ob (.lst xs)) from I.hok a _ ea)
   exact PySem.W.kia_one PySem.W.kitx_list I.kIn ⟨_,h1,rfl⟩ e (λz=>nomatch z) h
 | @tup a xs ea=>
   cases (show u=Value.ref a from rx)
   obtain⟨_,_,_,p⟩:=(show ObjOk X.prog X.w H s.heap a (.tup xs) from I.hok a _ ea)
   obtain⟨o,h1,h2,_⟩:=p
   exact PySem.W.kia_one PySem.W.kitx_tuple I.kIn ⟨o,h1,h2⟩ e (λz=>nomatch z) h
 | @dK a kvs ea=>
   cases (show u=Value.ref a from rx)
   obtain⟨_,_,vs,_,p⟩:=(show ObjOk X.prog X.w H s.heap a (.dK kvs) from I.hok a _ ea)
   obtain⟨o,es,ep,h1,h2,_⟩:=p
   exact PySem.W.kia_one PySem.W.kitx_dict I.kIn ⟨o,h1,h2.1⟩ e (λz=>nomatch z) h
 | @dT a kvs ea=>
   cases (show u=Value.ref a from rx)
   obtain⟨_,_,xs,_,o,es,ep,h1,h2,_⟩:=(show ObjOk X.prog X.w H s.heap a (.dT kvs) from I.hok a _ ea)
   exact PySem.W.kia_one PySem.W.kitx_dict I.kIn ⟨o,h1,h2.1⟩ e (λz=>nomatch z) h
 | @ins a C dx fs ea cl ha hn htk hm=>
   cases (show u=Value.ref a from rx)
   obtain⟨mA,O,_⟩:=f_a I.hok ea
   obtain⟨od,J,_⟩:=O.look
   exact PySem.W.kia_one (PySem.W.kitx_own (cl.get _) cl.hd ha hn htk hm) I.kIn J e (λz=>nomatch z) h
end
structure Room (k:Nat) (A:Around):Prop where
 hd:A.handled=none
 dp:A.depth+3 * k+5 < recursionLimit
 un:A.units+16 * k+200 < cLine
theorem Room.mono {j k:Nat} {A:Around} (r:Room k A) (h:j<=k):Room j A:=⟨r.hd,by have:=r.dp;omega,by have:=r.un;omega⟩
theorem Room.deeper {k:Nat} {A:Around} (r:Room (k+1) A) (env:Env):Room k (A.deeper env):=
 ⟨r.hd,by have:=r.dp;show A.depth+1+3 * k+5 < _;omega,by have:=r.un;show A.units+3+16 * k+200 < _;omega⟩
theorem i_x {A:Around} {C:Addr} {us:List Value} {kw:List (Str×Value)}:(A.under (.builtin "type.__call__" ⟨.ref C::us,kw⟩)).depth=A.depth+1:=by
 first | rfl | simp[Around.under,Code.weight,Code.isCreation,Code.isGuard,Code.isCaller,Code.frames,Code.isFrame,guardIds]
theorem h_Z {A:Around} {C:Addr} {us:List Value} {kw:List (Str×Value)}:(A.under (.builtin "type.__call__" ⟨.ref C::us,kw⟩)).units=A.units+1:=by
 first | rfl | simp[Around.under,Code.cUnits,Code.frames,Code.isFrame]
theorem Room.make {k:Nat} {A:Around} (r:Room (k+1) A) (C:Addr) (us:List Value) (kw:List (Str×Value)):Room k (A.under (.builtin "type.__call__" ⟨.ref C::us,kw⟩)):=
 ⟨r.hd,by have:=r.dp;rw[i_x];omega,by have:=r.un;rw[h_Z];omega⟩
theorem Room.depth {k:Nat} {A:Around} (r:Room k A):A.depth < recursionLimit:=by have:=r.dp;omega
theorem Room.units {k:Nat} {A:Around} (r:Room k A):A.units+64 < cLine:=by have:=r.un;omega
theorem Room.units0 {k:Nat} {A:Around} (r:Room k A):A.units < cLine:=by have:=r.un;omega
def p_I:TA:=λ_ H Q=>Q [] H
def p_H (ta:TE) (tr:TA):TA:=λσ H Q=>ta σ H λx H1=>tr σ H1 λxs H2=>Q (x::xs) H2
section
variable {X:Cx} {e:Expr} {es:List Expr} {te:TE} {t:TA} {pos:Pos}
theorem a_d:PA X [] p_I:=λ_ _ _ _ H Q I h=>Calls.spliced_nil ⟨[],H,I,.nil,h⟩
theorem a_a (ha:PE X e te) (hr:PA X es t) (hs:starEach (e::es) X.env=(false,eval e X.env)::starEach es X.env:=by rfl):PA X (e::es) (p_H te t):=by
 intro pos pins s σ H Q I h
 rw[hs]
 show wpAny _ _ (spliced ((false,eval e X.env)::backTo pos (starEach es X.env))) _ _ s
 refine Calls.spliced_cons (thn (ha pins s σ H _ I h) λu s1 ⟨x,H1,I1,r1,q1⟩=> ?_)
 exact thn (hr pos pins s1 σ H1 _ I1 q1) λus s2 ⟨xs,H2,I2,r2,q2⟩=>⟨x::xs,H2,I2,.cons r1 r2,q2⟩
def q_S (t:TA):TE:=λσ H Q=>t σ H λxs H1=>xs.length<=sizeLine/\∀p,H1 p=none->Q (.ref p) (upd H1 p (.tup xs))
def q_2 (t:TA):TE:=λσ H Q=>t σ H λxs H1=>xs.length<=sizeLine/\∀p,H1 p=none->Q (.ref p) (upd H1 p (.lst xs))
theorem a_J {x1} (h:PA X es t):PE X (.Tuple es x1 pos) (q_S t):=by
 intro pins s σ H Q I hq
 refine wpAny_Tuple_spliced (thn (h pos pins s σ H _ I hq) λus s1 ⟨xs,H1,I1,r,z,q⟩=>⟨by rw[<-r.length];exact z,?_⟩)
 have hf:H1 s1.heap.objs.size=none:=I1.hok.fresh (r_l _)
 refine⟨.ref s1.heap.objs.size,upd H1 s1.heap.objs.size (.tup xs),I1.laid (t':=s1.toks) (λb u e=>Heap.get?_push_of_some _ e) (r_l _) ?_, rfl,q _ hf⟩
 exact⟨z,us,r,⟨_,Heap.get?_push_size _ rfl,rfl,_,rfl⟩⟩
theorem a_U (h:PA X es t):PE X (.List es pos) (q_2 t):=by
 intro pins s σ H Q I hq
 refine wpAny_List_spliced (thn (h pos pins s σ H _ I hq) λus s1 ⟨xs,H1,I1,r,z,q⟩=>⟨by rw[<-r.length];exact z,?_⟩)
 have hf:H1 s1.heap.objs.size=none:=I1.hok.fresh (r_l _)
 refine⟨.ref s1.heap.objs.size,upd H1 s1.heap.objs.size (.lst xs),I1.laid (t':=s1.toks) (λb u e=>Heap.get?_push_of_some _ e) (r_l _) ?_, rfl,q _ hf⟩
 exact⟨z,us,0,r,Heap.get?_push_size _ rfl⟩
end
abbrev Sp:=List V->Hp->VK->XK->Prop
abbrev CXT:=List Env->Hp->Shared->XK->Value->Shared->Prop
structure Env0 (P:Program) (w:World) (K:PySem.W.Frag) (mg:Str->Option Value) (base:Heap) (A:Around) (outer:List Env) (s:Shared) (H:Hp):Prop where
 frames:A.frames=some outer
 mod:Mod K mg base
 bs:∀b o,base.get? b=some o->s.heap.get? b=some o/\H b=none
 bsz:base.objs.size<=s.heap.objs.size
 funs:s.heap.FunFrames base outer
 frf:∀b∈frs outer,H b=none
 hok:HOk P w H s.heap
 bare:AllBare s.gens
def CE (outer:List Env) (P:Program) (w:World) (H:Hp) (s:Shared) (Q:VK) (u:Value) (s':Shared):Prop:=
 ∃v H',s'.os=s.os/\AllBare s'.gens/\Un (frs outer) [] H H' s.heap s'.heap/\HOk P w H' s'.heap/\RelV v u/\Q v H'
def CR (CX:CXT) (outer:List Env) (P:Program) (w:World) (H:Hp) (s:Shared) (Q:VK) (E:XK) (r:Result) (s':Shared):Prop:=
 match r with
 | .ok (.ret u)=>CE outer P w H s Q u s'
 | .ok _=>False
 | .error e=>CX outer H s E e s'
structure FnOk (P:Program) (w:World) (K:PySem.W.Frag) (mg:Str->Option Value) (base:Heap) (CX:CXT) (k:Nat) (f:Addr) (fd:FuncData) (ps:List Str) (sp:Sp):Prop where
 len:∀vs H Q E,sp vs H Q E->vs.length=ps.length
 run:∀(A:Around) (outer:List Env) (s:Shared) (H:Hp) (args:Args) (us:List Value) (vs:List V) (Q:VK) (E:XK),Room k A->Env0 P w K mg base A outer s H->BindsTo s fd args (ps.zip us)->Vals vs us->sp vs H Q E->
  codeAny (model P w) A (.call (.ref f) args) (CR CX outer P w H s Q E) s
theorem FnOk.imp {P:Program} {w:World} {K:PySem.W.Frag} {mg:Str->Option Value} {base:Heap} {CX:CXT} {k:Nat} {f:Addr} {fd:FuncData} {ps:List Str} {sp sp':Sp} (F:FnOk P w K mg base CX k f fd ps sp)
 (h:∀vs H Q E,sp' vs H Q E->sp vs H Q E):FnOk P w K mg base CX k f fd ps sp':=
 ⟨λvs H Q E q=>F.len vs H Q E (h _ _ _ _ q),λA outer s H args us vs Q E hr he hb hv hs=>F.run A outer s H args us vs Q E hr he hb hv (h _ _ _ _ hs)⟩
theorem Env0.make {P:Program} {w:World} {K:PySem.W.Frag} {mg:Str->Option Value} {base:Heap} {A:Around} {outer:List Env} {s:Shared} {H:Hp} (e:Env0 P w K mg base A outer s H) (C:Addr) (us:List Value) (kw:List (Str×Value)):
 Env0 P w K mg base (A.under (.builtin "type.__call__" ⟨.ref C::us,kw⟩)) outer s H:=⟨by first | exact e.frames | (simpa[Around.under,Code.envs,Code.isFrame,pushEnvs] using e.frames),e.mod,e.bs,e.bsz,e.funs,e.frf,e.hok,e.bare⟩
section
variable {X:Cx} {pins:List (Addr×Obj)} {σ:St} {H:Hp} {s s':Shared}
theorem Inv.env0 (I:Inv X pins σ H s):Env0 X.prog X.w X.K X.mg X.base X.A X.stack s H:=
 ⟨I.ok.frames,I.ok.mod,I.bs,r_x I.ok.bsz I.sz,I.stack,I.stkFree,I.hok,I.bare⟩
theorem Inv.after {Q:VK} {u:Value} (I:Inv X pins σ H s) (h:CE X.stack X.prog X.w H s Q u s'):EP X pins σ Q u s':=by
 obtain⟨v,H',os,bare,un,hok,r,q⟩:=h
 obtain⟨hh,g,d,t,os'⟩:=s'
 obtain rfl:os'=s.os:=os
 exact⟨v,H',I.call (h':=hh) (g':=g) (d':=d) (t':=t) (ch:= []) un hok bare (λb z=>absurd z (by simp)),r,q⟩
end
def o_a (sp:Sp) (dvs:List V) (E:XK) (t:TA):TE:=λσ H Q=>t σ H λvs H1=>sp (vs++dvs) H1 Q E
def o_3 (C:Addr) (m:Str) (sp:Sp) (dvs:List V) (E:XK) (ta:TE) (t:TA):TE:=λσ H Q=>ta σ H λx H1=>∃a dx fs,x= .ref a/\H1 a=some (.ins C dx fs)/\fs.lookup m=none/\
 t σ H1 λvs H2=>sp (x::(vs++dvs)) H2 Q E
def p_l (C:Addr) (sp:Sp) (dvs:List V) (E:XK) (t:TA):TE:=λσ H Q=>t σ H λvs H1=>∀x dx,H1 x=none->H1 dx=none->dx≠x->
 sp (.ref x::(vs++dvs)) (upd (upd H1 dx (.own x)) x (.ins C dx [])) (λv H2=>v= .non/\Q (.ref x) H2) E
def Binds (K:PySem.W.Frag) (fd:FuncData) (ps:List Str) (ds:List Value):Prop:=
 ∀(s:Shared) (us:List Value),K.In s.heap->(us++ds).length=ps.length->BindsTo s fd ⟨us, []⟩ (ps.zip (us++ds))
theorem Binds.all {K:PySem.W.Frag} {fd:FuncData} {ps:List Str} (h:∀us:List Value,us.length=ps.length->bindArgs fd ⟨us, []⟩=pure (ps.zip us)):Binds K fd ps []:=λs us _ hl=>by
 rw[r_J] at hl ⊢
 exact .of_eq (h us hl)
def c_m (CX:CXT) (X:Cx) (E:XK):Prop:=∀(pins:List (Addr×Obj)) (σ:St) (H:Hp) (s:Shared) (e:Value) (s':Shared),Inv X pins σ H s->CX X.stack H s E e s'->X.xe e s'
section
variable {X:Cx} {CX:CXT} {k:Nat} {f C:Addr} {fd:FuncData} {ps:List Str} {sp:Sp} {dvs:List V} {ds:List Value} {E:XK} {x m:Str} {p pos apos:Pos} {e o:Expr} {es:List Expr} {ta:TE} {t:TA}
theorem f_3 {pins:List (Addr×Obj)} {σ:St} {H:Hp} {s:Shared} {Q:VK} {us:List Value} {vs:List V} (F:FnOk X.prog X.w X.K X.mg X.base CX k f fd ps sp) (hr:Room k X.A) (hb:Binds X.K fd ps ds) (hd:Vals dvs ds) (hx:c_m CX X E)
 (I:Inv X pins σ H s) (r:Vals vs us) (h:sp (vs++dvs) H Q E):wpAny (model X.prog X.w) X.A (call (.ref f) us) (EP X pins σ Q) X.xe s:=by
 have r2:Vals (vs++dvs) (us++ds):=r.append hd
 have hl:(us++ds).length=ps.length:=by rw[<-r2.length];exact F.len _ _ _ _ h
 refine wpAny_call (codeAny_mono (F.run X.A X.stack s H ⟨us, []⟩ (us++ds) (vs++dvs) Q E hr I.env0 (hb s us I.kIn hl) r2 h) λr s' hq=> ?_)
 cases r with
 | error e=>exact hx pins σ H s e s' I hq
 | ok fl=>
   cases fl with
   | ret u=>exact I.after hq
   | next=>exact False.elim hq
   | brk=>exact False.elim hq
   | cont=>exact False.elim hq
theorem a_j (F:FnOk X.prog X.w X.K X.mg X.base CX k f fd ps sp) (hr:Room k X.A) (hg:Gl X x) (hm:X.mg x=some (.ref f)) (hk:PySem.W.keepIn X.K (.ref f)=true) (hb:Binds X.K fd ps ds) (hd:Vals dvs ds) (hx:c_m CX X E)
 (ha:PA X (e::es) t) (hdb:(x == ("__debug__":Str))=false:=by decide) (he:starEach (e::es) X.env=(false,eval e X.env)::starEach es X.env:=by rfl) (hpl:(backTo pos (starEach es X.env)).any (·.1)=false:=by rfl):
 PE X (.Call (.Name x p) (e::es) [] pos) (o_a sp dvs E t):=by
 intro pins s σ H Q I h
 refine wpAny_Call_Name_kw (c_P I hg hm ?_ hdb)
 refine PySem.W.callWith_K (h₀:=X.base) I.ok.mod.kin hk (thn (ha pos pins s σ H _ I h) λus s1 ⟨vs,H1,I1,r,q⟩=>⟨I1.kIn,?_⟩) he hpl
 exact f_3 F hr hb hd hx I1 r q
theorem d_F (F:FnOk X.prog X.w X.K X.mg X.base CX k f fd ps sp) (hr:Room k X.A) (hg:Gl X x) (hm:X.mg x=some (.ref f)) (hk:PySem.W.keepIn X.K (.ref f)=true) (hb:Binds X.K fd ps ds) (hd:Vals dvs ds) (hx:c_m CX X E)
 (hdb:(x == ("__debug__":Str))=false:=by decide):PE X (.Call (.Name x p) [] [] pos) (o_a sp dvs E p_I):=by
 intro pins s σ H Q I h
 refine wpAny_Call_Name_kw (c_P I hg hm ?_ hdb)
 exact PySem.W.callWith_K0 I.kIn hk (f_3 (us:= []) F hr hb hd hx I .nil h)
theorem a_N {pl:Sem Bool} (he:PE X o ta) (c:Cls X.K C) (hm:o_B X.K C m f) (F:FnOk X.prog X.w X.K X.mg X.base CX k f fd ps sp) (hr:Room k X.A) (hb:Binds X.K fd ps ds) (hd:Vals dvs ds) (hx:c_m CX X E) (ha:PA X (e::es) t)
 (hst:starEach (e::es) X.env=(false,eval e X.env)::starEach es X.env:=by rfl) (hpl:(backTo pos (starEach es X.env)).any (·.1)=false:=by rfl)
 (ht:eval (.Call (.Attribute o m apos) (e::es) [] pos) X.env=(do
   let ov<-eval o X.env
   standAt apos.atName
   let (f,first)<-holding [ov] (getMethod ov m pl)
   callWith pos f first (backTo pos (starEach (e::es) X.env)) (backToKw pos (keywordEach [] X.env))):=by rfl):
 PE X (.Call (.Attribute o m apos) (e::es) [] pos) (o_3 C m sp dvs E ta t):=by
 intro pins s σ H Q I h
 refine PySem.W.methodCall_KW (pl:=pl) (thn (he pins s σ H _ I h) λu s1 ⟨x,H1,I1,rx,a,dx,fs,ex,ea,l,q⟩=> ?_) ht
 subst ex
 obtain rfl:u=Value.ref a:=rx
 refine d_r I1 ea c hm l ?_
 refine PySem.W.callWith_K (first:= [.ref a]) (h₀:=X.base) I.ok.mod.kin hm.kp (thn (ha pos pins s1 σ H1 _ I1 q) λus s2 ⟨vs,H2,I2,r,q2⟩=>⟨I2.kIn,?_⟩) hst hpl
 exact f_3 (us:= .ref a::us) (vs:= .ref a::vs) F hr hb hd hx I2 (.cons rfl r) q2
theorem b_w {pl:Sem Bool} (he:PE X o ta) (c:Cls X.K C) (hm:o_B X.K C m f) (F:FnOk X.prog X.w X.K X.mg X.base CX k f fd ps sp) (hr:Room k X.A) (hb:Binds X.K fd ps ds) (hd:Vals dvs ds) (hx:c_m CX X E)
 (ht:eval (.Call (.Attribute o m apos) [] [] pos) X.env=(do
   let ov<-eval o X.env
   standAt apos.atName
   let (f,first)<-holding [ov] (getMethod ov m pl)
   callWith pos f first (backTo pos (starEach [] X.env)) (backToKw pos (keywordEach [] X.env))):=by rfl):
 PE X (.Call (.Attribute o m apos) [] [] pos) (o_3 C m sp dvs E ta p_I):=by
 intro pins s σ H Q I h
 refine PySem.W.methodCall_KW (pl:=pl) (thn (he pins s σ H _ I h) λu s1 ⟨x,H1,I1,rx,a,dx,fs,ex,ea,l,q⟩=> ?_) ht
 subst ex
 obtain rfl:u=Value.ref a:=rx
 refine d_r I1 ea c hm l ?_
 exact PySem.W.callWith_K0 (first:= [.ref a]) I1.kIn hm.kp (f_3 (us:= [.ref a]) (vs:= [.ref a]) F hr hb hd hx I1 (.cons rfl .nil) q)
structure Mk (K:PySem.W.Frag) (C f:Addr):Prop where
 makes:PySem.W.makesIn K C=true
 init:PySem.W.findIn K (.ref C) "__init__"=some (some (.ref f))
 fn:PySem.W.isFn K (.ref f)=true
 kp:PySem.W.keepIn K (.ref C)=true
theorem l_C {pins:List (Addr×Obj)} {σ:St} {H:Hp} {s:Shared} {Q:VK} {us:List Value} {vs:List V} (M:Mk X.K C f) (F:FnOk X.prog X.w X.K X.mg X.base CX k f fd ps sp) (hr:Room (k+1) X.A) (hb:Binds X.K fd ps ds) (hd:Vals dvs ds)
 (hx:c_m CX X E) (I:Inv X pins σ H s) (r:Vals vs us)
 (h:∀x dx,H x=none->H dx=none->dx≠x->sp (.ref x::(vs++dvs)) (upd (upd H dx (.own x)) x (.ins C dx [])) (λv H2=>v= .non/\Q (.ref x) H2) E):
 wpAny (model X.prog X.w) X.A (call (.ref C) us) (EP X pins σ Q) X.xe s:=by
 have hq:=h (s.heap.objs.size+1) s.heap.objs.size (I.hok.fresh (Nat.le_succ _)) (I.hok.fresh (r_l _)) (r_A (Nat.lt_succ_self _))
 have I2:=Inv.made (C:=C) I
 have r2:Vals (V.ref (s.heap.objs.size+1)::(vs++dvs)) (Value.ref (s.heap.objs.size+1)::(us++ds)):= .cons rfl (r.append hd)
 have hl:(Value.ref (s.heap.objs.size+1)::us++ds).length=ps.length:=by
  have e:=r2.length
  rw[F.len _ _ _ _ hq] at e
  exact e.symm
 refine wpAny_call (l_D (f:=f) I.kIn M.makes M.init (beq_iff_eq.mp M.fn) (codeAny_mono (F.run _ X.stack _ _ ⟨Value.ref (s.heap.objs.size+1)::us, []⟩ (Value.ref (s.heap.objs.size+1)::(us++ds)) _ _ E (hr.make C us [])
  (I2.env0.make C us []) (hb _ (Value.ref (s.heap.objs.size+1)::us) I2.kIn hl) r2 hq) λr s' hq'=> ?_))
 cases r with
 | error e=>exact hx pins σ _ _ e s' I2 hq'
 | ok fl=>
   cases fl with
   | ret u=>
     obtain⟨v,H',I3,rv,ev,q3⟩:=I2.after hq'
     subst ev
     exact⟨rv,⟨V.ref (s.heap.objs.size+1),H',I3,rfl,q3⟩⟩
   | next=>exact False.elim hq'
   | brk=>exact False.elim hq'
   | cont=>exact False.elim hq'
theorem e_7 (M:Mk X.K C f) (F:FnOk X.prog X.w X.K X.mg X.base CX k f fd ps sp) (hr:Room (k+1) X.A) (hg:Gl X x) (hm:X.mg x=some (.ref C)) (hb:Binds X.K fd ps ds) (hd:Vals dvs ds) (hx:c_m CX X E)
 (ha:PA X (e::es) t) (hdb:(x == ("__debug__":Str))=false:=by decide) (he:starEach (e::es) X.env=(false,eval e X.env)::starEach es X.env:=by rfl) (hpl:(backTo pos (starEach es X.env)).any (·.1)=false:=by rfl):
 PE X (.Call (.Name x p) (e::es) [] pos) (p_l C sp dvs E t):=by
 intro pins s σ H Q I h
 refine wpAny_Call_Name_kw (c_P I hg hm ?_ hdb)
 refine PySem.W.callWith_K (h₀:=X.base) I.ok.mod.kin M.kp (thn (ha pos pins s σ H _ I h) λus s1 ⟨vs,H1,I1,r,q⟩=>⟨I1.kIn,?_⟩) he hpl
 exact l_C M F hr hb hd hx I1 r q
end
section
variable {X:Cx} {CX:CXT} {k:Nat} {f C:Addr} {fd:FuncData} {ps ks:List Str} {sp:Sp} {E:XK} {x m:Str} {p pos apos kpos:Pos} {e o:Expr} {es:List Expr} {kws:List Keyword} {te ta:TE} {t tk:TA} {nm:Option Str}
variable {g:List Value->List Value->List Value} {gV:List V->List V->List V}
end
structure a_s (N P:List Str) (sc:Scope):Prop where
 kind:sc.kind= .function
 co:sc.isCoroutine=false
 gen:sc.isGenerator=false
 nd:N.Nodup
 pre:N.take P.length=P
 par:∀x∈P,sc.names.lookup x=some .local\/sc.names.lookup x=some .cell
 nofree:∀y∈sc.names,y.2≠ .free
theorem g_n {kindOf:Str->Option NameKind} {x:Str}:∀{binds:List (Str×Value)} {m:Str->Option Value},(∀v,(x,v)∉binds)->bindL kindOf binds m x=m x
 | [],_,_=>rfl
 | (n,v)::r,m,h=>by
   unfold bindL
   rw[g_n λw hw=>h w (r_f _ hw)]
   split
   ·have:x≠n:=by rintro rfl;exact h v r_g
    simp[this]
   ·rfl
theorem g_c {kindOf:Str->Option NameKind} {x:Str}:∀{binds:List (Str×Value)} {m:Str->Option Value},(∀v,(x,v)∉binds)->bindC kindOf binds m x=m x
 | [],_,_=>rfl
 | (n,v)::r,m,h=>by
   unfold bindC
   rw[g_c λw hw=>h w (r_f _ hw)]
   split
   ·rfl
   ·have:x≠n:=by rintro rfl;exact h v r_g
    simp[this]
theorem f_L {kindOf:Str->Option NameKind} {x:Str} {v:Value}:∀{P:List Str} {vs:List Value} {i:Nat} {m:Str->Option Value},P.Nodup->P[i]? =some x->vs[i]? =some v->kindOf x=some .local->
 bindL kindOf (P.zip vs) m x=some v
 | [],_,_,_,_,h,_,_=>by simp at h
 | _::_, [],_,_,_,_,h,_=>by simp at h
 | p::P,w::vs,0,m,nd,h1,h2,hk=>by
   simp at h1 h2;subst h1;subst h2
   show bindL kindOf ((p,w)::P.zip vs) m p=_
   unfold bindL
   rw[g_n λv hv=>(r_G.mp nd).1 (List.of_mem_zip hv).1,if_pos hk]
   simp
 | p::P,w::vs,i+1,m,nd,h1,h2,hk=>by
   show bindL kindOf ((p,w)::P.zip vs) m x=_
   unfold bindL
   exact f_L (i:=i) (r_G.mp nd).2 (by simpa using h1) (by simpa using h2) hk
theorem f_Z {kindOf:Str->Option NameKind} {x:Str} {v:Value}:∀{P:List Str} {vs:List Value} {i:Nat} {m:Str->Option Value},P.Nodup->P[i]? =some x->vs[i]? =some v->kindOf x≠some .local->
 bindC kindOf (P.zip vs) m x=some v
 | [],_,_,_,_,h,_,_=>by simp at h
 | _::_, [],_,_,_,_,h,_=>by simp at h
 | p::P,w::vs,0,m,nd,h1,h2,hk=>by
   simp at h1 h2;subst h1;subst h2
   show bindC kindOf ((p,w)::P.zip vs) m p=_
   unfold bindC
   rw[g_c λv hv=>(r_G.mp nd).1 (List.of_mem_zip hv).1,if_neg hk]
   simp
 | p::P,w::vs,i+1,m,nd,h1,h2,hk=>by
   show bindC kindOf ((p,w)::P.zip vs) m x=_
   unfold bindC
   exact f_Z (i:=i) (r_G.mp nd).2 (by simpa using h1) (by simpa using h2) hk
def start (N:List Str) (vs:List V):St:=vs.map some++List.replicate (N.length - vs.length) none
def i_z (CX:CXT) (P:Program) (w:World) (K:PySem.W.Frag) (mg:Str->Option Value) (base:Heap) (N:List Str) (qual:Str) (scope:Scope) (f:Addr) (cd:Value) (A:Around) (outer:List Env) (s:Shared) (H:Hp) (E:XK):Cx where
 prog:=P
 w:=w
 K:=K
 mg:=mg
 base:=base
 A:=A.deeper (envOfC qual scope s.heap.objs.size f cd)
 N:=N
 s₀:=s
 H₀:=H
 env:=envOfC qual scope s.heap.objs.size f cd
 outer:=outer
 stack:=envOfC qual scope s.heap.objs.size f cd::outer
 ex:= []
 calm:=true
 fn:=λ_=>true
 pn:= []
 xe:=λe s'=>wpAny (model P w) (A.deeper (envOfC qual scope s.heap.objs.size f cd)) (leaving (envOfC qual scope s.heap.objs.size f cd) e) (λ_ s''=>CX outer H s E e s'') (λe' s''=>CX outer H s E e' s'') s'
theorem h_o {sc:Scope} {n:Nat} {x:Str} (h:sc.names.lookup x=some .cell):∃c,(cellsFrom n sc.names []).lookup x=some c:=by
 have q:=PySem.W.cellsFrom_some sc.names n [] (.inl h)
 exact Option.isSome_iff_exists.mp q
theorem j_j {CX:CXT} {P:Program} {w:World} {K:PySem.W.Frag} {mg:Str->Option Value} {base:Heap} {N ps:List Str} {qual:Str} {scope:Scope} {f:Addr} {cd:Value} {A:Around} {outer:List Env} {s s1:Shared} {H:Hp} {E:XK} {us:List Value} {vs:List V}
 (S:a_s N ps scope) (hd:A.handled=none) (e0:Env0 P w K mg base A outer s H) (hl:vs.length=ps.length) (r:Vals vs us)
 (x:InCallC s s.heap.objs.size (bindL (envOfC qual scope s.heap.objs.size f cd).kindOf (ps.zip us) λ_=>none) (cellsFrom (s.heap.objs.size+1) scope.names []) (bindC (envOfC qual scope s.heap.objs.size f cd).kindOf (ps.zip us) λ_=>none) s1):
 Inv (i_z CX P w K mg base N qual scope f cd A outer s H E) [] (start N vs) H s1:=by
 have hpl:ps.length<=N.length:=by have:=congrArg List.length S.pre;rw[r_y] at this;omega
 obtain⟨h1,tk,rfl,hk⟩:=x.done
 have noA:∀b:Addr,b∉(i_z CX P w K mg base N qual scope f cd A outer s H E).ex:=λb z=>absurd (show b∈([]:List Addr) from z) (by simp)
 refine⟨⟨e0.mod,S.kind,rfl,rfl,r_l _,λy z c h1 h2=> ?_, λy hy=> ?_, λy c _ h=> ?_, λ_=>hd,Around.frames_deeper e0.frames,.inr ⟨rfl,rfl⟩,λb z=>absurd z (noA b),e0.bs,e0.bsz,λb _ _=>noA b,λb z=>absurd z (noA b),e0.funs,e0.frf⟩,
  rfl,e0.bare,Un.kept hk,⟨_,x.toInCall.ns,λi y v h1 h2 h3=> ?_⟩,λy c h=>⟨_,x.cell y c h⟩,e0.hok.fresh (r_l _),λy c h=> ?_, λp hp=>absurd (show p∈([]:List (Addr×Obj)) from hp) (by simp),e0.hok.kept hk,?_⟩
 ·exact name_of_addr x.apart (PySem.mem_of_lookup h1) (PySem.mem_of_lookup h2)
 ·have hy:scope.names.lookup y=some .cell\/scope.names.lookup y=some .free:=hy
  rcases hy with hy | hy
  ·exact h_o hy
  ·exact absurd rfl (S.nofree _ (PySem.mem_of_lookup hy))
 ·exact Nat.le_of_lt (x.above y c (PySem.mem_of_lookup h))
 ·have hi:i < vs.length:=by
   unfold start at h2
   by_cases hi:i < vs.length
   ·exact hi
   ·rw[List.getElem?_append_right (by simpa using hi)] at h2
    rw[List.getElem?_replicate] at h2
    split at h2 <;> cases h2
  have ha:vs[i]? =some v:=by
   unfold start at h2
   rw[List.getElem?_append_left (by simpa using hi),r_o] at h2
   cases e:vs[i]? with
   | none=>rw[e] at h2;cases h2
   | some a=>rw[e] at h2;cases h2;rfl
  obtain⟨u,hu,rv⟩:=r.get ha
  have hp:ps[i]? =some y:=by
   rw[<-S.pre,List.getElem?_take_of_lt (by omega)];exact h1
  have ndP:ps.Nodup:=by rw[<-S.pre];exact S.nd.sublist (List.take_sublist _ _)
  refine⟨u,rv,?_⟩
  rcases S.par y (r_C hp) with k | k
  ·exact .inl ⟨k,f_L ndP hp hu k⟩
  ·obtain⟨c,e⟩:=h_o (n:=s.heap.objs.size+1) k
   refine .inr ⟨.inl k,c,e,?_⟩
   have q:=x.cell y c e
   rw[f_Z ndP hp hu (by show scope.names.lookup y≠_;rw[k];decide)] at q
   exact q
 ·exact e0.hok.fresh (Nat.le_of_lt (x.above y c (PySem.mem_of_lookup h)))
 ·unfold start
  show _=N.length
  rw[r_e,r_c,List.length_replicate]
  omega
theorem o_X {CX:CXT} {P:Program} {w:World} {K:PySem.W.Frag} {mg:Str->Option Value} {base:Heap} {k:Nat} {f:Addr} {name qual:Str} {params:Arguments} {body:List Stmt} {scope:Scope} {dV kV doc pm cdv ct oc:Value} {an od:Option Addr}
 {osl:Array (Option Value)} {N ps:List Str} {sp:Sp} (lk:K.lookup f=some ⟨oc,od,.func (PySem.W.fnOf name qual params body scope dV kV doc pm an cdv ct),osl⟩) (hcd:PySem.W.codeIn K cdv qual=true) (S:a_s N ps scope)
 (len:∀vs H Q E,sp vs H Q E->vs.length=ps.length)
 (hbody:∀(A:Around) (outer:List Env) (s:Shared) (H:Hp) (vs:List V) (Q:VK) (E:XK),Room k (A.deeper (envOfC qual scope s.heap.objs.size f cdv))→sp vs H Q E→
   ∃t,PSs (i_z CX P w K mg base N qual scope f cdv A outer s H E) body t/\t { nx:=λ_ H'=>Q .non H',rt:=Q } (start N vs) H):
 FnOk P w K mg base CX (k+1) f (PySem.W.fnOf name qual params body scope dV kV doc pm an cdv ct) ps sp:=by
 refine⟨len,λA outer s H args us vs Q E hr e0 hb r hsp=> ?_⟩
 have hl:=len _ _ _ _ hsp
 have KX:K.In s.heap:=e0.mod.kin.keeps λb o e=>(e0.bs b o e).1
 have lim:s.heap.NoLimit:=e0.mod.nolimit.keeps λb o e=>(e0.bs b o e).1
 have hkind:∀y∈ps.zip us,scope.names.lookup y.1=some .local\/(scope.names.lookup y.1=some .cell/\((cellsFrom (s.heap.objs.size+1) scope.names []).lookup y.1).isSome=true):=λ⟨n,v⟩ hy=>by
  rcases S.par n (List.of_mem_zip hy).1 with q | q
  ·exact .inl q
  ·exact .inr ⟨q,PySem.W.cellsFrom_some _ _ _ (.inl q)⟩
 refine codeAny_call_function hr.depth (KX _ _ lk) rfl S.co S.gen rfl (PySem.W.codeRec_of KX hcd) (hb _ _ _ _ ?_)
 refine wpAny_newFunctionEnv_cells S.kind hkind λenv he s1 x=> ?_
 subst he
 refine⟨lim.keeps x.toInCall.keep,codeAny_func ?_⟩
 obtain⟨t,ht,hq⟩:=hbody A outer s H vs Q E (hr.deeper _) hsp
 have I:Inv (i_z CX P w K mg base N qual scope f cdv A outer s H E) [] (start N vs) H s1:=j_j S hr.hd e0 hl r x
 refine wpAny_mono (ht [] s1 (start N vs) H _ I hq) (λfl s' hs=> ?_) λe s' hs=>hs
 have fin:∀{σ':St} {H':Hp} {v:V} {u:Value},Inv (i_z CX P w K mg base N qual scope f cdv A outer s H E) [] σ' H' s'->RelV v u->Q v H'->CE outer P w H s Q u s':=
  λ{σ' H' v u} J rv q=>⟨v,H',J.os,J.bare,J.base,J.hok,rv,q⟩
 cases fl with
 | ret u=>
   obtain⟨v,σ',H',J,rv,q⟩:=hs
   exact fin J rv q
 | next=>
   obtain⟨σ',H',J,q⟩:=hs
   exact fin (v:=V.non) (u:=Value.none) J rfl q
 | brk=>
   obtain⟨_,_,_,q⟩:=hs
   exact False.elim q
 | cont=>
   obtain⟨_,_,_,q⟩:=hs
   exact False.elim q
section
variable {X:Cx} {x:Str} {p pos:Pos} {e:Expr} {es:List Expr} {t:TA} {id T:String} {r:List V->Hp->VK->Prop}
def tCB (r:List V->Hp->VK->Prop) (t:TA):TE:=λσ H Q=>t σ H λvs H1=>r vs H1 Q
theorem a_y (hc:d_a X (.builtin id) r) (hg:Gl X x) (hm:X.mg x=none) (hv:bootBuiltins x=some (.builtin id)) (ha:PA X (e::es) t) (hn:x≠"__name__":=by decide) (hdb:(x == ("__debug__":Str))=false:=by decide)
 (he:starEach (e::es) X.env=(false,eval e X.env)::starEach es X.env:=by rfl) (hpl:(backTo pos (starEach es X.env)).any (·.1)=false:=by rfl):PE X (.Call (.Name x p) (e::es) [] pos) (tCB r t):=by
 intro pins s σ H Q I h
 refine wpAny_Call_Name_kw (f_6 I hg hm hv ?_ hn hdb)
 exact PyProof.Rows.callWith_builtin1 (thn (ha pos pins s σ H _ I h) λus s1 ⟨vs,H1,I1,r1,q1⟩=>hc pins s1 σ H1 vs us Q I1 r1 q1) he hpl
theorem a_9 (hc:d_a X (.type T) r) (hg:Gl X x) (hm:X.mg x=none) (hv:bootBuiltins x=some (.type T)) (ha:PA X (e::es) t) (hn:x≠"__name__":=by decide) (hdb:(x == ("__debug__":Str))=false:=by decide)
 (he:starEach (e::es) X.env=(false,eval e X.env)::starEach es X.env:=by rfl) (hpl:(backTo pos (starEach es X.env)).any (·.1)=false:=by rfl):PE X (.Call (.Name x p) (e::es) [] pos) (tCB r t):=by
 intro pins s σ H Q I h
 refine wpAny_Call_Name_kw (f_6 I hg hm hv ?_ hn hdb)
 exact PyProof.Rows.callWith_type1 (thn (ha pos pins s σ H _ I h) λus s1 ⟨vs,H1,I1,r1,q1⟩=>hc pins s1 σ H1 vs us Q I1 r1 q1) he hpl
end
end L2
namespace HT
open PySem PyProof.Rows
section
open PySem.SeqAt
open PySem.AutoSeq1 (wpAny_loadPart')
open PySem.MeetsSeq PySem.MeetsSeq2 PySem.MeetsSeq3
end
section
variable {prog:Program} {w:World} {A:Around} {E:Value->Shared->Prop} {s:Shared}
def sIx (n d:Nat):Option Int->Nat
 | none=>d
 | some v=>if v < 0 then (v+(n:Int)).toNat else min v.toNat n
theorem sIx_none (n d:Nat):sIx n d none=d:=rfl
theorem sIx_nat (n d k:Nat):sIx n d (some (k:Int))=min k n:=by
 show (if (k:Int) < 0 then ((k:Int)+(n:Int)).toNat else min (k:Int).toNat n)=min k n
 rw[if_neg (by omega),Int.toNat_natCast]
end
end HT
namespace L2
open PySem PySem.Spec PyProof.Rows
abbrev TO:=St->Hp->(Option Int->Hp->Prop)->Prop
def PO (X:Cx) (e:Option Expr) (t:TO):Prop:=
 ∀(pins:List (Addr×Obj)) (s:Shared) (σ:St) (H:Hp) (Q:Option Int->Hp->Prop),Inv X pins σ H s->t σ H Q->
  wpAny (model X.prog X.w) X.A (evalPart e X.env) (λu s'=>∃o H',Inv X pins σ H' s'/\IsPart u o/\Q o H') X.xe s
def m_J:TO:=λ_ H Q=>Q none H
def p_v (t:TE):TO:=λσ H Q=>t σ H λx H1=>∃i,x= .int i/\Q (some i) H1
theorem h_8 {ns:List Int}:∀{us:List Value},Vals (ns.map V.int) us->IntsAre us ns:=by
 induction ns with
 | nil=>intro us r;rw[List.map_nil] at r;cases r;exact .nil
 | cons n ns ih=>
   intro us r
   rw[r_r] at r
   cases r with
   | cons r1 r2=>
     obtain⟨t,e⟩:=r1
     subst e
     exact .cons n t (ih r2)
section
variable {X:Cx} {e:Expr} {te:TE} {lo hi:Option Expr} {tl th:TO} {pos p2:Pos}
theorem d_w:PO X none m_J:=by
 intro pins s σ H Q I h
 rw[evalPart_none]
 exact wpAny_pure ⟨none,H,I,.none,h⟩
theorem c_v (h:PE X e te):PO X (some e) (p_v te):=by
 intro pins s σ H Q I hw
 rw[evalPart_some]
 refine thn (h pins s σ H _ I hw) λu s1 ⟨x,H1,I1,r1,q1⟩=> ?_
 obtain⟨i,rfl,q⟩:=q1
 obtain⟨t,rfl⟩:=r1
 exact⟨some i,H1,I1,.int i t,q⟩
def SlR (X:Cx) (r:V->Option Int->Option Int->Hp->VK->Prop):Prop:=
 ∀(pins:List (Addr×Obj)) (s:Shared) (σ:St) (H:Hp) (x:V) (v vl vu:Value) (lo hi:Option Int) (sl:Addr) (Q:VK),Inv X pins σ H s->RelV x v->s.heap.IsSliceOf sl vl vu .none->IsPart vl lo->IsPart vu hi->r x lo hi H Q->
  ∃T id,typeLookup (.type T) "__getitem__"=pure (some (.builtin id))/\s.TypeIs v T/\wpAny (model X.prog X.w) X.A (getItem v (.ref sl)) (EP X pins σ Q) X.xe s
def tSl (r:V->Option Int->Option Int->Hp->VK->Prop) (te:TE) (tl th:TO):TE:=λσ H Q=>te σ H λx H1=>tl σ H1 λl H2=>th σ H2 λu H3=>r x l u H3 Q
theorem b_8 {r:V->Option Int->Option Int->Hp->VK->Prop} (hr:SlR X r) (he:PE X e te) (hl:PO X lo tl) (hu:PO X hi th):PE X (.Subscript e (.Slice lo hi none p2) pos) (tSl r te tl th):=by
 intro pins s σ H Q I h
 refine Subscript_ (thn (he pins s σ H _ I h) λv s1 ⟨x,H1,I1,r1,q1⟩=> ?_)
 refine wpAny_Slice (thn (hl pins s1 σ H1 _ I1 q1) λvl s2 ⟨l,H2,I2,pl,q2⟩=>thn (hu pins s2 σ H2 _ I2 q2) λvu s3 ⟨u,H3,I3,pu,q3⟩=> ?_)
 rw[evalPart_none]
 refine wpAny_pure ?_
 have I4:Inv X pins σ H3 { s3 with heap:=s3.heap.push { cls:= .type "slice",data:= .fields #[vl,vu,.none] } }:=I3.kept (t':=s3.toks) λb ob q=>Heap.get?_push_of_some _ q
 obtain⟨T,id,hT,ht,hg⟩:=hr pins { s3 with heap:=s3.heap.push { cls:= .type "slice",data:= .fields #[vl,vu,.none] } } σ H3 x v vl vu l u s3.heap.objs.size Q I4 r1 (Heap.IsSliceOf.new ..) pl pu q3
 show wpAny (model X.prog X.w) X.A (subscriptTail e (.Slice lo hi none p2) v (.ref s3.heap.objs.size)) (EP X pins σ Q) X.xe { s3 with heap:=s3.heap.push { cls:= .type "slice",data:= .fields #[vl,vu,.none] } }
 exact tail_any (ops:= [.ref s3.heap.objs.size,v]) ht hT hg (by with_unfolding_all rfl)
def h_7 (xs:List V) (lo hi:Option Int):List V:=(xs.drop (HT.sIx xs.length 0 lo)).take (HT.sIx xs.length xs.length hi - HT.sIx xs.length 0 lo)
theorem h_f (xs:List V) (lo hi:Option Int):(h_7 xs lo hi).length<=xs.length:=by
 unfold h_7
 rw[r_y,List.length_drop]
 omega
end
def ixN (n:Nat) (i:Int):Option Nat:=if 0<=i then (if i < n then some i.toNat else none) else if -(n:Int)<=i then some (i+n).toNat else none
def atI {α:Type} (xs:List α) (i:Int):Option α:=(ixN xs.length i).bind λj=>xs[j]?
theorem j_5 {n:Nat} {i:Int} {j:Nat} (h:ixN n i=some j):seqIndex? i n=some j/\j < n/\-(n:Int)<=i/\i < n:=by
 unfold ixN at h
 by_cases h0:0<=i
 ·rw[if_pos h0] at h
  by_cases h1:i < n
  ·rw[if_pos h1] at h
   have e:i.toNat=j:=r_j h
   exact⟨by rw[seqIndex_of h0 h1,e],by omega,by omega,h1⟩
  ·rw[if_neg h1] at h;cases h
 ·rw[if_neg h0] at h
  by_cases h1: -(n:Int)<=i
  ·rw[if_pos h1] at h
   have e:(i+n).toNat=j:=r_j h
   exact⟨by rw[seqIndex_neg (by omega) h1,e],by omega,h1,by omega⟩
  ·rw[if_neg h1] at h;cases h
theorem g_P {α:Type} {xs:List α} {i:Int} {v:α} (h:atI xs i=some v):∃j,seqIndex? i xs.length=some j/\xs[j]? =some v/\j < xs.length/\-(xs.length:Int)<=i/\i < xs.length:=by
 unfold atI at h
 cases e:ixN xs.length i with
 | none=>rw[e] at h;cases h
 | some j=>
   rw[e] at h
   obtain⟨h1,h2,h3,h4⟩:=j_5 e
   exact⟨j,h1,h,h2,h3,h4⟩
theorem a_e {α:Type} {xs:List α} {j:Nat} {v:α} (h:xs[j]? =some v):atI xs (j:Int)=some v:=by
 have hj:j < xs.length:=(r_q.mp h).1
 have e:ixN xs.length (j:Int)=some j:=by
  unfold ixN
  rw[if_pos (by omega),if_pos (by omega)];simp
 unfold atI;rw[e];exact h
theorem k_V {α:Type} (xs:List α) (v:α):atI (xs++ [v]) (-1)=some v:=by
 have hl:(xs++ [v]).length=xs.length+1:=by simp
 have e:ixN (xs++ [v]).length (-1)=some xs.length:=by
  unfold ixN
  rw[hl,if_neg (by decide),if_pos (by omega)]
  congr 1
  omega
 unfold atI
 rw[e]
 show (xs++ [v])[xs.length]? =some v
 simp
def g_I (b:Expr):Prop:=∀o i,subscripted b false o i=operate [o,i] (getItem o i)
def IxR (X:Cx) (r:R2):Prop:=
 ∀(value slice:Expr) (pins:List (Addr×Obj)) (s:Shared) (σ:St) (H:Hp) (x y:V) (v u:Value) (Q:VK),Inv X pins σ H s->RelV x v->RelV y u->r x y H Q->
  subscripted slice false v u=operate [v,u] (getItem v u)->wpAny (model X.prog X.w) X.A (subscriptTail value slice v u) (EP X pins σ Q) X.xe s
def MtR (X:Cx) (id:String) (r:V->List V->Hp->VK->Prop):Prop:=
 ∀(pins:List (Addr×Obj)) (s:Shared) (σ:St) (H:Hp) (x:V) (xs:List V) (v:Value) (us:List Value) (Q:VK),Inv X pins σ H s->RelV x v->Vals xs us->r x xs H Q->
  wpAny (model X.prog X.w) X.A (call (.builtin id) (v::us)) (EP X pins σ Q) X.xe s
section
variable {X:Cx} {a b:Expr} {ta tb:TE} {pos:Pos}
theorem MtR.or {id:String} {r r':V->List V->Hp->VK->Prop} (h:MtR X id r) (h':MtR X id r'):MtR X id (λx xs H Q=>r x xs H Q\/r' x xs H Q):=by
 intro pins s σ H x xs v us Q I rx rs q
 rcases q with q | q
 ·exact h pins s σ H x xs v us Q I rx rs q
 ·exact h' pins s σ H x xs v us Q I rx rs q
theorem a_r {r:R2} (hr:IxR X r) (ha:PE X a ta) (hb:PE X b tb) (hs:g_I b):PE X (.Subscript a b pos) (tOp r ta tb):=by
 intro pins s σ H Q I h
 exact Subscript_ (p_S ha hb I h λv u s2 x y H2 I2 rx ry q=>hr a b pins s2 σ H2 x y v u Q I2 rx ry q (hs _ _))
def q_x (K:PySem.W.Frag):R2:=λx y H Q=>∃p xs i v,x= .ref p/\y= .int i/\SqL K H p xs/\atI xs i=some v/\Q v H
def q_o (K:PySem.W.Frag):R2:=λx y H Q=>∃p xs i v,x= .ref p/\y= .int i/\SqT K H p xs/\atI xs i=some v/\Q v H
def q_L:R2:=λx y H Q=>∃z i c,x= .str z/\y= .int i/\z.length<=sizeLine/\atI z.cps.toList i=some c/\Q (.str ⟨#[c]⟩) H
theorem a_M:IxR X (q_x X.K):=by
 intro value slice pins s σ H x y v u Q I rx ry h hs
 obtain⟨p,xs,i,z,rfl,rfl,hq,he,q⟩:=h
 cases rx
 obtain⟨t,rfl⟩:=ry
 obtain⟨its,r,pl,hz⟩:=I.list hq
 obtain⟨j,h1,h2,h3,h4,h5⟩:=g_P he
 obtain⟨w,ew,rw'⟩:=r.get h2
 have hl:=r.length
 have hn:=e_s
 have fin:EP X pins σ Q w s:=⟨z,H,I,rw',q⟩
 by_cases h0:0<=i
 ·have hj:i.toNat=j:=by
   rw[seqIndex_of h0 h5] at h1
   exact r_j h1
  exact item_listR pl.isList h0 (by omega) (by rw[hj];simpa using ew) fin hs
 ·have hj:(i+(its.toArray.size:Int)).toNat=j:=by
   rw[seqIndex_neg (by omega) h4] at h1
   rw[r_m,<-hl]
   exact r_j h1
  exact subscriptTail_builtinR (x:=w) pl.isList.typeIs slot_list_getitem.lookup
   (wpAny_getItem_list_neg (Q:=λr s'=>r=w/\EP X pins σ Q r s') pl.isList (by omega) (by rw[r_m] <;> omega) (by omega) (by rw[hj];simpa using ew) ⟨rfl,fin⟩) hs
theorem a_p:IxR X (q_o X.K):=by
 intro value slice pins s σ H x y v u Q I rx ry h hs
 obtain⟨p,xs,i,z,rfl,rfl,hq,he,q⟩:=h
 cases rx
 obtain⟨t,rfl⟩:=ry
 obtain⟨its,r,pl,hz⟩:=I.tuple hq
 obtain⟨j,h1,h2,h3,h4,h5⟩:=g_P he
 obtain⟨w,ew,rw'⟩:=r.get h2
 have hl:=r.length
 have hn:=e_s
 have fin:EP X pins σ Q w s:=⟨z,H,I,rw',q⟩
 exact subscriptTail_builtinR (x:=w) pl.typeIs slot_tuple_getitem.lookup
  (getItem_tuple (j:=j) (Q:=λr s'=>r=w/\EP X pins σ Q r s') pl (by omega) (by omega) (by rw[r_m,<-hl];exact h1) (by simpa using ew) ⟨rfl,fin⟩) hs
theorem h_5 (its:List Value) (n j:Nat) (u:Value):Obj.mapSeq (·.setIfInBounds j u) { cls:= .type "list",data:= .seq its.toArray n }={ cls:= .type "list",data:= .seq (its.set j u).toArray n }:=by
 simp[Obj.mapSeq]
theorem Inv.lst {pins:List (Addr×Obj)} {σ:St} {H:Hp} {s:Shared} {p:Addr} {xs:List V} (I:Inv X pins σ H s) (h:H p=some (.lst xs)):
 ∃(its:List Value) (n:Nat),Vals xs its/\s.heap.get? p=some { cls:= .type "list",data:= .seq its.toArray n }/\xs.length<=sizeLine:=by
 obtain⟨z,its,n,r,e⟩:=I.hok p _ h
 exact⟨its,n,r,e,z⟩
theorem Inv.lstUpd {pins:List (Addr×Obj)} {σ:St} {H:Hp} {s:Shared} {p:Addr} {xs ys:List V} {its its':List Value} {n n':Nat} {f:Obj->Obj} (I:Inv X pins σ H s) (h:H p=some (.lst xs))
 (ho:s.heap.get? p=some { cls:= .type "list",data:= .seq its.toArray n }) (hf:f { cls:= .type "list",data:= .seq its.toArray n }={ cls:= .type "list",data:= .seq its'.toArray n' }) (r:Vals ys its') (hz:ys.length<=sizeLine) (t:Nat):
 Inv X pins σ (upd H p (.lst ys)) { s with heap:=s.heap.update p f,toks:=t }:=by
 have e:(s.heap.update p f).get? p=some { cls:= .type "list",data:= .seq its'.toArray n' }:=by
  rw[Heap.get?_update_self f ho (by rw[hf] <;> rfl),hf]
 refine I.write (x:=p) (e:=p) (by rw[h];trivial) (.inl rfl) (λb u hb q=>(Heap.get?_update_other _ _ (Ne.symm hb)).trans q) ⟨_,e⟩ ?_
 exact⟨hz,its',n',r,e⟩
def p_C:V->V->V->Hp->(Hp->Prop)->Prop:=λo i v H Q=>∃p xs k j,o= .ref p/\i= .int k/\H p=some (.lst xs)/\ixN xs.length k=some j/\Q (upd H p (.lst (xs.set j v)))
theorem h_W:q_n X p_C:=by
 intro pins s σ H o i v ov iv u Q I ro ri rv h
 obtain⟨p,xs,k,j,rfl,rfl,hp,hj,q⟩:=h
 cases ro
 obtain⟨t,rfl⟩:=ri
 obtain⟨its,n,r,ho,hz⟩:=I.lst hp
 obtain⟨h1,h2,h3,h4⟩:=j_5 hj
 have hl:=r.length
 have hn:=e_s
 have I':Inv X pins σ (upd H p (.lst (xs.set j v))) { s with heap:=s.heap.update p (Obj.mapSeq (·.setIfInBounds j u)) }:=
  I.lstUpd hp ho (h_5 its n j u) (r.set rv j) (by rw[List.length_set];exact hz) s.toks
 by_cases h0:0<=k
 ·have hk:k.toNat=j:=by
   rw[seqIndex_of h0 h4] at h1
   exact r_j h1
  exact PySem.W.ki_setAt ho h0 (by omega) (by rw[r_m,<-hl];exact h4) (by rw[hk];exact⟨_,I',q⟩)
 ·have hk:(k+(its.toArray.size:Int)).toNat=j:=by
   rw[seqIndex_neg (by omega) h3] at h1
   rw[r_m,<-hl]
   exact r_j h1
  exact PySem.W.ki_setBack ho (by omega) (by rw[r_m,<-hl];exact h3) (by omega) (by rw[hk];exact⟨_,I',q⟩)
theorem f_9 (lo hi:Option Int) (n:Nat):(sliceBounds lo hi none n).1=((HT.sIx n 0 lo:Nat):Int)/\(sliceBounds lo hi none n).2.1=((HT.sIx n n hi:Nat):Int)/\(sliceBounds lo hi none n).2.2=1:=by
 refine⟨?_, ?_, rfl⟩
 ·cases lo with
  | none=>simp[sliceBounds,HT.sIx]
  | some i=>
    simp only[sliceBounds,HT.sIx,Option.getD_none,show (1:Int) > 0 by decide,if_true]
    by_cases h:i < 0
    ·simp only[h,if_true] <;> omega
    ·simp only[h,if_false] <;> omega
 ·cases hi with
  | none=>simp[sliceBounds,HT.sIx]
  | some i=>
    simp only[sliceBounds,HT.sIx,Option.getD_none,show (1:Int) > 0 by decide,if_true]
    by_cases h:i < 0
    ·simp only[h,if_true] <;> omega
    ·simp only[h,if_false] <;> omega
theorem f_x (its:List Value) (lo hi:Option Int):slicePick its.toArray lo hi none=((its.drop (HT.sIx its.length 0 lo)).take (HT.sIx its.length its.length hi - HT.sIx its.length 0 lo)).toArray:=by
 obtain⟨h1,h2,h3⟩:=f_9 lo hi its.toArray.size
 unfold slicePick
 rw[h1,h2,h3]
 simp only[sliceRange_one,pick_run,r_m] <;> rfl
def q_M (K:PySem.W.Frag):V->Option Int->Option Int->Hp->VK->Prop:=λx lo hi H Q=>∃a xs,x= .ref a/\SqL K H a xs/\∀p,H p=none->Q (.ref p) (upd H p (.lst (h_7 xs lo hi)))
theorem e_d:SlR X (q_M X.K):=by
 intro pins s σ H x v vl vu lo hi sl Q I rx hs pl pu h
 obtain⟨a,xs,rfl,hx,q⟩:=h
 cases rx
 obtain⟨its,r,ht,hz⟩:=I.list hx
 have hlen:=r.length
 refine⟨"list",_,slot_list_getitem.lookup,ht.isList.typeIs,?_⟩
 refine wpAny_getItem_list_slice ht.isList hs pl pu .none (by simp) ?_ (by rw[r_m] <;> omega)
 rw[f_x,<-hlen]
 refine⟨.ref s.heap.objs.size,_,I.laid (t':=s.toks) (o:= .lst (h_7 xs lo hi)) (λb ob q=>Heap.get?_push_of_some _ q) (r_l _) ?_, rfl,q _ (I.hok.fresh (r_l _))⟩
 exact⟨r_x (h_f xs lo hi) hz,_,0,(r.drop (HT.sIx xs.length 0 lo)).take (HT.sIx xs.length xs.length hi - HT.sIx xs.length 0 lo),Heap.get?_push_size _ rfl⟩
def g_q:V->Bool
 | .non=>true
 | .bl _=>true
 | .int _=>true
 | .str _=>true
 | _=>false
def eqV:V->V->Bool
 | .non,.non=>true
 | .bl a,.bl b=>a == b
 | .bl a,.int b=>(if a then 1 else 0) == b
 | .int a,.bl b=>a == (if b then 1 else 0)
 | .int a,.int b=>a == b
 | .str a,.str b=>a == b
 | _,_=>false
theorem l_O {A:Around} {s:Shared} {y x:V} {u v:Value} (ry:RelV y u) (rx:RelV x v) (fy:g_q y=true) (fx:g_q x=true):SeqAt.EqAt A s u v (eqV y x):=by
 cases y with
 | non=>
   cases ry
   cases x with
   | non=>cases rx;exact SeqAt.EqAt.same _
   | bl b=>cases rx;exact SeqAt.EqAt.none_bool b
   | int b=>obtain⟨t,rfl⟩:=rx;exact SeqAt.EqAt.none_int b t
   | str b=>obtain⟨t,rfl⟩:=rx;exact SeqAt.EqAt.none_str b t
   | _=>exact absurd (show false=true from fx) r_t
 | bl a=>
   cases ry
   cases x with
   | non=>cases rx;exact SeqAt.EqAt.bool_none a
   | bl b=>cases rx;exact SeqAt.EqAt.bool_bool a b
   | int b=>obtain⟨t,rfl⟩:=rx;exact SeqAt.EqAt.bool_int a b t
   | str b=>obtain⟨t,rfl⟩:=rx;exact SeqAt.EqAt.bool_str a b t
   | _=>exact absurd (show false=true from fx) r_t
 | int a=>
   obtain⟨t',rfl⟩:=ry
   cases x with
   | non=>cases rx;exact SeqAt.EqAt.int_none a t'
   | bl b=>cases rx;exact SeqAt.EqAt.int_bool a t' b
   | int b=>obtain⟨t,rfl⟩:=rx;exact SeqAt.EqAt.int_int a t' b t
   | str b=>obtain⟨t,rfl⟩:=rx;exact SeqAt.EqAt.int_str a t' b t
   | _=>exact absurd (show false=true from fx) r_t
 | str a=>
   obtain⟨t',rfl⟩:=ry
   cases x with
   | non=>cases rx;exact SeqAt.EqAt.str_none a t'
   | bl b=>cases rx;exact SeqAt.EqAt.str_bool a t' b
   | int b=>obtain⟨t,rfl⟩:=rx;exact SeqAt.EqAt.str_int a t' b t
   | str b=>obtain⟨t,rfl⟩:=rx;exact SeqAt.EqAt.str_str a t' b t
   | _=>exact absurd (show false=true from fx) r_t
 | _=>exact absurd (show false=true from fy) r_t
def eqU (x:V) (u:Value):Bool:=match u with
 | .none=>eqV .non x
 | .bool b=>eqV (.bl b) x
 | .int i _=>eqV (.int i) x
 | .str z _=>eqV (.str z) x
 | _=>false
theorem l_9 {x y:V} {u:Value} (r:RelV y u) (f:g_q y=true):eqU x u=eqV y x:=by
 cases y with
 | non=>cases r;rfl
 | bl b=>cases r;rfl
 | int i=>obtain⟨t,rfl⟩:=r;rfl
 | str z=>obtain⟨t,rfl⟩:=r;rfl
 | _=>exact absurd (show false=true from f) r_t
theorem e_a {x:V}:∀{xs:List V} {us:List Value},Vals xs us->xs.all g_q=true->us.any (eqU x)=xs.any λy=>eqV y x
 | _,_,.nil,_=>rfl
 | y::xs,u::us,.cons r t,f=>by
   rw[List.all_cons,Bool.and_eq_true] at f
   rw[List.any_cons,List.any_cons,l_9 r f.1,e_a t f.2]
theorem d_i {A:Around} {s:Shared} {x:V} {v:Value} (rx:RelV x v) (fx:g_q x=true):∀{xs:List V} {us:List Value},Vals xs us->xs.all g_q=true->∀u∈us,SeqAt.EqAt A s u v (eqU x u)
 | _,_,.nil,_=>λu hu=>by cases hu
 | y::xs,u::us,.cons r t,f=>fun u' hu=>by
   rw[List.all_cons,Bool.and_eq_true] at f
   rcases r_n.mp hu with rfl | hu
   ·rw[l_9 r f.1];exact l_O r rx f.1 fx
   ·exact d_i rx fx t f.2 u' hu
def inV (x:V) (xs:List V):Bool:=xs.any λy=>eqV y x
def rIn (K:PySem.W.Frag) (neg:Bool):R2:=λx y H Q=>∃p xs,y= .ref p/\(SqL K H p xs\/SqT K H p xs)/\g_q x=true/\xs.all g_q=true/\Q (.bl (if neg then !inV x xs else inV x xs)) H
theorem e_x:OpR X (compareOp .In) (rIn X.K false):=by
 intro pins s σ H x y v u Q I rx ry h
 obtain⟨p,xs,rfl,hq,fx,fs,q⟩:=h
 cases ry
 rcases hq with hq | hq
 ·obtain⟨its,r,pl,hz⟩:=I.list hq
  refine SeqAt.in_listAt (eqU x) pl.isList (λw hw=>d_i rx fx r fs w (by simpa using hw)) ⟨.bl _,H,I,rfl,?_⟩
  rw[show its.toArray.any (eqU x)=its.any (eqU x) by simp,e_a r fs]
  exact q
 ·obtain⟨its,r,pl,hz⟩:=I.tuple hq
  refine SeqAt.in_tupleAt (eqU x) pl (λw hw=>d_i rx fx r fs w (by simpa using hw)) ⟨.bl _,H,I,rfl,?_⟩
  rw[show its.toArray.any (eqU x)=its.any (eqU x) by simp,e_a r fs]
  exact q
theorem g_s:OpR X (compareOp .NotIn) (rIn X.K true):=by
 intro pins s σ H x y v u Q I rx ry h
 obtain⟨p,xs,rfl,hq,fx,fs,q⟩:=h
 cases ry
 rcases hq with hq | hq
 ·obtain⟨its,r,pl,hz⟩:=I.list hq
  refine SeqAt.notIn_listAt (eqU x) pl.isList (λw hw=>d_i rx fx r fs w (by simpa using hw)) ⟨.bl _,H,I,rfl,?_⟩
  rw[show its.toArray.any (eqU x)=its.any (eqU x) by simp,e_a r fs]
  exact q
 ·obtain⟨its,r,pl,hz⟩:=I.tuple hq
  refine SeqAt.notIn_tupleAt (eqU x) pl (λw hw=>d_i rx fx r fs w (by simpa using hw)) ⟨.bl _,H,I,rfl,?_⟩
  rw[show its.toArray.any (eqU x)=its.any (eqU x) by simp,e_a r fs]
  exact q
theorem a_v:d_a X (.builtin "len") (λxs H Q=>∃p ys,xs= [.ref p]/\(SqL X.K H p ys\/SqT X.K H p ys)/\Q (.int ys.length) H):=by
 intro pins s σ H xs us Q I r h
 obtain⟨p,ys,rfl,hq,q⟩:=h
 obtain⟨u,rfl,rx⟩:=i_k r
 cases rx
 have hn:=e_s
 rcases hq with hq | hq
 ·obtain⟨its,r',pl,hz⟩:=I.list hq
  have hlen:=r'.length
  exact Calls.call_len_list pl.isList (by simp only[r_m] <;> omega) ⟨.int ys.length,H,I.tok _,⟨s.toks+1,by rw[r_m,hlen]⟩,q⟩
 ·obtain⟨its,r',pl,hz⟩:=I.tuple hq
  have hlen:=r'.length
  exact len_tuple pl (by simp only[r_m] <;> omega) ⟨.int ys.length,H,I.tok _,⟨s.toks+1,by rw[r_m,hlen]⟩,q⟩
theorem f_R:d_a X (.builtin "len") (λxs H Q=>∃z,xs= [.str z]/\z.length<=sizeLine/\Q (.int z.length) H):=by
 intro pins s σ H xs us Q I r h
 obtain⟨z,rfl,hz,q⟩:=h
 obtain⟨u,rfl,t,rfl⟩:=i_k r
 have hn:=e_s
 exact len_str (by omega) ⟨.int z.length,H,I.tok _,⟨_,rfl⟩,q⟩
theorem b_T:d_a X (.type "list") (λxs H Q=>∃p ys,xs= [.ref p]/\(SqL X.K H p ys\/SqT X.K H p ys)/\∀l,H l=none->Q (.ref l) (upd H l (.lst ys))):=by
 intro pins s σ H xs us Q I r h
 obtain⟨p,ys,rfl,hq,q⟩:=h
 obtain⟨u,rfl,rx⟩:=i_k r
 cases rx
 have fin:∀(its:List Value),Vals ys its->ys.length<=sizeLine->∀(h':Heap) (c':Nat),(∀b o',s.heap.get? b=some o'->h'.get? b=some o')->
  h'.get? s.heap.objs.size=some { cls:= .type "list",dict:=none,data:= .seq its.toArray c',slots:= #[] }->EP X pins σ Q (.ref s.heap.objs.size) { s with heap:=h' }:=λits r' hz h' c' kp e=>
  ⟨.ref s.heap.objs.size,_,I.laid (t':=s.toks) kp (r_l _) (show ObjOk X.prog X.w _ h' _ (.lst ys) from ⟨hz,its,c',r',e⟩),rfl,q _ (I.hok.fresh (r_l _))⟩
 rcases hq with hq | hq
 ·obtain⟨its,r',pl,hz⟩:=I.list hq
  have hlen:=r'.length
  obtain⟨o,ho,hc,n,hd⟩:=pl.isList
  exact call_list_seq p (.inl rfl) ho hc hd (λh' c' kp e=>fin its r' hz h' c' kp e) (by simp only[r_m] <;> omega)
 ·obtain⟨its,r',pl,hz⟩:=I.tuple hq
  have hlen:=r'.length
  obtain⟨o,ho,hc,n,hd⟩:=pl
  exact call_list_seq p (.inr rfl) ho hc hd (λh' c' kp e=>fin its r' hz h' c' kp e) (by simp only[r_m] <;> omega)
def tyV (K:PySem.W.Frag) (T:String) (x:V) (H:Hp):Prop:=match x with
 | .str _=>T="str"
 | .int _=>T="int"
 | .ref p=>(T="list"∧∃xs,SqL K H p xs)∨(T="tuple"∧∃o,K.lookup p=some o∧o.cls= .type "tuple"∧o.dict=none)∨
    (T="dict"/\((∃kvs,H p=some (.dK kvs))\/∃kvs,H p=some (.dT kvs)))\/(T="set"/\∃S n,H p=some (.set S n))
 | _=>False
theorem j_b {pins:List (Addr×Obj)} {σ:St} {H:Hp} {s:Shared} {T:String} {x:V} {v:Value} (I:Inv X pins σ H s) (r:RelV x v) (ty:tyV X.K T x H):
 s.TypeIs v T/\∀a,v= .ref a->∃ob,s.heap.get? a=some ob/\ob.dict=none:=by
 cases x with
 | str z=>
   obtain⟨t,rfl⟩:=r
   cases (show T="str" from ty)
   exact⟨typeIs_str s z t,λ_ e=>nomatch e⟩
 | int i=>
   obtain⟨t,rfl⟩:=r
   cases (show T="int" from ty)
   exact⟨typeIs_int s i t,λ_ e=>nomatch e⟩
 | ref p=>
   cases r
   rcases ty with⟨rfl,xs,hq⟩ | ⟨rfl,o,hk,hc,hd⟩ | ⟨rfl,hk⟩ | ⟨rfl,S,n,hk⟩
   ·obtain⟨its,_,pl,_⟩:=I.list hq
    refine⟨pl.isList.typeIs,λa e=> ?_⟩
    cases e
    obtain⟨o,n,e,c,hd,_⟩:=pl
    exact⟨o,e,hd⟩
   ·refine⟨⟨o,I.kIn p o hk,hc⟩,λa e=> ?_⟩
    cases e
    exact⟨o,I.kIn _ o hk,hd⟩
   ·have z:∃o,s.heap.get? p=some o∧o.ExactDict:=by
     rcases hk with⟨kvs,hk⟩ | ⟨kvs,hk⟩
     ·obtain⟨_,_,_,_,o,_,_,e,ex,_⟩:=I.hok p _ hk
      exact⟨o,e,ex⟩
     ·obtain⟨_,_,_,_,o,_,_,e,ex,_⟩:=I.hok p _ hk
      exact⟨o,e,ex⟩
    obtain⟨o,e,ex⟩:=z
    refine⟨⟨o,e,ex.1⟩,λa e2=> ?_⟩
    cases e2
    exact⟨o,e,ex.2.1⟩
   ·obtain⟨o,_,_,_,e,ex,_⟩:=I.hok p _ hk
    refine⟨⟨o,e,ex.1⟩,λa e2=> ?_⟩
    cases e2
    exact⟨o,e,ex.2.1⟩
 | _=>exact False.elim ty
def q_0 (K:PySem.W.Frag) (T:String) (r:V->List V->Hp->VK->Prop) (to:TE):TE:=λσ H Q=>to σ H λx H1=>tyV K T x H1/\r x [] H1 Q
def tBM (K:PySem.W.Frag) (T:String) (r:V->List V->Hp->VK->Prop) (to:TE) (t:TA):TE:=λσ H Q=>to σ H λx H1=>tyV K T x H1/\t σ H1 λxs H2=>r x xs H2 Q
variable {o e:Expr} {es:List Expr} {to:TE} {t:TA} {name:Str} {apos cpos:Pos} {T id:String} {r:V->List V->Hp->VK->Prop}
theorem e_p (pa:PlainAttrs T) (slot:Slot T name id) (hty:typeOf (.builtin id)=pure (.type "method_descriptor")) (hm:MtR X id r) (ho:PE X o to)
 (hbase:attributeBase o name X.env (eval o X.env)=eval o X.env:=by rfl) (hline:(apos.endLine == cpos.line)=true:=by rfl):PE X (.Call (.Attribute o name apos) [] [] cpos) (q_0 X.K T r to):=by
 intro pins s σ H Q I h
 refine wpAny_Call_method0_late hbase hline (thn (ho pins s σ H _ I h) λv s1 ⟨x,H1,I1,r1,ty,q1⟩=> ?_)
 obtain⟨h1,h2⟩:=j_b I1 r1 ty
 exact⟨T,id,pa,slot,hty,h1,h2,Calls.callWith_builtin rfl (PySem.evalArgs_none (hm pins s1 σ H1 x [] v [] Q I1 r1 .nil q1))⟩
theorem b_C (pa:PlainAttrs T) (slot:Slot T name id) (hty:typeOf (.builtin id)=pure (.type "method_descriptor")) (hm:MtR X id r) (ho:PE X o to) (ha:PA X (e::es) t)
 (hbase:attributeBase o name X.env (eval o X.env)=eval o X.env:=by rfl)
 (hfew:((backTo cpos (starEach (e::es) X.env)).all (fun x=> !x.1)&&(backToKw cpos (keywordEach [] X.env)).all (fun x=>x.1.isSome)
   &&decide ((e::es).length+([]:List Keyword).length+(if ([]:List Keyword).isEmpty then 0 else 1) < 30))=true:=by rfl)
 (hline:(apos.endLine == cpos.line)=true:=by rfl) (hs:starEach (e::es) X.env=(false,eval e X.env)::starEach es X.env:=by rfl) (hplain:(backTo cpos (starEach es X.env)).any (·.1)=false:=by rfl):
 PE X (.Call (.Attribute o name apos) (e::es) [] cpos) (tBM X.K T r to t):=by
 intro pins s σ H Q I h
 refine wpAny_Call_method_late hbase hfew hline rfl (thn (ho pins s σ H _ I h) λv s1 ⟨x,H1,I1,r1,ty,q1⟩=> ?_)
 obtain⟨h1,h2⟩:=j_b I1 r1 ty
 refine⟨T,id,pa,slot,hty,h1,h2,?_⟩
 have hA:=ha cpos pins s1 σ H1 _ I1 q1
 rw[hs] at hA ⊢
 refine Calls.callWith_builtin (by show (false||(backTo cpos (starEach es X.env)).any (·.1))=false;rw[hplain] <;> rfl) (Calls.evalArgs_plain ?_)
 exact thn hA λus s2 ⟨vs,H2,I2,r2,q2⟩=>hm pins s2 σ H2 x vs v us Q I2 r1 r2 q2
end
def MtM (X:Cx) (id:String) (r:V->List V->Hp->VK->Prop):Prop:=
 ∀(pins:List (Addr×Obj)) (s:Shared) (σ:St) (H:Hp) (x:V) (xs:List V) (v:Value) (us:List Value) (Q:VK),Inv X pins σ H s->RelV x v->Vals xs us->r x xs H Q->
  wpAny (model X.prog X.w) X.A (call (.builtin id) (v::us)) (EP X pins σ Q) X.xe s
theorem Vals.one:∀{x:V} {us:List Value},Vals [x] us->∃u,us= [u]/\RelV x u
 | _,_,.cons r .nil=>⟨_,rfl,r⟩
theorem Vals.two:∀{x y:V} {us:List Value},Vals [x,y] us->∃u v,us= [u,v]/\RelV x u/\RelV y v
 | _,_,_,.cons r (.cons q .nil)=>⟨_,_,rfl,r,q⟩
theorem Vals.zero:∀{us:List Value},Vals [] us->us= []
 | _,.nil=>rfl
theorem Vals.dropLast {xs:List V} {us:List Value} (h:Vals xs us):Vals xs.dropLast us.dropLast:=by
 induction h with
 | nil=>exact .nil
 | cons r t ih=>
   cases t with
   | nil=>exact .nil
   | cons q t'=>exact .cons r ih
theorem Vals.eraseIdx:∀{xs:List V} {us:List Value} (i:Nat),Vals xs us->Vals (xs.eraseIdx i) (us.eraseIdx i)
 | _,_,_,.nil=> .nil
 | _,_,0,.cons _ t=>t
 | _,_,i+1,.cons r t=> .cons r (Vals.eraseIdx i t)
theorem i_f {α:Type} (l:List α):l.eraseIdx (l.length - 1)=l.dropLast:=by
 induction l with
 | nil=>rfl
 | cons a r ih=>
   cases r with
   | nil=>rfl
   | cons b r=>
     have e:(a::b::r).length - 1=((b::r).length - 1)+1:=by
      have h1:(a::b::r).length=r.length+2:=rfl
      have h2:(b::r).length=r.length+1:=rfl
      omega
     rw[e,List.eraseIdx_cons_succ,ih]
     all_goals rfl
theorem e_o {α:Type}:∀(l:List α) (i:Nat),(l.eraseIdx i).length<=l.length
 | [],_=>r_l _
 | _::_,0=>Nat.le_succ _
 | _::r,i+1=>Nat.succ_le_succ (e_o r i)
section
variable {X:Cx} {pins:List (Addr×Obj)} {σ:St} {H:Hp} {s:Shared} {l b:Addr} {xs ys zs:List V}
theorem Inv.lset {its its':List Value} {n:Nat} {f:Array Value->Array Value} {t':Nat} (I:Inv X pins σ H s) (hH:H l=some (.lst xs))
 (e:s.heap.get? l=some { cls:= .type "list",data:= .seq its.toArray n }) (hf:f its.toArray=its'.toArray) (hv:Vals ys its') (hz:ys.length<=sizeLine):
 Inv X pins σ (upd H l (.lst ys)) { s with heap:=s.heap.update l (Obj.mapSeq f),toks:=t' }:=by
 have q:=PySem.IsL.update e f
 rw[hf] at q
 refine I.write (x:=l) (e:=l) (by rw[hH];exact trivial) (.inl rfl) (λb' u hb hu=>(Heap.get?_update_other s.heap (Obj.mapSeq f) (Ne.symm hb)).trans hu) ⟨_,q⟩ ?_
 exact⟨hz,its',_,hv,q⟩
theorem Inv.lnew {its:List Value} {t':Nat} (I:Inv X pins σ H s) (hv:Vals ys its) (hz:ys.length<=sizeLine):
 Inv X pins σ (upd H s.heap.objs.size (.lst ys)) { s with heap:=s.heap.push { cls:= .type "list",data:= .seq its.toArray },toks:=t' }:=
 I.laid (λ_ _ q=>Heap.get?_push_of_some _ q) (r_l _) ⟨hz,its,0,hv,Heap.get?_push_size _ rfl⟩
theorem Inv.fresh (I:Inv X pins σ H s):H s.heap.objs.size=none:=I.hok.fresh (r_l _)
theorem Inv.lstM (I:Inv X pins σ H s) (hH:H l=some (.lst xs)):xs.length<=sizeLine/\∃(its:List Value) (n:Nat),Vals xs its/\xs.length=its.length/\s.heap.get? l=some { cls:= .type "list",data:= .seq its.toArray n }:=by
 obtain⟨z,its,n,r,e⟩:=I.hok l _ hH
 exact⟨z,its,n,r,r.length,e⟩
theorem h_G {n:Nat} (h:n<=sizeLine):Builtin.List.listTooLong n=false:=by
 unfold Builtin.List.listTooLong
 exact r_T (by omega)
end
section
variable {X:Cx}
def m_5:V->List V->Hp->VK->Prop:=λx vs H Q=>∃l xs y,x= .ref l/\vs= [y]/\H l=some (.lst xs)/\xs.length < sizeLine/\Q .non (upd H l (.lst (xs++ [y])))
theorem a_Q:MtM X "list.append" m_5:=by
 intro pins s σ H x vs v us Q I rx rv h
 obtain⟨l,xs,y,rfl,rfl,hH,hz,q⟩:=h
 cases rx
 obtain⟨u,rfl,ru⟩:=rv.one
 obtain⟨z,its,n,r,hl,e⟩:=I.lstM hH
 refine call_meets F.slot_list_append ⟨_,e,rfl⟩ F.entry_list_append (F.args_list_append_2 _ _) (PySem.list_append l its.toArray n u (by rw[r_m];omega)) ⟨e,?_⟩
 refine⟨.non,_,I.lset (its':=its++ [u]) hH e (by simp) (r.append (.cons ru .nil)) ?_, rfl,q⟩
 rw[r_e,r_K]
 omega
def m_Y:V->List V->Hp->VK->Prop:=λx vs H Q=>∃l b xs zs,x= .ref l/\vs= [.ref b]/\H l=some (.lst xs)/\H b=some (.lst zs)/\xs.length+zs.length<=sizeLine/\Q .non (upd H l (.lst (xs++zs)))
theorem d_b:MtM X "list.extend" m_Y:=by
 intro pins s σ H x vs v us Q I rx rv h
 obtain⟨l,b,xs,zs,rfl,rfl,hH,hB,hz,q⟩:=h
 cases rx
 obtain⟨u,rfl,ru⟩:=rv.one
 cases ru
 obtain⟨z,its,n,r,hl,e⟩:=I.lstM hH
 obtain⟨z2,its2,n2,r2,hl2,e2⟩:=I.lstM hB
 have hsz:its.toArray.size+its2.toArray.size<=sizeLine:=by rw[r_m,r_m];omega
 have hlong:¬ (!its.toArray.isEmpty&&Builtin.List.listTooLong (its.toArray.size+its2.toArray.size))=true:=by
  rw[h_G hsz,Bool.and_false]
  exact r_t
 refine call_meets F.slot_list_extend ⟨_,e,rfl⟩ F.entry_list_extend (F.args_list_extend_2 _ _)
  (AutoSeq1.list_extend_list_list_0 l its.toArray n b its2.toArray n2 hlong (by rw[r_m];omega) (by omega)) ⟨e,e2,?_⟩
 refine⟨.non,_,I.lset (its':=its++its2) hH e (by simp) (r.append r2) ?_, rfl,q⟩
 rw[r_e]
 omega
def q_T:V->List V->Hp->VK->Prop:=λx vs H Q=>∃l xs y,x= .ref l/\vs= []/\H l=some (.lst xs)/\xs[xs.length - 1]? =some y/\Q y (upd H l (.lst xs.dropLast))
theorem f_S:MtM X "list.pop" q_T:=by
 intro pins s σ H x vs v us Q I rx rv h
 obtain⟨l,xs,y,rfl,rfl,hH,hy,q⟩:=h
 cases rx
 have hus:=rv.zero
 subst hus
 obtain⟨z,its,n,r,hl,e⟩:=I.lstM hH
 obtain⟨u,hu,ru⟩:=r.get hy
 have hy':its.toArray[its.toArray.size - 1]? =some u:=by
  show its.toArray[its.length - 1]? =some u
  rw[<-Array.getElem?_toList,<-hl]
  exact hu
 refine call_meets F.slot_list_pop ⟨_,e,rfl⟩ F.entry_list_pop (F.args_list_pop_1 _) (MeetsSeq.list_pop_last l its.toArray n u hy' (by rw[r_m];omega)) ⟨e,?_⟩
 refine⟨y,_,I.lset (its':=its.dropLast) hH e ?_ r.dropLast ?_, ru,q⟩
 ·show its.toArray.eraseIdxIfInBounds (its.toArray.size - 1)=its.dropLast.toArray
  rw[r_m,List.eraseIdxIfInBounds_toArray,i_f]
 ·rw[List.length_dropLast]
  omega
def o_L:V->List V->Hp->VK->Prop:=λx vs H Q=>∃l xs i k y,x= .ref l/\vs= [.int i]/\H l=some (.lst xs)/\-(2 ^ 63)<=i/\i < 2 ^ 63/\seqIndex? i xs.length=some k/\xs[k]? =some y/\Q y (upd H l (.lst (xs.eraseIdx k)))
theorem h_K:MtM X "list.pop" o_L:=by
 intro pins s σ H x vs v us Q I rx rv h
 obtain⟨l,xs,i,k,y,rfl,rfl,hH,h1,h2,hk,hy,q⟩:=h
 cases rx
 obtain⟨u,rfl,ru⟩:=rv.one
 obtain⟨t,rfl⟩:=ru
 obtain⟨z,its,n,r,hl,e⟩:=I.lstM hH
 obtain⟨w,hw,rw'⟩:=r.get hy
 refine call_meets F.slot_list_pop ⟨_,e,rfl⟩ F.entry_list_pop (F.args_list_pop_2 _ _)
  (MeetsSeq.list_pop_at l its.toArray n i t k w (fitsIndex_both h1 h2) (by rw[r_m,<-hl];exact hk) (by rw[<-Array.getElem?_toList];exact hw) (by rw[r_m];omega)) ⟨e,?_⟩
 refine⟨y,_,I.lset (its':=its.eraseIdx k) hH e ?_ (r.eraseIdx k) ?_, rw',q⟩
 ·show its.toArray.eraseIdxIfInBounds k=(its.eraseIdx k).toArray
  rw[List.eraseIdxIfInBounds_toArray]
 ·have:=e_o xs k
  omega
def q_O:R2:=λx y H Q=>∃l b xs zs,x= .ref l/\y= .ref b/\H l=some (.lst xs)/\H b=some (.lst zs)/\xs.length+zs.length<=sizeLine/\∀p,H p=none->Q (.ref p) (upd H p (.lst (xs++zs)))
theorem g_b:OpR X (binaryOp .Add) q_O:=by
 intro pins s σ H x y v u Q I rx ry h
 obtain⟨l,b,xs,zs,rfl,rfl,hH,hB,hz,q⟩:=h
 cases rx
 cases ry
 obtain⟨z,its,n,r,hl,e⟩:=I.lstM hH
 obtain⟨z2,its2,n2,r2,hl2,e2⟩:=I.lstM hB
 refine PySem.P.add_list e e2 ?_ (by rw[r_m,r_m];omega)
 have ea:its.toArray++its2.toArray=(its++its2).toArray:=by simp
 rw[ea]
 exact⟨.ref _,_,I.lnew (t':=s.toks) (r.append r2) (by rw[r_e];omega),rfl,q _ I.fresh⟩
end
section
variable {prog:Program} {w:World} {A:Around} {E:Value->Shared->Prop} {s:Shared}
end
section
variable {X:Cx}
end
section
variable {κ:Type} [DecidableEq κ]
def d_u (kvs:List (κ×V)) (k:κ):Option V:=(kvs.find? λkv=>decide (kv.1=k)).map (·.2)
def d_k (kvs:List (κ×V)) (k:κ) (v:V):List (κ×V):=
 if (kvs.any λkv=>decide (kv.1=k))=true then kvs.map (λkv=>if kv.1=k then (kv.1,v) else kv) else kvs++ [(k,v)]
def d_s (kvs:List (κ×V)) (k:κ):List (κ×V):=kvs.filter λkv=>decide (kv.1≠k)
theorem b_O {p:κ×V} {r:List (κ×V)} {k:κ} (e:p.1=k):d_u (p::r) k=some p.2:=by simp[d_u,List.find?_cons,e]
theorem b_q {p:κ×V} {r:List (κ×V)} {k:κ} (e:¬ p.1=k):d_u (p::r) k=d_u r k:=by simp[d_u,List.find?_cons,e]
theorem d_G (k:κ):∀kvs:List (κ×V),(kvs.any λkv=>decide (kv.1=k))=(d_u kvs k).isSome
 | []=>rfl
 | p::r=>by
   rw[List.any_cons]
   by_cases e:p.1=k
   ·simp only[b_O e,r_S e,Bool.true_or,Option.isSome_some]
   ·rw[b_q e,r_T e,Bool.false_or];exact d_G k r
theorem c_Q (kvs:List (κ×V)) (k:κ) (v:V):(d_k kvs k v).length<=kvs.length+1:=by
 unfold d_k
 split
 ·rw[r_c];omega
 ·rw[r_e,r_i,r_M];omega
theorem d_O {kvs:List (κ×V)} {k:κ} (v:V) (h:d_u kvs k=none):d_k kvs k v=kvs++ [(k,v)]:=by
 unfold d_k
 rw[d_G,h]
 exact if_neg (by decide)
theorem RelO.isSome_eq {o:Option V} {u:Option Value} (r:RelO o u):o.isSome=u.isSome:=by
 cases o with
 | none=>cases u with
   | none=>rfl
   | some _=>exact (show False from r).elim
 | some _=>cases u with
   | none=>exact (show False from r).elim
   | some _=>rfl
theorem RelO.getD {o:Option V} {u:Option Value} {d:V} {d':Value} (r:RelO o u) (rd:RelV d d'):RelV (o.getD d) (u.getD d'):=by
 cases o with
 | none=>cases u with
   | none=>exact rd
   | some _=>exact (show False from r).elim
 | some _=>cases u with
   | none=>exact (show False from r).elim
   | some _=>exact r
theorem KV.val {kvs:List (κ×V)} {vs:List (κ×Value)} (r:KV kvs vs) (k:κ):RelO (d_u kvs k) (valueAt vs k):=by
 unfold KV at r
 induction r with
 | nil=>exact True.intro
 | @cons p q ps qs h t ih=>
   obtain⟨h1,h2⟩:=h
   by_cases e:p.1=k
   ·have e':q.1=k:=h1.symm.trans e
    have b:valueAt (q::qs) k=some q.2:=by simp[valueAt,List.find?_cons,e']
    rw[b_O e,b];exact h2
   ·have e':¬ q.1=k:=λz=>e (h1.trans z)
    have b:valueAt (q::qs) k=valueAt qs k:=by simp[valueAt,List.find?_cons,e']
    rw[b_q e,b];exact ih
theorem KV.any {kvs:List (κ×V)} {vs:List (κ×Value)} (r:KV kvs vs) (k:κ):(kvs.any λkv=>decide (kv.1=k))=vs.any λkv=>decide (kv.1=k):=by
 unfold KV at r
 induction r with
 | nil=>rfl
 | cons h t ih=>rw[List.any_cons,List.any_cons,ih,h.1]
theorem KV.repl {kvs:List (κ×V)} {vs:List (κ×Value)} (r:KV kvs vs) (k:κ) {y:V} {u:Value} (ry:RelV y u):
 KV (kvs.map λkv=>if kv.1=k then (kv.1,y) else kv) (vs.map λkv=>if kv.1=k then (kv.1,u) else kv):=by
 unfold KV at r ⊢
 induction r with
 | nil=>exact .nil
 | @cons p q ps qs h t ih=>
   rw[r_r,r_r]
   refine .cons ?_ ih
   obtain⟨h1,h2⟩:=h
   by_cases e:p.1=k
   ·rw[if_pos e,if_pos (h1.symm.trans e)];exact⟨h1,ry⟩
   ·rw[if_neg e,if_neg (λz=>e (h1.trans z))];exact⟨h1,h2⟩
theorem KV.put {kvs:List (κ×V)} {vs:List (κ×Value)} (r:KV kvs vs) (k:κ) {y:V} {u:Value} (ry:RelV y u):KV (d_k kvs k y) (stored vs k u):=by
 unfold d_k stored
 rw[r.any k]
 by_cases e:(vs.any λkv=>decide (kv.1=k))=true
 ·rw[if_pos e,if_pos e];exact r.repl k ry
 ·rw[if_neg e,if_neg e];exact Paired.snoc r ⟨rfl,ry⟩
theorem KV.drop {kvs:List (κ×V)} {vs:List (κ×Value)} (r:KV kvs vs) (k:κ):KV (d_s kvs k) (without vs k):=by
 unfold KV at r ⊢
 unfold d_s without
 induction r with
 | nil=>exact .nil
 | @cons p q ps qs h t ih=>
   obtain⟨h1,h2⟩:=h
   rw[r_B,r_B]
   by_cases e:p.1=k
   ·have a:¬ decide (p.1≠k)=true:=by simp[e]
    have b:¬ decide (q.1≠k)=true:=by simp[h1.symm.trans e]
    rw[if_neg a,if_neg b];exact ih
   ·have e':¬ q.1=k:=λz=>e (h1.trans z)
    have a:decide (p.1≠k)=true:=by simp[e]
    have b:decide (q.1≠k)=true:=by simp[e']
    rw[if_pos a,if_pos b];exact .cons ⟨h1,h2⟩ ih
theorem KV.length {kvs:List (κ×V)} {vs:List (κ×Value)} (r:KV kvs vs):kvs.length=vs.length:=Paired.length r
theorem h_r (kvs:List (κ×V)) (k:κ):(d_s kvs k).length<=kvs.length:=r_N _ _
end
theorem e_5 {P:Program} {w:World} {k:Key} {u:Value} (r:RelV (kV k) u):(a_W P w).is k u=true:=by
 cases k with
 | inl i=>obtain⟨t,e⟩:=(show ∃t,u=Value.int i t from r);subst e;exact g_8 P w i t
 | inr x=>obtain⟨t,e⟩:=(show ∃t,u=Value.str x t from r);subst e;exact g_K P w x t
theorem f_W {P:Program} {w:World}:∀{ks:List Key} {us:List Value},Vals (ks.map kV) us->ItemsAre (a_W P w) ks us
 | [],_,r=>by rw[List.map_nil] at r;cases r;exact .nil
 | k::ks,_,r=>by
   rw[r_r] at r
   cases r with
   | cons h t=>exact .cons (e_5 h) (f_W t)
abbrev KT (H:Hp):List (List Key×V)->List (List Key×Addr×Value)->Prop:=Paired λp q=>p.1=q.1/\H q.2.1=some (.tup (p.1.map kV))/\RelV p.2 q.2.2
theorem KT.val {H:Hp} {kvs:List (List Key×V)} {xs:List (List Key×Addr×Value)} (r:KT H kvs xs) (k:List Key):RelO (d_u kvs k) ((atKey xs k).map (·.2)):=by
 induction r with
 | nil=>exact True.intro
 | @cons p q ps qs h t ih=>
   obtain⟨h1,_,h2⟩:=h
   by_cases e:p.1=k
   ·have e':q.1=k:=h1.symm.trans e
    have b:atKey (q::qs) k=some q.2:=by simp[atKey,List.find?_cons,e']
    rw[b_O e,b];exact h2
   ·have e':¬ q.1=k:=λz=>e (h1.trans z)
    have b:atKey (q::qs) k=atKey qs k:=by simp[atKey,List.find?_cons,e']
    rw[b_q e,b];exact ih
theorem KT.repl {H:Hp} {kvs:List (List Key×V)} {xs:List (List Key×Addr×Value)} (r:KT H kvs xs) (k:List Key) {y:V} {u:Value} (ry:RelV y u):
 KT H (kvs.map λkv=>if kv.1=k then (kv.1,y) else kv) (xs.map (putAt k u)):=by
 induction r with
 | nil=>exact .nil
 | @cons p q ps qs h t ih=>
   rw[r_r,r_r]
   refine .cons ?_ ih
   obtain⟨h1,h2,h3⟩:=h
   unfold putAt
   by_cases e:p.1=k
   ·rw[if_pos e,if_pos (h1.symm.trans e)];exact⟨h1,h2,ry⟩
   ·rw[if_neg e,if_neg (λz=>e (h1.trans z))];exact⟨h1,h2,h3⟩
theorem KT.put {H:Hp} {kvs:List (List Key×V)} {xs:List (List Key×Addr×Value)} (r:KT H kvs xs) (k:List Key) {b:Addr} {y:V} {u:Value} (hb:H b=some (.tup (k.map kV))) (ry:RelV y u):
 KT H (d_k kvs k y) (storedH xs k b u):=by
 have e:(kvs.any λkv=>decide (kv.1=k))=(atKey xs k).isSome:=by
  rw[d_G,(r.val k).isSome_eq,Option.isSome_map]
 unfold d_k storedH
 rw[e]
 by_cases q:(atKey xs k).isSome=true
 ·rw[if_pos q,if_pos q];exact r.repl k ry
 ·rw[if_neg q,if_neg q];exact Paired.snoc r ⟨rfl,hb,ry⟩
theorem KT.keeps {H H':Hp} {kvs:List (List Key×V)} {xs:List (List Key×Addr×Value)} (r:KT H kvs xs) (ht:∀b ys,H b=some (.tup ys)->H' b=some (.tup ys)):KT H' kvs xs:=
 Paired.mapP r λ_ _ z=>⟨z.1,ht _ _ z.2.1,z.2.2⟩
section
variable {P:Program} {w:World} {H:Hp} {h:Heap} {a:Addr}
theorem n_Y {u:HO} (ok:HOk P w H h) (e:Rd H a u):ObjOk P w H h a u:=e.ok ok
theorem g_a {kvs:List (Key×V)} (ok:HOk P w H h) (e:Rd H a (.dK kvs)):kvs.length<=sizeLine/\(a == sysModules)=false/\∃vs,KV kvs vs/\h.DictOf (a_W P w) a vs:=
 show ObjOk P w H h a (.dK kvs) from n_Y ok e
theorem i_j {kvs:List (Key×V)} (ok:HOk P w H h) (e:H a=some (.dK kvs)):kvs.length<=sizeLine/\(a == sysModules)=false/\∃vs,KV kvs vs/\h.DictOf (a_W P w) a vs:=g_a ok (.inl e)
theorem e_T {ks:List Key} (ok:HOk P w H h) (e:H a=some (.tup (ks.map kV))):(tupleKind (a_W P w)).is h ks a:=by
 obtain⟨_,its,r,o,h1,h2,n,h3⟩:=(show ObjOk P w H h a (.tup (ks.map kV)) from ok a _ e)
 exact⟨o,its.toArray,n,h1,h2,h3,by simpa using f_W r⟩
theorem g_z {kvs:List (List Key×V)} (ok:HOk P w H h) (e:Rd H a (.dT kvs)):kvs.length<=sizeLine/\(a == sysModules)=false/\
 ∃xs,KT H kvs xs/\h.DictOfH (tupleKind (a_W P w)) a xs:=by
 obtain⟨z,y,xs,r,o,es,ep,h1,h2,h3,h4,h5⟩:=(show ObjOk P w H h a (.dT kvs) from n_Y ok e)
 refine⟨z,y,xs,r,o,es,ep,h1,h2,h3,h4,λx hx=> ?_, h5⟩
 have all:∀{l:List (List Key×V)} {m:List (List Key×Addr×Value)},KT H l m->∀x∈m,(tupleKind (a_W P w)).is h x.1 x.2.1:=by
  intro l m q
  induction q with
  | nil=>intro x hx;exact nomatch hx
  | @cons p q ps qs hq t ih=>
    intro x hx
    rcases r_n.mp hx with e | hx
    ·subst e
     exact e_T ok (by rw[<-hq.1];exact hq.2.1)
    ·exact ih x hx
 exact all r x hx
theorem q_h {kvs:List (List Key×V)} (ok:HOk P w H h) (e:H a=some (.dT kvs)):kvs.length<=sizeLine/\(a == sysModules)=false/\
 ∃xs,KT H kvs xs/\h.DictOfH (tupleKind (a_W P w)) a xs:=g_z ok (.inl e)
end
def DGet (H:Hp) (a:Addr) (y:V) (r:Option V):Prop:=
 (∃kvs k,Rd H a (.dK kvs)/\y=kV k/\r=d_u kvs k)\/∃kvs k b,Rd H a (.dT kvs)/\y= .ref b/\H b=some (.tup (k.map kV))/\r=d_u kvs k
def DPut (H:Hp) (a:Addr) (y v:V) (H':Hp):Prop:=
 (∃kvs k,H a=some (.dK kvs)/\y=kV k/\kvs.length < sizeLine/\H'=upd H a (.dK (d_k kvs k v)))\/
 ∃kvs k b,H a=some (.dT kvs)/\y= .ref b/\H b=some (.tup (k.map kV))/\kvs.length < sizeLine/\H'=upd H a (.dT (d_k kvs k v))
theorem DGet.k {H:Hp} {a:Addr} {kvs:List (Key×V)} {k:Key} (e:H a=some (.dK kvs)):DGet H a (kV k) (d_u kvs k):= .inl ⟨kvs,k,.inl e,rfl,rfl⟩
theorem DPut.k {H:Hp} {a:Addr} {kvs:List (Key×V)} {k:Key} {v:V} (e:H a=some (.dK kvs)) (hl:kvs.length < sizeLine):DPut H a (kV k) v (upd H a (.dK (d_k kvs k v))):= .inl ⟨kvs,k,e,rfl,hl,rfl⟩
section
variable {X:Cx} {pins:List (Addr×Obj)} {σ:St} {H:Hp} {s:Shared} {a:Addr} {y v:V} {u r:Value} {o:Option V} {A:Around} {E:Value->Shared->Prop}
theorem Inv.big (I:Inv X pins σ H s):sysModules < s.heap.objs.size:=by
 have h:mainGlobals < s.heap.objs.size:=(I.mod.glob.keeps I.bk).lt
 exact Nat.lt_trans (by decide) h
theorem i_C {Q:Value->Shared->Prop} (hu:A.units+1 < cLine) (I:Inv X pins σ H s) (g:DGet H a y (some v)) (ry:RelV y u) (h:∀w' s',Inv X pins σ H s'->RelV v w'->Q w' s'):
 wpAny (model X.prog X.w) A (getItem (.ref a) u) Q E s:=by
 rcases g with⟨kvs,k,e,ey,l⟩ | ⟨kvs,k,b,e,ey,eb,l⟩
 ·subst ey
  obtain⟨z,hd,vs,rel,dd⟩:=g_a I.hok e
  obtain⟨w',hw,rw'⟩:=RelO.some_of (v:=v) (o:=valueAt vs k) (by rw[l];exact rel.val k)
  exact wpAny_getItem_of (e_5 ry) dd.mapOf hw (h w' _ (I.tok _) rw')
 ·subst ey
  cases (show u=Value.ref b from ry)
  obtain⟨z,hd,xs,rel,dd⟩:=g_z I.hok e
  obtain⟨w',hw,rw'⟩:=RelO.some_of (v:=v) (o:=(atKey xs k).map (·.2)) (by rw[l];exact rel.val k)
  obtain⟨p,hp,hp2⟩:=Option.map_eq_some_iff.mp hw
  refine wpAny_getItem_heap (tupleKind_room_in1 hu) (e_T I.hok eb) dd hp ?_
  rw[hp2]
  exact h w' _ (I.tok _) rw'
theorem q_R {Q:Value->Shared->Prop} (hu:A.units+1 < cLine) (I:Inv X pins σ H s) (g:DGet H a y o) (ry:RelV y u) (h:∀s',Inv X pins σ H s'->Q (.bool o.isSome) s'):
 wpAny (model X.prog X.w) A (compareOp .In u (.ref a)) Q E s:=by
 rcases g with⟨kvs,k,e,ey,l⟩ | ⟨kvs,k,b,e,ey,eb,l⟩
 ·subst ey
  obtain⟨z,hd,vs,rel,dd⟩:=g_a I.hok e
  refine wpAny_in_of (e_5 ry) hd dd.mapOf ?_
  rw[<-(rel.val k).isSome_eq,<-l]
  exact h _ (I.tok _)
 ·subst ey
  cases (show u=Value.ref b from ry)
  obtain⟨z,hd,xs,rel,dd⟩:=g_z I.hok e
  refine wpAny_in_heap (tupleKind_room_in1 hu) (e_T I.hok eb) hd dd ?_
  have q:=(rel.val k).isSome_eq
  rw[Option.isSome_map] at q
  rw[<-q,<-l]
  exact h _ (I.tok _)
theorem m_Z {Q:Value->Shared->Prop} (hu:A.units+1 < cLine) (I:Inv X pins σ H s) (g:DGet H a y o) (ry:RelV y u) (h:∀s',Inv X pins σ H s'->Q (.bool (!o.isSome)) s'):
 wpAny (model X.prog X.w) A (compareOp .NotIn u (.ref a)) Q E s:=by
 rcases g with⟨kvs,k,e,ey,l⟩ | ⟨kvs,k,b,e,ey,eb,l⟩
 ·subst ey
  obtain⟨z,hd,vs,rel,dd⟩:=g_a I.hok e
  refine wpAny_notIn_of (e_5 ry) hd dd.mapOf ?_
  rw[<-(rel.val k).isSome_eq,<-l]
  exact h _ (I.tok _)
 ·subst ey
  cases (show u=Value.ref b from ry)
  obtain⟨z,hd,xs,rel,dd⟩:=g_z I.hok e
  refine wpAny_notIn_heap (tupleKind_room_in1 hu) (e_T I.hok eb) hd dd ?_
  have q:=(rel.val k).isSome_eq
  rw[Option.isSome_map] at q
  rw[<-q,<-l]
  exact h _ (I.tok _)
theorem e_z {h':Heap} {t':Nat} {ob:HO} (I:Inv X pins σ H s) (mu:Mut (H a)) (hs:Heap.SameBut a s.heap h') (he:∃q,h'.get? a=some q) (new:ObjOk X.prog X.w (upd H a ob) h' a ob):
 Inv X pins σ (upd H a ob) { s with heap:=h',toks:=t' }:=
 I.write (x:=a) (e:=a) mu (.inl rfl) (λb q hb z=>(hs.2 b hb).trans z) he new
theorem f_Q {P:Program} {w:World} {H':Hp} {h':Heap} {kvs:List (Key×V)} {vs:List (Key×Value)} (z:kvs.length<=sizeLine) (hd:(a == sysModules)=false) (rel:KV kvs vs) (dd:h'.DictOf (a_W P w) a vs):
 ObjOk P w H' h' a (.dK kvs):=⟨z,hd,vs,rel,dd⟩
theorem i_E {H':Hp} {Q:Unit->Shared->Prop} (hu:A.units+1 < cLine) (I:Inv X pins σ H s) (g:DPut H a y v H') (ry:RelV y u) (rv:RelV v r) (h:∀s',Inv X pins σ H' s'->Q () s'):
 wpAny (model X.prog X.w) A (setItem (.ref a) u r) Q E s:=by
 rcases g with⟨kvs,k,e,ey,l,eH⟩ | ⟨kvs,k,b,e,ey,eb,l,eH⟩
 ·subst ey eH
  obtain⟨z,hd,vs,rel,dd⟩:=i_j I.hok e
  have hz:vs.length<=sizeLine:=by rw[<-rel.length];exact z
  have hl:(d_k kvs k v).length<=sizeLine:=by have:=c_Q kvs k v;omega
  refine wpAny_setItem_pairs (hsz:=hz) (e_5 ry) dd λh' dd' hs=>h _ ?_
  have he:∃q,h'.get? a=some q:=let ⟨q,_,_,hq,_⟩:=dd';⟨q,hq⟩
  exact e_z I (by rw[e];exact True.intro) hs he (f_Q hl hd (rel.put k rv) dd')
 ·subst ey eH
  cases (show u=Value.ref b from ry)
  obtain⟨z,hd,xs,rel,dd⟩:=q_h I.hok e
  have hz:xs.length<=sizeLine:=by rw[<-Paired.length rel];exact z
  have hl:(d_k kvs k v).length<=sizeLine:=by have:=c_Q kvs k v;omega
  refine wpAny_setItem_heap (hsz:=hz) (tupleKind_room_in1 hu) (e_T I.hok eb) dd λh' dd' hs=>h _ ?_
  obtain⟨q,es,ep,hq,h2,h3,h4,_,h5⟩:=dd'
  refine e_z I (by rw[e];exact True.intro) hs ⟨q,hq⟩ ⟨hl,hd,_,(rel.put k eb rv).keeps λc ys ec=> ?_, q,es,ep,hq,h2,h3,h4,h5⟩
  rw[a_i (e_8 ec e (λz=>nomatch z))]
  exact ec
end
section
variable {X:Cx} {pins:List (Addr×Obj)} {σ:St} {H:Hp} {s:Shared} {a:Addr} {kvs:List (Key×V)} {k:Key} {u:Value} {A:Around} {E:Value->Shared->Prop}
theorem n_9 {Q:Unit->Shared->Prop} (I:Inv X pins σ H s) (e:H a=some (.dK kvs)) (ry:RelV (kV k) u) (l:(d_u kvs k).isSome=true) (h:∀s',Inv X pins σ (upd H a (.dK (d_s kvs k))) s'->Q () s'):
 wpAny (model X.prog X.w) A (delItem (.ref a) u) Q E s:=by
 obtain⟨z,hd,vs,rel,dd⟩:=i_j I.hok e
 refine wpAny_delItem_slot dd.typeIs (by decide) PySem.F.slot_dict_delitem
  (call_meetsIn PySem.F.slot_dict_delitem dd.typeIs PySem.F.entry_dict_delitem (PySem.F.args_dict_delitem_2 _ _) (meets_dict_delitem_pairs (a_W X.prog X.w) a (e_5 ry)) ⟨vs,dd,by rw[<-rel.length];exact z,by rw[<-(rel.val k).isSome_eq];exact l,λh' dd' hs=>h _ ?_⟩)
 have he:∃q,h'.get? a=some q:=let ⟨q,_,_,hq,_⟩:=dd';⟨q,hq⟩
 exact e_z I (by rw[e];exact True.intro) hs he (f_Q (r_x (h_r kvs k) z) hd (rel.drop k) dd')
theorem p_m {v:V} {more:List Value} {Q:Value->Shared->Prop} (I:Inv X pins σ H s) (e:H a=some (.dK kvs)) (ry:RelV (kV k) u) (l:d_u kvs k=some v) (hm:more= []\/∃x,more= [x])
 (h:∀w' s',Inv X pins σ (upd H a (.dK (d_s kvs k))) s'->RelV v w'->Q w' s'):wpAny (model X.prog X.w) A (call (.builtin "dict.pop") (.ref a::u::more)) Q E s:=by
 obtain⟨z,hd,vs,rel,dd⟩:=i_j I.hok e
 obtain⟨w',hw,rw'⟩:=RelO.some_of (v:=v) (o:=valueAt vs k) (by rw[<-l];exact rel.val k)
 have hp:(keyPart u).isSome=true:=by
  cases k with
  | inl i=>obtain⟨t,q⟩:=(show ∃t,u=Value.int i t from ry);subst q;rfl
  | inr x=>obtain⟨t,q⟩:=(show ∃t,u=Value.str x t from ry);subst q;rfl
 have ha:argsOk "dict.pop" ⟨.ref a::u::more, []⟩:=by
  rcases hm with q | ⟨x,q⟩
  ·subst q;exact PySem.F.args_dict_pop_2 _ _
  ·subst q;exact PySem.F.args_dict_pop_3 _ _ _
 refine call_meetsIn PySem.F.slot_dict_pop dd.typeIs PySem.F.entry_dict_pop ha (meets_dict_pop_there (a_W X.prog X.w) a (e_5 ry) more hm hp)
  ⟨vs,w',dd,by rw[<-rel.length];exact z,hw,λh' dd' hs=>h w' _ ?_ rw'⟩
 have he:∃q,h'.get? a=some q:=let ⟨q,_,_,hq,_⟩:=dd';⟨q,hq⟩
 exact e_z I (by rw[e];exact True.intro) hs he (f_Q (r_x (h_r kvs k) z) hd (rel.drop k) dd')
theorem p_t {Q:Value->Shared->Prop} (I:Inv X pins σ H s) (e:Rd H a (.dK kvs)) (h:∀t s',Inv X pins σ H s'->Q (.int kvs.length t) s'):wpAny (model X.prog X.w) A (call (.builtin "len") [.ref a]) Q E s:=by
 obtain⟨z,hd,vs,rel,dd⟩:=g_a I.hok e
 refine call_len_dict hd dd (by rw[<-rel.length];rw[sizeLine_eq] at z;omega) ?_
 rw[<-rel.length]
 exact h _ _ (I.tok _)
end
def q_t (i:Expr):Prop:=∀ov iv,subscripted i false ov iv=operate [ov,iv] (getItem ov iv)
theorem n_j {prog:Program} {w:World} {A:Around} {E:Value->Shared->Prop} {s:Shared} {env:Env} {value slice:Expr} {pos:Pos} {T id:String} {Q:Value->Shared->Prop}
 (hl:typeLookup (.type T) "__getitem__"=pure (some (.builtin id))) (hs:q_t slice)
 (h:wpAny (model prog w) A (eval value env) (λo s₁=>wpAny (model prog w) A (eval slice env) (λi s₂=>s₂.TypeIs o T/\wpAny (model prog w) A (getItem o i) Q E s₂) E s₁) E s):
 wpAny (model prog w) A (eval (.Subscript value slice pos) env) Q E s:=by
 refine Subscript_ (wpAny_mono h (λo s₁ h₁=>wpAny_mono h₁ (λi s₂ h₂=> ?_) λ_ _ x=>x) λ_ _ x=>x)
 obtain⟨hT,h₂⟩:=h₂
 unfold subscriptTail
 refine wpAny_bind ?_
 rw[getitemInPython_of_ne hT.not_modules]
 refine wpAny_bind (wpAny_specialOf hT hl ?_)
 have fin:wpAny (model prog w) A (subscripted slice false o i) (λr s₃=>wpAny (model prog w) A (letTemporaryGo value o r >>= λ_=>pure r) Q E s₃) E s₂:=by
  rw[hs o i]
  exact wpAny_operating (wpAny_mono h₂ (λr s₃ h₃=>wpAny_bind (wpAny_letTemporaryGo (wpAny_pure h₃))) λ_ _ x=>x)
 first
  | exact wpAny_pure (wpAny_bind fin)
  | exact wpAny_bind (wpAny_pure (wpAny_bind fin))
  | exact wpAny_bind fin
theorem g_5 {X:Cx} {pins:List (Addr×Obj)} {σ:St} {H:Hp} {s:Shared} {a:Addr} {y:V} {o:Option V} (I:Inv X pins σ H s) (g:DGet H a y o):s.TypeIs (.ref a) "dict":=by
 rcases g with⟨kvs,k,e,_,_⟩ | ⟨kvs,k,b,e,_,_,_⟩
 ·obtain⟨_,_,vs,_,dd⟩:=g_a I.hok e
  exact dd.typeIs
 ·obtain⟨_,_,xs,_,dd⟩:=g_z I.hok e
  exact dd.typeIs
def p_D (td ty:TE):TE:=λσ H Q=>td σ H λx H1=>ty σ H1 λy H2=>∃a v,x= .ref a/\DGet H2 a y (some v)/\Q v H2
def q_V (ty td:TE):TE:=λσ H Q=>ty σ H λy H1=>td σ H1 λx H2=>∃a o,x= .ref a/\DGet H2 a y o/\Q (.bl o.isSome) H2
def n_h (ty td:TE):TE:=λσ H Q=>ty σ H λy H1=>td σ H1 λx H2=>∃a o,x= .ref a/\DGet H2 a y o/\Q (.bl (!o.isSome)) H2
def p_8 (td ty tv:TE):TS:=λD σ H=>tv σ H λv H1=>td σ H1 λx H2=>ty σ H2 λy H3=>∃a H4,x= .ref a/\DPut H3 a y v H4/\D.nx σ H4
section
variable {X:Cx} {o i e value:Expr} {pos pos' tpos:Pos} {td ty tv:TE}
theorem b_j (hu:X.A.units+1 < cLine) (ho:PE X o td) (hi:PE X i ty) (hs:q_t i):PE X (.Subscript o i pos) (p_D td ty):=by
 intro pins s σ H Q I h
 refine n_j PySem.F.slot_dict_getitem.lookup hs (thn (ho pins s σ H _ I h) λu s1 ⟨x,H1,I1,rx,q1⟩=>thn (hi pins s1 σ H1 _ I1 q1) λiv s2 ⟨y,H2,I2,ry,a,v,ex,g,q2⟩=> ?_)
 subst ex
 obtain rfl:u=Value.ref a:=rx
 exact⟨g_5 I2 g,i_C hu I2 g ry λw' s3 I3 rw'=>⟨v,H2,I3,rw',q2⟩⟩
theorem l_Q (hu:X.A.units+1 < cLine) (hi:PE X i ty) (ho:PE X o td):PC X .In i o (q_V ty td):=by
 intro pins s σ H Q I h
 refine thn (hi pins s σ H _ I h) λiv s1 ⟨y,H1,I1,ry,q1⟩=>thn (ho pins s1 σ H1 _ I1 q1) λu s2 ⟨x,H2,I2,rx,a,ov,ex,g,q2⟩=> ?_
 subst ex
 obtain rfl:u=Value.ref a:=rx
 exact q_R hu I2 g ry λs3 I3=>⟨.bl ov.isSome,H2,I3,rfl,q2⟩
theorem c_6 (hu:X.A.units+1 < cLine) (hi:PE X i ty) (ho:PE X o td):PC X .NotIn i o (n_h ty td):=by
 intro pins s σ H Q I h
 refine thn (hi pins s σ H _ I h) λiv s1 ⟨y,H1,I1,ry,q1⟩=>thn (ho pins s1 σ H1 _ I1 q1) λu s2 ⟨x,H2,I2,rx,a,ov,ex,g,q2⟩=> ?_
 subst ex
 obtain rfl:u=Value.ref a:=rx
 exact m_Z hu I2 g ry λs3 I3=>⟨.bl (!ov.isSome),H2,I3,rfl,q2⟩
theorem d_9 (hu:X.A.units+1 < cLine) (ho:PE X o td) (hi:PE X i ty) (hv:PE X value tv) (hs:swapsWith value (some (.Subscript o i pos')) pos.line X.env=pure false):
 PS X (.Assign [.Subscript o i pos'] value pos) (p_8 td ty tv):=by
 intro pins s σ H D I h
 refine wpAny_Assign_Subscript (thn (hv pins s σ H _ I h) λr s1 ⟨v,H1,I1,rv,q1⟩=>thn (ho pins s1 σ H1 _ I1 q1) λu s2 ⟨x,H2,I2,rx,q2⟩=>thn (hi pins s2 σ H2 _ I2 q2) λiv s3 ⟨y,H3,I3,ry,a,H4,ex,g,q3⟩=> ?_) hs
 subst ex
 obtain rfl:u=Value.ref a:=rx
 exact i_E hu I3 g ry rv λs4 I4=>⟨σ,H4,I4,q3⟩
end
theorem h_U {P:Program} {w:World} {H:Hp} (h:Heap) (hb:sysModules < h.objs.size):ObjOk P w H (h.push { cls:= .type "dict",data:= .dict #[] }) h.objs.size (.dK []):=
 ⟨r_E _,beq_eq_false_iff_ne.mpr (Ne.symm (r_A hb)), [],.nil,Heap.DictOf.new h⟩
def o_U:TE:=λ_ H Q=>∀p,H p=none->Q (.ref p) (upd H p (.dK []))
section
variable {X:Cx} {pos:Pos}
theorem h_L:PE X (.Dict [] [] pos) o_U:=λpins s σ H Q I h=>
 wpAny_Dict_empty ⟨.ref s.heap.objs.size,_,I.laid (a:=s.heap.objs.size) (o:= .dK []) (t':=s.toks) (λ_ _ q=>Heap.get?_push_of_some _ q) (r_l _) (h_U s.heap I.big),rfl,h _ (I.hok.fresh (r_l _))⟩
end
def j_y:List (TE×TE)->St->Hp->(List (V×V)->Hp->Prop)->Prop
 | [],_,H,Q=>Q [] H
 | (tk,tv)::r,σ,H,Q=>tk σ H λx H1=>tv σ H1 λy H2=>j_y r σ H2 λps H3=>Q ((x,y)::ps) H3
abbrev VV:List (V×V)->List (Value×Value)->Prop:=Paired λp q=>RelV p.1 q.1/\RelV p.2 q.2
def PPs (X:Cx) (pos:Pos) (keys:List (Option Expr)) (values:List Expr) (trs:List (TE×TE)):Prop:=
 ∀(pins:List (Addr×Obj)) (s:Shared) (σ:St) (H:Hp) (Q:List (V×V)->Hp->Prop),Inv X pins σ H s->j_y trs σ H Q->
  wpAny (model X.prog X.w) X.A (evalPairs (pairTrees keys values X.env pos)) (λvs s'=>∃ps H',Inv X pins σ H' s'/\VV ps vs/\Q ps H') X.xe s
theorem n_C {X:Cx} {pos:Pos}:PPs X pos [] [] []:=λpins s σ H Q I h=>pairTrees_nil_walk ⟨[],H,I,.nil,h⟩
theorem f_y {X:Cx} {pos:Pos} {k v:Expr} {ks:List (Option Expr)} {vs:List Expr} {tk tv:TE} {trs:List (TE×TE)} (hk:PE X k tk) (hv:PE X v tv) (hr:PPs X pos ks vs trs):
 PPs X pos (some k::ks) (v::vs) ((tk,tv)::trs):=λpins s σ H Q I h=>
 pairTrees_cons_walk (thn (hk pins s σ H _ I h) λu s1 ⟨x,H1,I1,rx,q1⟩=>thn (hv pins s1 σ H1 _ I1 q1) λw2 s2 ⟨y,H2,I2,ry,q2⟩=>
  thn (hr pins s2 σ H2 _ I2 q2) λws s3 ⟨ps,H3,I3,rel,q3⟩=>⟨(x,y)::ps,H3,I3,.cons ⟨rx,ry⟩ rel,q3⟩)
def e_g (kvs more:List (Key×V)):List (Key×V):=more.foldl (λacc kv=>d_k acc kv.1 kv.2) kvs
theorem KV.merge:∀{more:List (Key×V)} {rs:List (Key×Value)} {kvs:List (Key×V)} {vs:List (Key×Value)},KV more rs->KV kvs vs->KV (e_g kvs more) (merged vs rs):=by
 intro more rs kvs vs r
 unfold KV at r
 induction r generalizing kvs vs with
 | nil=>intro q;exact q
 | @cons p q ps qs h t ih=>
   intro r0
   have e:KV (d_k kvs p.1 p.2) (stored vs q.1 q.2):=by
    have:=r0.put p.1 h.2
    rw[<-h.1];exact this
   exact ih e
theorem c_9:∀(more kvs:List (Key×V)),(e_g kvs more).length<=kvs.length+more.length
 | [],kvs=>by show kvs.length<=kvs.length+0;omega
 | p::r,kvs=>by
   have h1:=c_9 r (d_k kvs p.1 p.2)
   have h2:=c_Q kvs p.1 p.2
   show (e_g (d_k kvs p.1 p.2) r).length<=_
   rw[r_i];omega
theorem e_K {P:Program} {w:World}:∀{kvs:List (Key×V)} {ws:List (Value×Value)},VV (kvs.map λkv=>(kV kv.1,kv.2)) ws->∃rs,Carries (a_W P w) ws rs/\KV kvs rs
 | [],_,r=>by rw[List.map_nil] at r;cases r;exact⟨[],True.intro,.nil⟩
 | p::kvs,_,r=>by
   rw[r_r] at r
   cases r with
   | @cons a b as bs h t=>
     obtain⟨rs,c,q⟩:=e_K (P:=P) (w:=w) t
     obtain⟨b1,b2⟩:=b
     exact⟨(p.1,b2)::rs,⟨e_5 h.1,rfl,c⟩,.cons ⟨rfl,h.2⟩ q⟩
def p_u (trs:List (TE×TE)):TE:=λσ H Q=>∀p,H p=none->j_y trs σ (upd H p (.dK [])) λps H2=>H2 p=some (.dK [])/\∃kvs:List (Key×V),ps=kvs.map (λkv=>(kV kv.1,kv.2))/\kvs.length<=15/\Q (.ref p) (upd H2 p (.dK (e_g [] kvs)))
theorem m_i {X:Cx} {pos:Pos} {keys:List (Option Expr)} {values:List Expr} {trs:List (TE×TE)} (h:PPs X pos keys values trs) (hall:keys.all (·.isSome)=true) (hl:keys.length=values.length) (h0:keys≠ [])
 (h15:keys.length<=15):PE X (.Dict keys values pos) (p_u trs):=by
 intro pins s σ H Q I q
 have hn:=I.hok.fresh (r_l s.heap.objs.size)
 have I1:=I.laid (a:=s.heap.objs.size) (o:= .dK []) (h':=s.heap.push { cls:= .type "dict",data:= .dict #[] }) (t':=s.toks) (λ_ _ q=>Heap.get?_push_of_some _ q) (r_l _) (h_U s.heap I.big)
 refine wpAny_Dict_walk (knd:=a_W X.prog X.w) hall hl h0 h15 (thn (h pins _ σ _ _ I1 (q _ hn)) λws s2 ⟨ps,H2,I2,rel,e,kvs,ep,lk,q2⟩=> ?_)
 subst ep
 obtain⟨rs,c,rk⟩:=e_K (P:=X.prog) (w:=X.w) rel
 obtain⟨z,hd,vs0,r0,dd⟩:=i_j I2.hok e
 cases r0
 refine⟨rs,c,dd,λh' dd' hs=>⟨.ref s.heap.objs.size,_,?_, rfl,q2⟩⟩
 have hz:(e_g [] kvs).length<=sizeLine:=by
  have h1:=c_9 kvs []
  rw[r_M] at h1
  rw[sizeLine_eq];omega
 have he:∃q,h'.get? s.heap.objs.size=some q:=let ⟨q,_,_,hq,_⟩:=dd';⟨q,hq⟩
 exact e_z I2 (by rw[e];exact True.intro) hs he (f_Q hz hd (rk.merge .nil) dd')
structure M1 (X:Cx) (o:Expr) (m:Str) (apos:Pos) (e:Expr) (cpos:Pos):Prop where
 base:attributeBase o m X.env (eval o X.env)=eval o X.env
 few:((backTo cpos (starEach [e] X.env)).all (λx=> !x.1)&&(backToKw cpos (keywordEach [] X.env)).all (λx=>x.1.isSome)
  &&decide (([e]:List Expr).length+([]:List Keyword).length+(if ([]:List Keyword).isEmpty then 0 else 1) < 30))=true
 line:(apos.endLine == cpos.line)=true
 trees:backTo cpos (starEach [e] X.env)= [(false,eval e X.env)]
structure M2 (X:Cx) (o:Expr) (m:Str) (apos:Pos) (e f:Expr) (cpos:Pos):Prop where
 base:attributeBase o m X.env (eval o X.env)=eval o X.env
 few:((backTo cpos (starEach [e,f] X.env)).all (λx=> !x.1)&&(backToKw cpos (keywordEach [] X.env)).all (λx=>x.1.isSome)
  &&decide (([e,f]:List Expr).length+([]:List Keyword).length+(if ([]:List Keyword).isEmpty then 0 else 1) < 30))=true
 line:(apos.endLine == cpos.line)=true
 trees:backTo cpos (starEach [e,f] X.env)= [(false,eval e X.env),(false,eval f X.env)]
def IsD (H:Hp) (a:Addr):Prop:=(∃kvs,Rd H a (.dK kvs))\/∃kvs,Rd H a (.dT kvs)
theorem m_d {X:Cx} {pins:List (Addr×Obj)} {σ:St} {H:Hp} {s:Shared} {a:Addr} (I:Inv X pins σ H s) (d:IsD H a):
 s.TypeIs (.ref a) "dict"/\(∀b,Value.ref a= .ref b->∃ob,s.heap.get? b=some ob/\ob.dict=none)/\(a == sysModules)=false:=by
 rcases d with⟨kvs,e⟩ | ⟨kvs,e⟩
 ·obtain⟨_,hd,vs,_,dd⟩:=g_a I.hok e
  refine⟨dd.typeIs,λb q=> ?_, hd⟩
  cases q
  obtain⟨ob,_,_,h1,h2,_⟩:=dd
  exact⟨ob,h1,h2.2.1⟩
 ·obtain⟨_,hd,xs,_,dd⟩:=g_z I.hok e
  refine⟨dd.typeIs,λb q=> ?_, hd⟩
  cases q
  obtain⟨ob,_,_,h1,h2,_⟩:=dd
  exact⟨ob,h1,h2.2.1⟩
section
variable {X:Cx} {pins:List (Addr×Obj)} {σ:St} {H:Hp} {s:Shared} {a:Addr} {y d:V} {u r:Value} {o:Option V} {A:Around} {E:Value->Shared->Prop}
theorem o_x {Q:Value->Shared->Prop} (hu:A.units+1 < cLine) (I:Inv X pins σ H s) (g:DGet H a y o) (ry:RelV y u) (rd:RelV d r) (h:∀w' s',Inv X pins σ H s'->RelV (o.getD d) w'->Q w' s'):
 wpAny (model X.prog X.w) A (call (.builtin "dict.get") [.ref a,u,r]) Q E s:=by
 rcases g with⟨kvs,k,e,ey,l⟩ | ⟨kvs,k,b,e,ey,eb,l⟩
 ·subst ey
  obtain⟨z,hd,vs,rel,dd⟩:=g_a I.hok e
  refine call_meetsIn PySem.F.slot_dict_get dd.typeIs PySem.F.entry_dict_get (PySem.F.args_dict_get_3 _ _ _) (meets_dict_get_default (a_W X.prog X.w) a (e_5 ry) hd r) ⟨_,dd.mapOf,h _ _ (I.tok _) ?_⟩
  rw[l]
  exact (rel.val k).getD rd
 ·subst ey
  cases (show u=Value.ref b from ry)
  obtain⟨z,hd,xs,rel,dd⟩:=g_z I.hok e
  refine call_meetsIn PySem.F.slot_dict_get dd.typeIs PySem.F.entry_dict_get (PySem.F.args_dict_get_3 _ _ _) (meetsH_dict_get_default (tupleKind (a_W X.prog X.w)) a b hd r) ⟨tupleKind_room_in1 hu,k,xs,e_T I.hok eb,dd,h _ _ (I.tok _) ?_⟩
  rw[l]
  exact (rel.val k).getD rd
end
def o_A (td ty tx:TE):TE:=λσ H Q=>td σ H λx H1=>∃a,x= .ref a/\IsD H1 a/\ty σ H1 λy H2=>tx σ H2 λz H3=>∃o,DGet H3 a y o/\Q (o.getD z) H3
def o_K (td ty:TE):TE:=λσ H Q=>td σ H λx H1=>∃a,x= .ref a/\IsD H1 a/\ty σ H1 λy H2=>∃kvs k v,H2 a=some (.dK kvs)/\y=kV k/\d_u kvs k=some v/\Q v (upd H2 a (.dK (d_s kvs k)))
section
variable {X:Cx} {o e f:Expr} {apos cpos:Pos} {td ty tx:TE}
theorem k_D (hu:X.A.units+1 < cLine) (ho:PE X o td) (he:PE X e ty) (hf:PE X f tx) (m:M2 X o "get" apos e f cpos):PE X (.Call (.Attribute o "get" apos) [e,f] [] cpos) (o_A td ty tx):=by
 intro pins s σ H Q I h
 refine wpAny_Call_method m.base m.few m.line PySem.F.plainAttrs_dict PySem.F.slot_dict_get PySem.F.type_dict_get (thn (ho pins s σ H _ I h) λu s1 ⟨x,H1,I1,rx,a,ex,d,q1⟩=> ?_)
 subst ex
 obtain rfl:u=Value.ref a:=rx
 obtain⟨t1,t2,_⟩:=m_d I1 d
 refine⟨t1,t2,?_⟩
 rw[m.trees]
 refine Calls.callWith_builtin rfl (Calls.evalArgs_plain (Calls.spliced_cons (thn (he pins s1 σ H1 _ I1 q1) λiv s2 ⟨y,H2,I2,ry,q2⟩=>
  Calls.spliced_cons (thn (hf pins s2 σ H2 _ I2 q2) λfv s3 ⟨z,H3,I3,rz,ov,g,q3⟩=>Calls.spliced_nil ?_))))
 exact o_x hu I3 g ry rz λw' s4 I4 rw'=>⟨_,H3,I4,rw',q3⟩
theorem h_T (ho:PE X o td) (he:PE X e ty) (m:M1 X o "pop" apos e cpos):PE X (.Call (.Attribute o "pop" apos) [e] [] cpos) (o_K td ty):=by
 intro pins s σ H Q I h
 refine wpAny_Call_method m.base m.few m.line PySem.F.plainAttrs_dict PySem.F.slot_dict_pop PySem.F.type_dict_pop (thn (ho pins s σ H _ I h) λu s1 ⟨x,H1,I1,rx,a,ex,d,q1⟩=> ?_)
 subst ex
 obtain rfl:u=Value.ref a:=rx
 obtain⟨t1,t2,_⟩:=m_d I1 d
 refine⟨t1,t2,?_⟩
 rw[m.trees]
 refine Calls.callWith_builtin rfl (Calls.evalArgs_plain (Calls.spliced_cons (thn (he pins s1 σ H1 _ I1 q1) λiv s2 ⟨y,H2,I2,ry,kvs,k,v,ea,ey,l,q2⟩=>Calls.spliced_nil ?_)))
 subst ey
 exact p_m I2 ea ry l (.inl rfl) λw' s3 I3 rw'=>⟨v,_,I3,rw',q2⟩
end
section
variable {X:Cx} {pins:List (Addr×Obj)} {σ:St} {H:Hp} {s:Shared} {a:Addr} {kvs:List (Key×V)} {A:Around} {E:Value->Shared->Prop}
end
section
variable {X:Cx} {pins:List (Addr×Obj)} {σ:St} {H:Hp} {s:Shared} {a:Addr} {y:V} {u:Value} {A:Around} {E:Value->Shared->Prop}
end
end L2
namespace Att
open PySem PySem.W PySem.Calls PyProof.Rows
theorem e_y {P:Params} {h:Heap}:∀(ns:List Int) (vs:List Value),WellAll P h vs (ns.map WData.int)->IntsAre vs ns:=by
 intro ns
 induction ns with
 | nil=>
   intro vs w
   rw[List.map_nil] at w
   cases w
   exact .nil
 | cons n ns ih=>
   intro vs w
   rw[r_r] at w
   cases w with
   | cons a b=>
     cases a
     exact .cons _ _ (ih _ b)
theorem i_4 {l:OpenLaw} {n:Nat} (hn:l.most=some n) {P:Params} {h:Heap} {args:List WData} {vals:List Value}
 (hpre:l.row.toRowW.claim.pre args=true) (hwl:WellAll P h vals args):
 ∃a vs ns,vals= [Value.ref a]/\args= [WData.list (ns.map WData.int)]/\h.get? a=some { cls:= .type "list",data:= .seq vs.toArray }/\IntsAre vs ns/\ns.length<=n:=by
 have hsh:WShape.hasAll [] args [.list .int]=true:=(pre_splitW hpre).1
 have hc:l.pre.holds [] { args:=args }=true:=(pre_splitW hpre).2
 obtain⟨d,r,rfl,h1,h2⟩:=hasAllW_cons hsh
 obtain rfl:=hasAllW_nil h2
 obtain⟨xs,rfl,h3⟩:=hasW_list h1
 obtain⟨ns,rfl⟩:=items_int h3
 have hlen:ns.length<=n:=by
  unfold OpenLaw.pre at hc
  have h4:(WTm.not (.lt (.lit (.int (n:Int))) (.len (.arg 0)))).holds [] { args:= [.list (ns.map .int)] }=true:=by
   have h4:=(holds_andW hc).1
   rw[hn] at h4
   exact h4
  have h5:=condW_of h4 (w_not (w_lt w_lit (w_len_list (w_arg rfl))))
  rw[r_c] at h5
  refine Nat.le_of_not_lt λq=> ?_
  have q':(n:Int) < ((ns.length:Nat):Int):=by omega
  first
   | (rw[r_S q'] at h5;exact absurd h5 (by decide))
   | (simp at h5;omega)
 cases hwl with
 | cons w1 w2=>
   cases w2
   cases w1 with
   | list ho hall=>exact⟨_,_,ns,rfl,rfl,ho,e_y ns _ hall,hlen⟩
theorem j_s (l:OpenLaw) (args:List WData):l.row.toRowW.claim.post args (.bool true) args=true:=
 postW_of (r:=l.row.toRowW) (X:=(true == true))
  (show WShape.has [] (.bool true) .bool=true by first | rfl | decide | simp[WShape.has,WShape.arms,WShape.armsAll])
  (show (WTm.eq .res (.lit (.bool true))).value [] { args:=args,res:=some (.bool true),after:=args }=some (.bool (true == true)) from w_eq_bool (w_res rfl) w_lit) rfl
theorem attach_call {l:OpenLaw} {n:Nat} {q:Program} {loose:List Str} {XP:(Str->Option Value)->Heap->Prop} {YP:World->Heap->Prop} {d:DefRec}
 (hn:l.most=some n) (hdf:d.params.defaults= [])
 (call:∀(w:World) (s₀ s₁:Shared) (mg mb:Str→Option Value) (fa:Addr) (o:Obj) (pm cd doc:Value) (a:Addr) (vs:List Value) (ns:List Int),
   Ground q loose [] XP w s₀ mg mb s₁.heap->YP w s₁.heap->
   s₁.heap.get? fa=some o->o.data= .func (docDef d.name d.params d.body d.scope pm cd doc)->s₁.heap.CodeRec cd d.name->mg d.name=some (.ref fa)->
   s₁.heap.get? a=some { cls:= .type "list",data:= .seq vs.toArray }->IntsAre vs ns->ns.length<=n->s₁.gens= #[]->
   codeAny (model l.prog w) callerA (.call (.ref fa) ⟨[.ref a], []⟩) (λr s'=>r= .ok (.ret (.bool true))/\OldK s₁.heap s'.heap/\s'.os=s₁.os/\AllBare s'.gens) s₁):
 WalkO q loose XP YP l.row.toRowW d [] (λf vs=>PySem.call f vs):=by
 intro w s₀ s₁ mg mb G Y fa o pm cd doc dV kV ho hd hcd hD hmg hg args vals as hpre hlay hrd hwl hlo
 obtain rfl:dV= .none:=Dflts.none hD hdf
 obtain rfl:kV= .none:=Dflts.noKw hD
 obtain⟨a,vs,ns,rfl,rfl,hobj,hints,hlen⟩:=i_4 hn hpre hwl
 refine enter_call (codeAny_mono (call w s₀ s₁ mg mb fa o pm cd doc a vs ns G Y ho (fd_plain hd) hcd hmg hobj hints hlen hg) λr s' hq=> ?_)
 obtain⟨rfl,h2,h3,h4⟩:=hq
 exact⟨.inl ⟨.bool true,.bool true, [],rfl,λ_=>rfl,.bool true,j_s l _,λ_=>⟨List.Pairwise.nil,λ_ hm=>(nomatch hm)⟩⟩,h2,h3,h4⟩
section
variable {prog:Program} {w:World} {A:Around} {E:Value->Shared->Prop} {s:Shared} {K:Frag}
end
end Att
namespace L2
open PySem PySem.Spec PyProof.Rows
theorem g_r:∀{vs:List Value} {ns:List Int},IntsAre vs ns->Vals (ns.map V.int) vs
 | _,_,.nil=> .nil
 | _,_,.cons n t h=> .cons ⟨t,rfl⟩ (g_r h)
def p_Y (H:Hp):Prop:=∀b,H b=none\/∃o xs,H b=some (.frz o (.lst xs))
theorem k_x {P:Program} {w:World} {K:PySem.W.Frag} {mg mb:Str->Option Value} {CX:CXT} {k:Nat} {fa a:Addr} {fd:FuncData} {x:Str} {sp:Sp} {s₁:Shared} {vs:List Value} {ns:List Int}
 (KX:K.In s₁.heap) (hns:s₁.heap.Ns mainGlobals mg) (hb:s₁.heap.Ns builtinsNs mb) (hbb:∀x:Str,x≠"__name__"->mb x=bootBuiltins x) (hlim:s₁.heap.NoLimit) (hg:s₁.gens= #[])
 (ha:s₁.heap.get? a=some { cls:= .type "list",data:= .seq vs.toArray }) (hi:IntsAre vs ns) (hl:ns.length<=sizeLine) (hr:Room k callerA)
 (F:∀base:Heap,K.In base->base.Ns mainGlobals mg->FnOk P w K mg base CX k fa fd [x] sp) (hbind:∀(s:Shared) (u:Value),BindsTo s fd ⟨[u], []⟩ [(x,u)])
 (hsp:∀H:Hp,p_Y H->SqL K H a (ns.map V.int)->sp [.ref a] H (λv _=>v= .bl true) λ_ _ _=>False)
 (hCX:∀H e s',CX [] H s₁ (λ_ _ _=>False) e s'->False):
 codeAny (model P w) callerA (.call (.ref fa) ⟨[.ref a], []⟩) (λr s'=>r= .ok (.ret (.bool true))/\OldK s₁.heap s'.heap/\s'.os=s₁.os/\AllBare s'.gens) s₁:=by
 have rv:=g_r hi
 have lenV:=hi.length
 -- from an abstract heap in which nothing but the script may be tracked
 have core:∀H:Hp,p_Y H->SqL K H a (ns.map V.int)->HOk P w H s₁.heap->(∀b,H b≠none->b=a)->(H a≠none->K.lookup a=none)->
  codeAny (model P w) callerA (.call (.ref fa) ⟨[.ref a], []⟩) (λr s'=>r= .ok (.ret (.bool true))/\OldK s₁.heap s'.heap/\s'.os=s₁.os/\AllBare s'.gens) s₁:=by
  intro H hO hS hok hA hK
  have base_of:∀{b:Addr} {o:Obj},s₁.heap.get? b=some o->H b=none->(k_B s₁.heap H).get? b=some o:=λe n=>k_y e n
  have noA:∀{b:Addr} {o:Obj} {es:Array DictEntry} {ep:Nat},s₁.heap.get? b=some o->o.data= .dict es ep->H b=none:=λ{b o es ep} e d=>by
   cases q:H b with
   | none=>rfl
   | some u=>
     have e':b=a:=hA b (by rw[q];simp)
     subst e'
     rw[ha] at e;cases e
     have d':Data.seq vs.toArray _=Data.dict es ep:=d
     cases d'
  have nsK:∀{b:Addr} {m:Str->Option Value},s₁.heap.Ns b m->(k_B s₁.heap H).Ns b m:=λ{b m} ⟨o,es,ep,e,d,r⟩=>⟨o,es,ep,base_of e (noA e d),d,r⟩
  have hKb:K.In (k_B s₁.heap H):=λb o e=>base_of (KX b o e) (by
   cases q:H b with
   | none=>rfl
   | some u=>
     have e':b=a:=hA b (by rw[q];simp)
     subst e'
     rw[hK (by rw[q];simp)] at e;cases e)
  have hM:Mod K mg (k_B s₁.heap H):=⟨hKb,nsK hns,⟨mb,nsK hb,hbb⟩,let ⟨mc,h1,h2⟩:=hlim;⟨mc,nsK h1,h2⟩⟩
  have e0:Env0 P w K mg (k_B s₁.heap H) callerA [] s₁ H:=⟨rfl,hM,λb o e=>m_S e,Nat.le_of_eq (j_h _ _),trivial,λb hb=>absurd (show b∈([]:List Addr) from hb) (by simp),hok,.of_eq hg⟩
  refine codeAny_mono ((F _ hKb (nsK hns)).run callerA [] s₁ H ⟨[.ref a], []⟩ [.ref a] [.ref a] _ _ hr e0 (hbind s₁ (.ref a)) (.cons rfl .nil) (hsp H hO hS)) λr s' h=> ?_
  cases r with
  | error e=>exact (hCX H e s' h).elim
  | ok fl=>
    cases fl with
    | next=>exact False.elim h
    | brk=>exact False.elim h
    | cont=>exact False.elim h
    | ret u=>
      obtain⟨v,H',os,bare,un,hok',r',q⟩:=h
      have q':v= .bl true:=q
      subst q'
      obtain rfl:u=Value.bool true:=r'
      refine⟨rfl,OldK.of_keep λb o e=> ?_, os,bare⟩
      cases q:H b with
      | none=>exact un.keep b o e q (by intro z;exact absurd (show b∈([]:List Addr) from z) (by simp)) (by simp)
      | some u=>
        rcases hO b with z | ⟨ob,xs,z⟩
        ·rw[q] at z;cases z
        ·have z2:=un.frzs b ob _ z
         obtain⟨e1,_⟩:=hok b _ z
         obtain⟨e2,_⟩:=hok' b _ z2
         rw[e] at e1;cases e1
         exact e2
 cases hk:K.lookup a with
 | some o=>
   -- the script is one of the module's own objects
   have e:=KX a o hk
   rw[ha] at e
   cases e
   refine core (λ_=>none) (λ_=> .inl rfl) (.inr ⟨_,vs.toArray,_,hk,rfl,rfl,rfl,by rw[r_m,lenV];exact hl,by simpa using rv⟩) (λb u z=>by have z':(none:Option HO)=some u:=z;cases z') (λb z=>absurd rfl z) λz=>absurd rfl z
 | none=>
   refine core (λb=>if b=a then some (.frz { cls:= .type "list",data:= .seq vs.toArray } (.lst (ns.map V.int))) else none) (λb=> ?_) (.inl (.inr ⟨{ cls:= .type "list",data:= .seq vs.toArray },if_pos rfl⟩)) (λb u z=> ?_) (λb z=> ?_) λ_=>hk
   ·by_cases hb:b=a
    ·exact .inr ⟨_,_,if_pos hb⟩
    ·exact .inl (if_neg hb)
   ·by_cases hb:b=a
    ·have z':=(if_pos hb).symm.trans z
     cases z'
     subst hb
     exact⟨ha,by rw[r_c];exact hl,vs,_,rv,ha⟩
    ·have z':=(if_neg hb).symm.trans z
     cases z'
   ·by_cases hb:b=a
    ·exact hb
    ·exact absurd (if_neg hb) z
abbrev KOf {K:PySem.W.Frag} {h:Heap} (_:K.In h):PySem.W.Frag:=K
theorem m_B {l:PySem.W.OpenLaw} {n k:Nat} {q:Program} {loose:List Str} {XP:(Str->Option Value)->Heap->Prop} {YP:World->Heap->Prop} {d:DefRec} {K:Params->PySem.W.Frag} {CX:World->CXT} {sp:World->Sp} {x:Str}
 (hn:l.most=some n) (hn2:n<=sizeLine) (hdf:d.params.defaults= []) (hr:Room k callerA)
 (hY:∀(w:World) (h:Heap),YP w h->(K w.params).In h)
 (F:∀(w:World) (mg:Str→Option Value) (fa:Addr) (h:Heap),(K w.params).In h→h.Ns mainGlobals mg→mg d.name=some (.ref fa)→
   ∃fd:FuncData,(∀(s:Shared) (u:Value),BindsTo s fd ⟨[u], []⟩ [(x,u)])/\
    ∀base:Heap,(K w.params).In base->base.Ns mainGlobals mg->FnOk l.prog w (K w.params) mg base (CX w) k fa fd [x] (sp w))
 (hsp:∀(w:World) (H:Hp) (a:Addr) (ns:List Int),ns.length<=n->p_Y H->SqL (K w.params) H a (ns.map V.int)->sp w [.ref a] H (λv _=>v= .bl true) λ_ _ _=>False)
 (hCX:∀(w:World) (H:Hp) (s:Shared) (e:Value) (s':Shared),CX w [] H s (λ_ _ _=>False) e s'->False):
 PySem.W.WalkO q loose XP YP l.row.toRowW d [] (λf vs=>PySem.call f vs):=by
 refine Att.attach_call hn hdf λw s₀ s₁ mg mb fa o pm cd doc a vs ns G Y ho hd hcd hmg hobj hints hlen hg=> ?_
 have KX:=hY w _ Y
 obtain⟨fd,hb,hF⟩:=F w mg fa _ KX G.T.g hmg
 exact k_x KX G.T.g G.T.b G.T.builtins G.T.nolimit hg hobj hints (r_x hlen hn2) hr hF hb (λH hO hS=>hsp w H a ns hlen hO hS) λH e s'=>hCX w H s₁ e s'
end L2
namespace L2
open PySem PySem.Spec PyProof.Rows
def a_1 (s:Stmt) (j:Nat):Stmt:=match s with
 | .ClassDef _ _ _ body _ _ _ _ _ _ _=>body.getD j (.Pass ⟨0,0,0,0⟩)
 | _=> .Pass ⟨0,0,0,0⟩
def e_k (s:Stmt):Arguments:=match s with
 | .FunctionDef _ a _ _ _ _ _ _ _ _=>a
 | _=>{ posonlyargs:= [],args:= [],vararg:=none,kwonlyargs:= [],kw_defaults:= [],kwarg:=none,defaults:= [] }
def c_X (s:Stmt):List Stmt:=match s with
 | .FunctionDef _ _ b _ _ _ _ _ _ _=>b
 | _=> []
def a_m (s:Stmt):Scope:=match s with
 | .FunctionDef _ _ _ _ _ _ sc _ _ _=>sc
 | _=>{ kind:= .function,names:= [],isGenerator:=false,isCoroutine:=false }
abbrev CX0:CXT:=λ_ _ _ _ _ _=>False
abbrev E0:XK:=λ_ _ _=>False
theorem a_u {X:Cx}:c_m CX0 X E0:=λ_ _ _ _ _ _ _ h=>h.elim
structure Fun (K:PySem.W.Frag) (x qual:Str) (st:Stmt) (f:Addr) (fd:FuncData):Prop where
 ex:∃(oc:Value) (od:Option Addr) (kV doc pm:Value) (an:Option Addr) (cdv ct:Value) (osl:Array (Option Value)),
  fd=PySem.W.fnOf x qual (e_k st) (c_X st) (a_m st) .none kV doc pm an cdv ct/\K.lookup f=some ⟨oc,od,.func fd,osl⟩/\PySem.W.codeIn K cdv qual=true
 kp:PySem.W.keepIn K (.ref f)=true
section
variable {P:Program} {w:World} {K:PySem.W.Frag} {mg:Str->Option Value} {base:Heap}
theorem Fun.ok {x qual:Str} {st:Stmt} {f:Addr} {fd:FuncData} {N ps:List Str} {k:Nat} {sp:Sp} (F:Fun K x qual st f fd) (S:a_s N ps (a_m st)) (len:∀vs H Q E,sp vs H Q E->vs.length=ps.length)
 (hbody:∀(cdv:Value) (A:Around) (outer:List Env) (s:Shared) (H:Hp) (vs:List V) (Q:VK) (E:XK),Room k (A.deeper (envOfC qual (a_m st) s.heap.objs.size f cdv))→sp vs H Q E→
   ∃t,PSs (i_z CX0 P w K mg base N qual (a_m st) f cdv A outer s H E).nox (c_X st) t/\t { nx:=λ_ H'=>Q .non H',rt:=Q } (start N vs) H):FnOk P w K mg base CX0 (k+1) f fd ps sp:=by
 obtain⟨oc,od,kV,doc,pm,an,cdv,ct,osl,rfl,lk,hcd⟩:=F.ex
 refine o_X lk hcd S len λA outer s H vs Q E hr hsp=> ?_
 obtain⟨t,h,q⟩:=hbody cdv A outer s H vs Q E hr hsp
 exact⟨t,h.nox,q⟩
theorem Fun.binds {x qual:Str} {st:Stmt} {f:Addr} {fd:FuncData} {ps:List Str} (F:Fun K x qual st f fd)
 (h:∀(kV doc pm:Value) (an:Option Addr) (cdv ct:Value) (us:List Value),us.length=ps.length->bindArgs (PySem.W.fnOf x qual (e_k st) (c_X st) (a_m st) .none kV doc pm an cdv ct) ⟨us, []⟩=pure (ps.zip us)):Binds K fd ps []:=by
 obtain⟨oc,od,kV,doc,pm,an,cdv,ct,osl,rfl,lk,hcd⟩:=F.ex
 exact .all (h kV doc pm an cdv ct)
theorem a_B {x qual:Str} {st:Stmt} {f:Addr} {oc:Value} {od an:Option Addr} {osl:Array (Option Value)} {kV doc pm cdv ct:Value} (l:K.lookup f=some ⟨oc,od,.func (PySem.W.fnOf x qual (e_k st) (c_X st) (a_m st) .none kV doc pm an cdv ct),osl⟩)
 (c:PySem.W.codeIn K cdv qual=true) (k:PySem.W.keepIn K (.ref f)=true):Fun K x qual st f (PySem.W.fnOf x qual (e_k st) (c_X st) (a_m st) .none kV doc pm an cdv ct):=⟨⟨oc,od,kV,doc,pm,an,cdv,ct,osl,rfl,l,c⟩,k⟩
end
theorem e_G {A:Around} {k:Nat} (hr:Room k A):A.units+1 < cLine:=r_R (Nat.add_le_add_left (by decide:1<=64) _) hr.units
theorem a_G {n:Nat} (h:n<=1000):n < sizeLine:=r_R h (by decide)
section
variable {X:Cx}
theorem pv (i:Nat) {x:Str} {pos:Pos} (hN:X.N[i]? =some x:=by rfl) (hv:Vis X.env.scope x:=by first | exact Or.inl rfl | exact Or.inr (Or.inl rfl) | exact Or.inr (Or.inr rfl)) (hd:(x == ("__debug__":Str))=false:=by decide)
 (hcd:(x == ("__classdict__":Str))=false:=by decide):PE X (.Name x pos) (q_p i):=n_8 hN hv hd hcd
theorem f_G:d_a X (.builtin "len") (λxs H Q=>∃a kvs,xs= [V.ref a]/\H a=some (.dK kvs)/\Q (.int kvs.length) H):=by
 intro pins s σ H xs us Q I r h
 obtain⟨a,kvs,rfl,ha,q⟩:=h
 obtain⟨u,rfl,ru⟩:=i_k r
 cases ru
 exact p_t I (.inl ha) λt s' I'=>⟨.int kvs.length,H,I',⟨t,rfl⟩,q⟩
end
theorem g_u {A B:Prop} (h:B):if false=true then A else B:=by
 rw[if_neg r_t]
 exact h
theorem k_w {A B:Prop} (h:A):if true=true then A else B:=by
 rw[if_pos rfl]
 exact h
theorem a_x {c A B:Prop} [Decidable c] (h1:c->A) (h2:¬ c->B):if c then A else B:=by
 by_cases h:c
 ·rw[if_pos h]
  exact h1 h
 ·rw[if_neg h]
  exact h2 h
theorem o_w {c A B:Prop} [Decidable c] (hc:c) (h:B):if (!decide c)=true then A else B:=by
 rw[r_S hc]
 exact g_u h
def Same (H H':Hp):Prop:=∀b o,H b=some o->H' b=some o
theorem Same.refl (H:Hp):Same H H:=λ_ _ h=>h
theorem Same.trans {H H1 H2:Hp} (a:Same H H1) (b:Same H1 H2):Same H H2:=λc o h=>b c o (a c o h)
theorem Same.free {H H':Hp} (e:Same H H') {l:Addr} (h:H' l=Option.none):H l=Option.none:=by
 cases q:H l with
 | none=>rfl
 | some o=>
   rw[e l o q] at h
   cases h
theorem Same.seq {K:PySem.W.Frag} {H H':Hp} {a:Addr} {xs:List V} (e:Same H H') (h:SqL K H a xs):SqL K H' a xs:=by
 rcases h with (h | ⟨o,h⟩) | h
 ·exact .inl (.inl (e _ _ h))
 ·exact .inl (.inr ⟨o,e _ _ h⟩)
 ·exact .inr h
section
variable {κ:Type} [DecidableEq κ]
end
end L2
namespace K1
open PySem L2
def top (i:Nat):Stmt:=PySem.Challenge.pw_twoorders_k06_whole_all_or_none.main.body.getD i (.Pass ⟨0,0,0,0⟩)
abbrev sCW:Stmt:=top 10
abbrev m_k:Stmt:=top 11
abbrev p_j:Stmt:=top 12
abbrev j_r:Stmt:=top 38
abbrev sAt:Stmt:=top 39
abbrev n_L:Stmt:=top 40
abbrev j_0:Stmt:=top 41
abbrev j_V:Stmt:=top 42
abbrev q_a:Stmt:=top 43
abbrev m_P:Stmt:=top 55
abbrev g_U:Stmt:=top 56
abbrev g_N:Stmt:=top 57
abbrev g_O:Stmt:=top 58
abbrev i_X:Stmt:=top 59
abbrev p_U:Stmt:=top 63
abbrev d_8:Stmt:=top 44
abbrev c_R:Stmt:=top 45
abbrev d_5:Stmt:=top 46
abbrev f_o:Stmt:=top 47
abbrev d_V:Stmt:=top 48
abbrev h_d:Stmt:=top 49
abbrev f_n:Stmt:=top 50
abbrev c_T:Stmt:=top 51
abbrev m_n:Stmt:=top 52
abbrev d_q:Stmt:=top 53
abbrev d_6:Stmt:=top 54
abbrev b_Y:Stmt:=top 60
abbrev g_J:Stmt:=top 61
abbrev g_A:Stmt:=top 62
abbrev f_q:Stmt:=top 14
abbrev g_y:Stmt:=top 15
abbrev m_m:Stmt:=top 16
abbrev f_v:Stmt:=top 17
abbrev m_D:Stmt:=top 18
abbrev n_n:Stmt:=top 19
abbrev e_4:Stmt:=top 29
abbrev j_Q:Stmt:=top 30
abbrev j_l:Stmt:=top 31
abbrev j_R:Stmt:=top 32
abbrev p_o:Stmt:=top 33
abbrev p_X:Stmt:=top 34
abbrev dDo:Stmt:=top 35
abbrev p_2:Stmt:=top 36
abbrev sC:Stmt:=top 23
abbrev m_T:Stmt:=a_1 sC 0
abbrev n_a:Stmt:=a_1 sC 1
abbrev p_w:Stmt:=a_1 sC 2
abbrev n_x:Stmt:=a_1 sC 3
abbrev j_1:Stmt:=a_1 sC 4
abbrev m_2:Stmt:=a_1 sC 5
abbrev sBA:Stmt:=a_1 sC 6
abbrev sRA:Stmt:=a_1 sC 7
abbrev j_e:Stmt:=a_1 sC 8
abbrev m_F:Stmt:=a_1 sC 9
abbrev sSC:Stmt:=top 25
abbrev n_t:Stmt:=a_1 sSC 0
abbrev k_n:Stmt:=a_1 sSC 1
abbrev i_H:Stmt:=a_1 sSC 2
abbrev p_Z:Stmt:=a_1 sSC 3
abbrev j_6:Stmt:=a_1 sSC 4
abbrev m_3:Stmt:=a_1 sSC 5
abbrev i_J:Stmt:=a_1 sSC 6
abbrev i_7:Stmt:=a_1 sSC 7
abbrev p_T:Stmt:=a_1 sSC 8
abbrev g_C:Stmt:=a_1 sSC 9
abbrev m_1:Stmt:=a_1 sSC 10
end K1
namespace PySem.SeqAt
open AutoSeq1 (wpAny_loadPart')
open MeetsSeq MeetsSeq2 MeetsSeq3 SeqRoads2
theorem f_b (l:Addr) (items:Array Value) (n:Nat) (x:Value) (e:Value->Bool) (j:Nat) (hj:j < items.size) (hit:e items[j]=true) (k:Nat) (hs1:items.size<=sizeLine):
 ∀i:Nat,j - i=k->i<=j->(∀m (hm:m < items.size),i<=m->m < j->e items[m]=false)->Meets (Builtin.«list.remove.loop» ⟨[.ref l,x,rawInt i], []⟩)
  (λA R s=>s.heap.get? l=some { cls:= .type "list",dict:=none,data:= .seq items n,slots:= #[] }/\(∀y,y∈items->EqAt A.in1 s y x (e y))/\R (.ok (.ret .none)) { s with heap:=s.heap.update l (Obj.mapSeq λxs=>xs.eraseIdxIfInBounds j) }):=by
 induction k with
 | zero=>
   intro i hk hij hno prog w A R s h
   obtain⟨hp,g,d,tk,os⟩:=s;obtain⟨hl,he,h⟩:=h
   have hij':i=j:=by omega
   subst hij'
   wp_walk using wpAny_loadPart' hl
   have hi:items[((i:Nat):Int).toNat]? =some items[i]:=by simp[hj]
   rw[hi]
   refine wpAny_bind (he _ (Array.getElem_mem hj) prog w _ _ ?_)
   rw[hit]
   have hz':(items.eraseIdxIfInBounds i).size<=sizeLine+1:=r_x (size_erased items _) (Nat.le_succ_of_le hs1)
   wp_walk using (wpAny_updateSeq hl rfl (hz:=hs1) (_hz':=hz')),wpAny_loadPart' hl
   simpa using h
 | succ k ih=>
   intro i hk hij hno prog w A R s h
   obtain⟨hp,g,d,tk,os⟩:=s;obtain⟨hl,he,h⟩:=h
   have hlt:i < items.size:=by omega
   wp_walk using wpAny_loadPart' hl
   have hi:items[((i:Nat):Int).toNat]? =some items[i]:=by simp[hlt]
   have hc:((i:Int)+1)=((i+1:Nat):Int):=by push_cast;rfl
   rw[hi]
   refine wpAny_bind (he _ (Array.getElem_mem hlt) prog w _ _ ?_)
   rw[hno i hlt (r_l _) (by omega)]
   wp_walk
   rw[hc]
   exact⟨plainId_quiet plain_remove_loop _,codeAny_builtin entry_remove_loop (by
    rw[Around.under_plainId plain_remove_loop _]
    exact ih (i+1) (by omega) (by omega) (λm hm h1 h2=>hno m hm (by omega) h2) prog w A R _ ⟨hl,he,h⟩)⟩
theorem list_removeAt (l:Addr) (items:Array Value) (n:Nat) (x:Value) (e:Value->Bool) (j:Nat) (hj:j < items.size)
 (hit:e items[j]=true) (hno:∀m (hm:m < items.size),m < j->e items[m]=false) (hs1:items.size<=sizeLine):
 Meets (Builtin.«list.remove» ⟨[.ref l,x], []⟩)
  (λA R s=>s.heap.get? l=some { cls:= .type "list",dict:=none,data:= .seq items n,slots:= #[] }/\(∀y,y∈items->EqAt A.in1 s y x (e y))/\R (.ok (.ret .none)) { s with heap:=s.heap.update l (Obj.mapSeq λxs=>xs.eraseIdxIfInBounds j) }):=by
 intro prog w A R s h
 obtain⟨hp,g,d,tk,os⟩:=s;obtain⟨hl,he,h⟩:=h
 wp_walk using wpAny_loadPart' hl
 exact⟨plainId_quiet plain_remove_loop _,codeAny_builtin entry_remove_loop (by
  rw[Around.under_plainId plain_remove_loop _]
  exact f_b l items n x e j hj hit _ hs1 0 rfl (r_E _) (λm hm _ h2=>hno m hm h2) prog w A R _ ⟨hl,he,h⟩)⟩
theorem list_extend_tupleAt (l:Addr) (items:Array Value) (n:Nat) (b:Addr) (items2:Array Value) (n2:Nat) (dd:Option Addr) (sl:Array (Option Value)) (hs0:¬(!items.isEmpty&&Builtin.List.listTooLong (items.size+items2.size))=true) (hs1:items.size<=sizeLine) (hs2:items.size+items2.size<=sizeLine+1):
 Meets (Builtin.«list.extend» ⟨[.ref l,.ref b], []⟩) (λ_ R s=>s.heap.get? l=some { cls:= .type "list",dict:=none,data:= .seq items n,slots:= #[] }/\s.heap.get? b=some { cls:= .type "tuple",dict:=dd,data:= .seq items2 n2,slots:=sl }/\R (.ok (.ret Value.none)) { s with heap:=s.heap.update l (Obj.mapSeq λx=>x++items2),toks:=s.toks }):=
 .of_wp λprog w A R s h=>by
  obtain⟨hp,g,d,tk,os⟩:=s;obtain⟨hl,hb,h⟩:=h;have f1:=AutoSeq1.idx_int;have f2:=AutoSeq1.sub_tuple_tuple;have f3:=AutoSeq1.sub_list_list;have f4:=AutoSeq1.sub_tuple_list;have f5:=AutoSeq1.sub_list_tuple;
  have hz':(items++items2).size<=sizeLine+1:=by rw[Array.size_append];exact hs2
  wp_walk using (wpAny_updateSeq hl rfl (hz:=hs1) (_hz':=hz')),wpAny_loadPart' hl,wpAny_loadPart' hb;exact⟨_,rfl,h⟩
end PySem.SeqAt
namespace L2
open PySem PySem.Spec PyProof.Rows
def ltV:V->V->Bool
 | .int a,.int b=>decide (a < b)
 | .str a,.str b=>decide (a.cps.toList < b.cps.toList)
 | _,_=>false
def b_g:V->V->Bool
 | .int _,.int _=>true
 | .str _,.str _=>true
 | _,_=>false
def e_h:List V->List V->Prop
 | x::xs,y::ys=>b_g x y=true/\e_h xs ys
 | _,_=>True
def b_b:List V->List V->Bool
 | [], []=>false
 | [],_::_=>true
 | _::_, []=>false
 | x::xs,y::ys=>if x=y then b_b xs ys else ltV x y
theorem b_h (x y:V) (xs ys:List V):b_b (x::xs) (y::ys)=if x=y then b_b xs ys else ltV x y:=rfl
theorem d_p {A:Around} {s:Shared} {x y:V} {u v:Value} (rx:RelV x u) (ry:RelV y v) (h:b_g x y=true):SeqAt.EqAt A s u v (decide (x=y)):=by
 cases x with
 | int a=>
   cases y with
   | int b=>
     obtain⟨t,rfl⟩:=rx
     obtain⟨t',rfl⟩:=ry
     rw[g_6]
     exact SeqAt.EqAt.int_int a t b t'
   | _=>cases h
 | str a=>
   cases y with
   | str b=>
     have e:=l_O (A:=A) (s:=s) rx ry rfl rfl
     rw[g_F]
     exact e
   | _=>cases h
 | _=>cases y <;> cases h
theorem h_M {prog:Program} {w:World} {A:Around} {E:Value->Shared->Prop} {s:Shared} {x y:V} {u v:Value} {Q:Value->Shared->Prop} (rx:RelV x u) (ry:RelV y v) (h:b_g x y=true) (q:Q (.bool (ltV x y)) s):
 wpAny (model prog w) A (compareOp .Lt u v) Q E s:=by
 cases x with
 | int a=>
   cases y with
   | int b=>
     obtain⟨t,rfl⟩:=rx
     obtain⟨t',rfl⟩:=ry
     exact lt_int q
   | _=>cases h
 | str a=>
   cases y with
   | str b=>
     obtain⟨t,rfl⟩:=rx
     obtain⟨t',rfl⟩:=ry
     exact lt_str q
   | _=>cases h
 | _=>cases y <;> cases h
section
open PySem.SeqAt
open PySem.AutoSeq1 (wpAny_loadPart')
open PySem.MeetsSeq PySem.MeetsSeq2 PySem.MeetsSeq3
theorem h_6 (l b:Addr) (items items2:Array Value) (n n2:Nat) (dd dd2:Option Addr) (sl sl2:Array (Option Value)) (xs ys:List V) (hi:Vals xs items.toList) (hj:Vals ys items2.toList) (ha:e_h xs ys):
 Meets (Builtin.«tuple.__lt__» ⟨[.ref l,.ref b], []⟩)
  (fun _ R s=>s.heap.get? l=some { cls:= .type "tuple",dict:=dd,data:= .seq items n,slots:=sl }∧s.heap.get? b=some { cls:= .type "tuple",dict:=dd2,data:= .seq items2 n2,slots:=sl2 }∧
    R (.ok (.ret (.bool (b_b xs ys)))) s):=
 .of_wp λprog w A R s h=>by
  obtain⟨hp,g,d,tk,os⟩:=s;obtain⟨hl,hb,h⟩:=h
  have f2:=AutoSeq1.sub_tuple_tuple
  have z1:items.size=xs.length:=by rw[hi.length];simp
  have z2:items2.size=ys.length:=by rw[hj.length];simp
  wp_walk using wpAny_loadPart' hl,wpAny_loadPart' hb,wpAny_forIn_list _ (λe_B b s'=>b.1=none/\s'=⟨hp,g,d,tk,os⟩/\∃(vs ws:List Value) (xs' ys':List V),e_B=vs.zip ws/\
   Vals xs' vs/\Vals ys' ws/\e_h xs' ys'/\xs'.length+items2.size=ys'.length+items.size/\R (.ok (.ret (.bool (b_b xs' ys')))) ⟨hp,g,d,tk,os⟩) _
  case turn=>
   rintro⟨y,x⟩ e_B b s' ⟨hb',rfl,vs,ws,xs',ys',hz,hvi,hwi,hal,hlen,hR⟩
   cases hvi with
   | nil=>rw[List.zip_nil_left] at hz;cases hz
   | @cons xa ua xr ur ra hvi'=>
     cases hwi with
     | nil=>rw[List.zip_nil_right] at hz;cases hz
     | @cons ya va yr vr rc hwi'=>
       rw[List.zip_cons_cons] at hz
       injection hz with hyx hrest
       injection hyx with hy hx
       subst hy hx
       rw[b_h] at hR
       simp only[r_i] at hlen
       refine wpAny_bind (d_p ra rc hal.1 prog w _ _ ?_)
       by_cases e:xa=ya
       ·rw[if_pos e] at hR
        rw[r_S e]
        wp_walk
        exact⟨rfl,rfl,_,_,_,_,hrest,hvi',hwi',hal.2,by omega,hR⟩
       ·rw[if_neg e] at hR
        rw[r_T e]
        have hri:∀(E:Value->Shared->Prop) (Q:Value->Shared->Prop),Q (.bool (ltV xa ya)) ⟨hp,g,d,tk,os⟩->wpAny (model prog w) A.in1 (richCompare .Lt _ _) Q E ⟨hp,g,d,tk,os⟩:=λE Q q=>h_M (A:=A.in1) ra rc hal.1 q
        wp_walk using hri
        exact⟨_,rfl,by simpa using hR⟩
  case fin=>
   rintro⟨b1,b2⟩ s' ⟨hb',rfl,vs,ws,xs',ys',hz,hvi,hwi,hal,hlen,hR⟩
   simp only at hb'
   subst hb'
   have hv:b_b xs' ys'=decide (items.size < items2.size):=by
    cases hvi with
    | nil=>
      cases hwi with
      | nil=>
        simp only[r_M] at hlen
        show false=_
        exact (r_T (by omega)).symm
      | cons rc hw=>
        simp only[r_M,r_i] at hlen
        show true=_
        exact (r_S (by omega)).symm
    | cons ra hv=>
      cases hwi with
      | nil=>
        simp only[r_M,r_i] at hlen
        show false=_
        exact (r_T (by omega)).symm
      | cons rc hw=>
        rw[List.zip_cons_cons] at hz
        cases hz
   rw[hv] at hR
   wp_walk
   exact⟨_,rfl,by simpa[Builtin.Tuple.tupleCompareSizes] using hR⟩
  case h=>
   exact⟨rfl,rfl,items.toList,items2.toList,xs,ys,rfl,hi,hj,ha,by omega,h⟩
end
section
variable {X:Cx}
theorem m_0 {prog:Program} {w:World} {A:Around} {E:Value->Shared->Prop} {s:Shared} {l b:Addr} {items items2:Array Value} {xs ys:List V} {Q:Value->Shared->Prop} (hl:IsTup s.heap l items) (hb:IsTup s.heap b items2) (hi:Vals xs items.toList) (hj:Vals ys items2.toList)
 (ha:e_h xs ys) (hu:A.units < cLine) (h:Q (.bool (b_b xs ys)) s):wpAny (model prog w) A (compareOp .Lt (.ref l) (.ref b)) Q E s:=by
 obtain⟨⟨cls,dd,data,sl⟩,ho,hc,n,hd⟩:=id hl
 obtain⟨⟨cls2,dd2,data2,sl2⟩,ho2,hc2,n2,hd2⟩:=id hb
 simp only at hc hd hc2 hd2
 subst hc hd hc2 hd2
 exact richCompare_meets_room (op:= .Lt) ⟨_,ho,rfl⟩ ⟨_,ho2,rfl⟩ PySem.F.slot_tuple_lt PySem.F.entry_tuple_lt (PySem.F.args_tuple_lt_2 _ _) (h_6 l b items items2 n n2 dd dd2 sl sl2 xs ys hi hj ha)
  ⟨ho,ho2,show Value.bool (b_b xs ys)≠Value.notImplemented/\Q (.bool (b_b xs ys)) s from ⟨(λx=>nomatch x),h⟩⟩ hu
def q_J (K:PySem.W.Frag):R2:=λx y H Q=>∃a b xs ys,x= .ref a/\y= .ref b/\SqT K H a xs/\SqT K H b ys/\e_h xs ys/\Q (.bl (b_b xs ys)) H
theorem j_M (hu:X.A.units < cLine):OpR X (compareOp .Lt) (q_J X.K):=by
 intro pins s σ H x y v u Q I rx ry h
 obtain⟨a,b,xs,ys,rfl,rfl,ha,hb,hal,q⟩:=h
 cases rx
 cases ry
 obtain⟨its,r,p,_⟩:=I.tuple ha
 obtain⟨its2,r2,p2,_⟩:=I.tuple hb
 exact m_0 p p2 (by simpa using r) (by simpa using r2) hal hu (a_K I q rfl)
def m_g (f:V->V->Bool):R2:=λx y H Q=>b_g x y=true/\Q (.bl (f x y)) H
theorem o_J:OpR X (compareOp .Gt) (m_g λx y=>ltV y x):=by
 intro pins s σ H x y v u Q I rx ry h
 obtain⟨hs,q⟩:=h
 cases x with
 | int a=>
   cases y with
   | int b=>obtain⟨t,rfl⟩:=rx;obtain⟨t',rfl⟩:=ry;exact gt_int (a_K I q rfl)
   | _=>cases hs
 | str a=>
   cases y with
   | str b=>obtain⟨t,rfl⟩:=rx;obtain⟨t',rfl⟩:=ry;exact PySem.P.gt_str (a_K I q rfl)
   | _=>cases hs
 | _=>cases y <;> cases hs
theorem o_t:OpR X (compareOp .GtE) (m_g λx y=> !ltV x y):=by
 intro pins s σ H x y v u Q I rx ry h
 obtain⟨hs,q⟩:=h
 cases x with
 | int a=>
   cases y with
   | int b=>obtain⟨t,rfl⟩:=rx;obtain⟨t',rfl⟩:=ry;exact ge_int (a_K I q (by show (!decide (a < b))=decide (b<=a);by_cases z:a < b <;> simp[z] <;> omega))
   | _=>cases hs
 | str a=>
   cases y with
   | str b=>obtain⟨t,rfl⟩:=rx;obtain⟨t',rfl⟩:=ry;exact PySem.P.ge_str (a_K I q rfl)
   | _=>cases hs
 | _=>cases y <;> cases hs
theorem l_1:OpR X (compareOp .LtE) (m_g λx y=> !ltV y x):=by
 intro pins s σ H x y v u Q I rx ry h
 obtain⟨hs,q⟩:=h
 cases x with
 | int a=>
   cases y with
   | int b=>obtain⟨t,rfl⟩:=rx;obtain⟨t',rfl⟩:=ry;exact le_int (a_K I q (by show (!decide (b < a))=decide (a<=b);by_cases z:b < a <;> simp[z] <;> omega))
   | _=>cases hs
 | str a=>
   cases y with
   | str b=>obtain⟨t,rfl⟩:=rx;obtain⟨t',rfl⟩:=ry;exact PySem.P.le_str (a_K I q rfl)
   | _=>cases hs
 | _=>cases y <;> cases hs
def m_x:V->List V->Hp->VK->Prop:=λx vs H Q=>∃l xs y,∃i:Int,x= .ref l/\vs= [.int i,y]/\H l=some (.lst xs)/\xs.length < sizeLine/\0<=i/\i<=xs.length/\Q .non (upd H l (.lst (xs.take i.toNat++y::xs.drop i.toNat)))
theorem f_J:MtM X "list.insert" m_x:=by
 intro pins s σ H x vs v us Q I rx rv h
 obtain⟨l,xs,y,i,rfl,rfl,hH,hz,hi0,hi,q⟩:=h
 cases rx
 obtain⟨u1,u2,rfl,ru1,ru2⟩:=rv.two
 obtain⟨t,rfl⟩:=ru1
 obtain⟨z,its,n,r,hl,e⟩:=I.lstM hH
 have l63:=e_s
 have h1: -(2 ^ 63)<=i:=by omega
 have h2:i < 2 ^ 63:=by omega
 have hf:¬ (!Builtin.List.listFitsIndex i)=true:=by
  rw[fitsIndex_both h1 h2]
  exact r_t
 have hsz:its.toArray.size<=sizeLine:=by rw[r_m];omega
 refine call_meets F.slot_list_insert ⟨_,e,rfl⟩ F.entry_list_insert (F.args_list_insert_3 _ _ _) (AutoSeq1.list_insert_list_int_val_1 l its.toArray n i t u2 hf hsz) ⟨e,?_⟩
 refine⟨.non,_,I.lset (its':=its.take i.toNat++u2::its.drop i.toNat) hH e ?_ (Vals.append (r.take i.toNat) (.cons ru2 (r.drop i.toNat))) ?_, rfl,q⟩
 ·show (its.toArray.extract 0 (if i < 0 then (i+(its.toArray.size:Int)).toNat else min i.toNat its.toArray.size)).push u2++its.toArray.extract (if i < 0 then (i+(its.toArray.size:Int)).toNat else min i.toNat its.toArray.size)=_
  rw[if_neg (by omega),r_m,Nat.min_eq_left (by omega)]
  simp[List.extract_eq_drop_take]
  exact r_w (by simp)
 ·simp only[r_e,r_i,r_y,List.length_drop]
  omega
def l_M (K:PySem.W.Frag) (neg:Bool):R2:=λx y H Q=>∃l b xs,x= .ref l/\y= .ref b/\SqL K H l xs/\H b=some (.lst [])/\Q (.bl (if neg then !xs.isEmpty else xs.isEmpty)) H
theorem h_N (hu:X.A.units < cLine):OpR X (compareOp .Eq) (l_M X.K false):=by
 intro pins s σ H x y v u Q I rx ry h
 obtain⟨l,b,xs,rfl,rfl,hl,hb,q⟩:=h
 cases rx
 cases ry
 obtain⟨its,r,p,_⟩:=I.list hl
 obtain⟨its2,r2,p2,_⟩:=I.list (SqL.of hb:SqL X.K H b [])
 cases r2
 cases xs with
 | nil=>
   cases r
   exact SeqAt.eq_listAt (e:=λ_=>true) p.isList p2.isList rfl hu (λj h1 _=>by simp at h1) (a_K I q (by simp))
 | cons a t=>
   cases r with
   | cons ra rt=>exact SeqAt.eq_list_lengthsAt p.isList p2.isList (by simp) hu (a_K I q rfl)
theorem l_p (hu:X.A.units < cLine):OpR X (compareOp .NotEq) (l_M X.K true):=by
 intro pins s σ H x y v u Q I rx ry h
 obtain⟨l,b,xs,rfl,rfl,hl,hb,q⟩:=h
 cases rx
 cases ry
 obtain⟨its,r,p,_⟩:=I.list hl
 obtain⟨its2,r2,p2,_⟩:=I.list (SqL.of hb:SqL X.K H b [])
 cases r2
 cases xs with
 | nil=>
   cases r
   exact SeqAt.RcNeAt.lists (A:=X.A) (s:=s) (e:=λ_=>true) p.isList p2.isList rfl hu (λj h1 _=>by simp at h1) _ _ _ _ (a_K I q (by simp))
 | cons a t=>
   cases r with
   | cons ra rt=>exact SeqAt.RcNeAt.lists_lengths (A:=X.A) (s:=s) p.isList p2.isList (by simp) hu _ _ _ _ (a_K I q rfl)
theorem b_A:∀{as:List Addr} {its:List Value},Vals (as.map V.ref) its->its=as.map Value.ref
 | [],_,.nil=>rfl
 | a::r,_,.cons h t=>by
   obtain rfl:=(show _=Value.ref a from h)
   rw[b_A t,r_r]
def k_Q (K:PySem.W.Frag):V->List V->Hp->VK->Prop:=λx vs H Q=>∃l b xs zs,x= .ref l/\vs= [.ref b]/\H l=some (.lst xs)/\H b=some (.tup zs)/\xs.length+zs.length<=sizeLine/\Q .non (upd H l (.lst (xs++zs)))
theorem e_2:MtM X "list.extend" (k_Q X.K):=by
 intro pins s σ H x vs v us Q I rx rv h
 obtain⟨l,b,xs,zs,rfl,rfl,hH,hB,hz,q⟩:=h
 cases rx
 obtain⟨u,rfl,ru⟩:=rv.one
 cases ru
 obtain⟨z,its,n,r,hl,e⟩:=I.lstM hH
 obtain⟨z2,its2,r2,⟨cls2,dd2,data2,sl2⟩,ho2,hc2,n2,hd2⟩:=I.hok b _ hB
 simp only at hc2 hd2
 subst hc2 hd2
 have hl2:=r2.length
 have hsz:its.toArray.size+its2.toArray.size<=sizeLine:=by rw[r_m,r_m];omega
 have hlong:¬ (!its.toArray.isEmpty&&Builtin.List.listTooLong (its.toArray.size+its2.toArray.size))=true:=by
  rw[h_G hsz,Bool.and_false]
  exact r_t
 refine call_meets F.slot_list_extend ⟨_,e,rfl⟩ F.entry_list_extend (F.args_list_extend_2 _ _)
  (PySem.SeqAt.list_extend_tupleAt l its.toArray n b its2.toArray n2 dd2 sl2 hlong (by rw[r_m];omega) (by omega)) ⟨e,ho2,?_⟩
 refine⟨.non,_,I.lset (its':=its++its2) hH e (by simp) (r.append r2) ?_, rfl,q⟩
 rw[r_e]
 omega
theorem i_Y (hc:X.calm=true):d_a X (.builtin "sum") (λxs H Q=>∃p,∃ns:List Int,xs= [.ref p]/\SqL X.K H p (ns.map V.int)/\Q (.int ns.sum) H):=by
 intro pins s σ H xs us Q I rv h
 obtain⟨p,ns,rfl,hp,q⟩:=h
 obtain⟨u,rfl,ru⟩:=rv.one
 cases ru
 obtain⟨its,r,pl,_⟩:=I.list hp
 have hi:=h_8 r
 obtain⟨zs,e⟩:=(IntsAre.allInts hi).items
 refine sum_intListG (I.ok.hd hc) (by rw[<-e];exact pl.isList) λh' tk t' hk=>⟨.int ns.sum,H,I.kept (t':=tk) hk,⟨t',?_⟩,q⟩
 have e1:=nums_intItems zs
 rw[<-e] at e1
 have e2:numsOf its=ns:=hi.numsOf
 have e3:zs.toList.map (·.1)=ns:=by rw[<-e1,<-e2]
 rw[preSum_eq,r_w (by simp),e3]
end
section
variable {prog:Program} {w:World} {A:Around} {R:Result->Shared->Prop} {s:Shared}
theorem d_z {elt target iter:Expr} {ifs:List Expr} {scope:Scope} {pos:Pos} {it acc:Value} {env:Env} (I:Nat->Shared->Prop)
 (turn:∀n s,I n s→wpAny (model prog w) A (pyNext it) (fun r s₁=>match r with
   | none=>R (.ok .next) s₁
   | some v=>wpAny (model prog w) A (letOwnedTupleGo target it v) (fun _ s₀=>wpAny (model prog w) A (assign target env v) (fun _ s₂=>
      wpAny (model prog w) A (forIn ifs true λc r=>if r=true then do let ok<-isTrue c env (eval c env);pure (ForInStep.yield ok) else pure (ForInStep.yield r)) (λok s₃=>
       if ok=true then wpAny (model prog w) A (eval elt env) (λx s₄=>
        wpAny (model prog w) A (call (.builtin "list.append") [acc,x]) (λ_ s₅=>∃m,m < n/\I m s₅) (λ_ _=>False) s₄) (λ_ _=>False) s₃
       else ∃m,m < n/\I m s₃) (λ_ _=>False) s₂) (λ_ _=>False) s₀) (λ_ _=>False) s₁) (λ_ _=>False) s)
 (n:Nat) (h:I n s):
 codeAny (model prog w) A (.compLoop (.ListComp elt [⟨target,iter,ifs,0⟩] scope pos) 0 it acc env) R s:=by
 refine codeAny_loop rfl I (λn s hI=> ?_) n h
 show wpAny _ A ((compTurn (.ListComp elt [⟨target,iter,ifs,0⟩] scope pos) 0 it acc env).onRaise (λx=>do noteFrame x env;theTreesLotGoes x)) _ _ s
 refine wpAny_noted ?_
 rw[compTurn_list]
 refine wpAny_bind (wpAny_standAt (wpAny_bind (wpAny_mono (turn n s hI) (λr s₁ h₁=> ?_) λ_ _ h'=>h'.elim)))
 cases r with
 | none=>exact wpAny_pure h₁
 | some v=>
   refine wpAny_bind (wpAny_mono h₁ (λ_ s₀ h₀=> ?_) λ_ _ h'=>h'.elim)
   refine wpAny_bind (wpAny_mono h₀ (λ_ s₂ h₂=>wpAny_bind (wpAny_mono h₂ (λok s₃ h₃=> ?_) λ_ _ h'=>h'.elim)) λ_ _ h'=>h'.elim)
   cases ok with
   | false=>exact wpAny_pure ⟨rfl,h₃⟩
   | true=>
     exact wpAny_bind (wpAny_bind (wpAny_mono h₃ (λx s₄ h₄=>wpAny_bind (wpAny_mono h₄ (λ_ s₅ h₅=>wpAny_pure (wpAny_pure ⟨rfl,h₅⟩)) λ_ _ h'=>h'.elim)) λ_ _ h'=>h'.elim))
end
def k_Z (env:Env) (fns:List Str):List (Str×Addr):=fns.filterMap λy=>(env.cells.lookup y).map λc=>(y,c)
theorem a_7 {env:Env}:∀{fns:List Str} {y:Str} {c:Addr},(k_Z env fns).lookup y=some c->env.cells.lookup y=some c/\y∈fns
 | [],_,_,h=>by cases h
 | z::r,y,c,h=>by
   unfold k_Z at h
   rw[List.filterMap_cons] at h
   cases e:env.cells.lookup z with
   | none=>
     simp only[e,Option.map_none] at h
     obtain⟨a,b⟩:=a_7 (fns:=r) h
     exact⟨a,r_f _ b⟩
   | some d=>
     simp only[e,Option.map_some,List.lookup_cons] at h
     cases q:y == z with
     | true=>
       rw[q] at h
       have q':y=z:=eq_of_beq q
       subst q'
       cases h
       exact⟨e,r_g ..⟩
     | false=>
       rw[q] at h
       obtain⟨a,b⟩:=a_7 (fns:=r) h
       exact⟨a,r_f _ b⟩
theorem c_7 {env:Env}:∀{fns:List Str} {y:Str} {c:Addr},y∈fns->env.cells.lookup y=some c->(k_Z env fns).lookup y=some c
 | z::r,y,c,hy,hc=>by
   unfold k_Z
   rw[List.filterMap_cons]
   cases q:y == z with
   | true=>
     have q':y=z:=eq_of_beq q
     subst q'
     simp only[hc,Option.map_some,List.lookup_cons,beq_self_eq_true]
   | false=>
     have hy':y∈r:=by
      rcases r_n.mp hy with e | e
      ·subst e;simp at q
      ·exact e
     have ih:=c_7 (env:=env) hy' hc
     cases e:env.cells.lookup z with
     | none=>simp only[Option.map_none];exact ih
     | some d=>simp only[Option.map_some,List.lookup_cons,q];exact ih
def a_V (X:Cx) (scope:Scope) (fns:List Str) (N:List Str) (fp:List Addr) (pins:List (Addr×Obj)) (s:Shared) (H:Hp):Cx where
 prog:=X.prog
 w:=X.w
 K:=X.K
 mg:=X.mg
 base:=X.base
 A:=X.A
 N:=N
 s₀:=s
 H₀:=H
 env:=compEnvC scope (k_Z X.env fns) s.heap.objs.size X.env
 outer:=X.stack
 stack:=X.stack
 ex:=fp
 fn:=λ_=>false
 calm:=X.calm
 pn:=X.pn++pins
 xe:=λ_ _=>False
structure f_T (X:Cx) (scope:Scope) (x:Str) (fns:List Str) (js:List Nat):Prop where
 kind:scope.kind= .function
 nocell:∀y∈scope.names,y.2≠ .cell
 locs:∀y∈scope.names,y.2= .local->scope.names.lookup y.1=some .local
 loc:scope.names.lookup x=some .local
 free:∀y∈scope.names,y.2= .free->y.1∈fns
 isfree:∀y∈fns,scope.names.lookup y=some .free
 clos:closureFor scope X.env=pure (k_Z X.env fns)
 mine:∀y∈fns,X.env.kindOf y=some .cell
 js:js.map (λj=>X.N[j]?)=fns.map some
 nd:(x::fns).Nodup
theorem b_m {env:Env} (hf:env.scope.kind= .function):∀{names:List (Str×NameKind)} {x:Str},names.lookup x=some .free->env.kindOf x=some .cell->
 (names.map λ(n,k)=>if (k == NameKind.free&&env.scope.kind == .function&&env.kindOf n == some .cell) then (n,NameKind.cell) else (n,k)).lookup x=some .cell
 | [],_,h,_=>by cases h
 | (n,k)::r,x,h,hk=>by
   have ih:= @b_m env hf r x
   simp only[r_r]
   simp only[List.lookup_cons] at h
   cases hx:x == n with
   | true=>
     rw[hx] at h
     have e:x=n:=eq_of_beq hx
     subst e
     cases h
     simp[hf,hk,List.lookup_cons]
   | false=>
     rw[hx] at h
     by_cases hc:(k == NameKind.free&&env.scope.kind == .function&&env.kindOf n == some .cell)=true
     ·rw[if_pos hc];simp only[List.lookup_cons,hx];exact ih h hk
     ·rw[if_neg hc];simp only[List.lookup_cons,hx];exact ih h hk
theorem c_d {env:Env} {names:List (Str×NameKind)} {y:Str×NameKind} (h:y∈names.map λ(n,k)=>if (k == NameKind.free&&env.scope.kind == .function&&env.kindOf n == some .cell) then (n,NameKind.cell) else (n,k))
 (hk:y.2= .cell\/y.2= .free) (hc:∀z∈names,z.2≠ .cell):(y.1,NameKind.free)∈names:=by
 obtain⟨⟨n,k⟩,hm,e⟩:=r_H.mp h
 by_cases q:(k == NameKind.free&&env.scope.kind == .function&&env.kindOf n == some .cell)=true
 ·simp only[q,if_true] at e
  subst e
  have:k= .free:=by
   simp only[Bool.and_eq_true,beq_iff_eq] at q
   exact q.1.1
  subst this
  exact hm
 ·simp only[q] at e
  subst e
  rcases hk with z | z
  ·exact absurd z (hc _ hm)
  ·have z':k= .free:=z
   subst z'
   exact hm
section
variable {X:Cx} {scope:Scope} {x:Str} {fns:List Str} {js:List Nat} {pins:List (Addr×Obj)} {σ:St} {H:Hp} {s:Shared} {fp:List Addr}
def b_t (σ:St) (js:List Nat) (v:Option V):St:=v::js.map λj=>(σ[j]?).join
theorem j_H (S:f_T X scope x fns js) (I:Inv X pins σ H s) (hf:∀b∈fp,f_z X pins H b) (ho:∀b∈fp,b < s.heap.objs.size):(a_V X scope fns (x::fns) fp pins s H).Ok where
 mod:=I.ok.mod
 kind:=S.kind
 glob:=I.ok.glob
 blt:=I.ok.blt
 above:=r_l _
 inj:=λy z c h1 h2=>I.ok.inj y z c (a_7 h1).1 (a_7 h2).1
 has:=λy hy=>by
  have hy':y∈fns:=by
   rcases hy with hy | hy
   ·exact S.free _ (c_d (PySem.mem_of_lookup hy) (.inl rfl) S.nocell) rfl
   ·exact S.free _ (c_d (PySem.mem_of_lookup hy) (.inr rfl) S.nocell) rfl
  obtain⟨c,hc⟩:=I.ok.has y (.inl (S.mine y hy'))
  exact⟨c,c_7 hy' hc⟩
 cab:=λ_ _ h=>nomatch h
 hd:=I.ok.hd
 frames:=I.ok.frames
 stk:= .inl rfl
 exf:=λb hb=>⟨r_A (ho b hb),λy c e=>(hf b hb).2.2.2.2.1 y c (a_7 e).1⟩
 bs:=I.bs
 bsz:=r_x I.ok.bsz I.sz
 noex:=λb o e hb=>by
  rcases (hf b hb).2.2.2.1 with z | z
  ·exact I.ok.noex b o e z
  ·exact absurd (r_s (r_s (Heap.lt_size e) I.ok.bsz) z) (Nat.lt_irrefl _)
 exfs:=λb hb hs=>by
  rcases r_n.mp (I.stkSub b hs) with z | z
  ·exact (hf b hb).2.1 z
  ·exact (hf b hb).2.2.1 z
 funs:=I.stack
 frf:=I.stkFree
theorem i_o (S:f_T X scope x fns js) (I:Inv X pins σ H s) (hf:∀b∈fp,f_z X pins H b) (ho:∀b∈fp,b < s.heap.objs.size) {h₁:Heap} {m:Str->Option Value} {tk:Nat} (hn:h₁.Ns s.heap.objs.size m)
 (hk:∀b o,s.heap.get? b=some o->h₁.get? b=some o):Inv (a_V X scope fns (x::fns) fp pins s H) [] (b_t σ js none) H { s with heap:=h₁,toks:=tk }:=by
 have K1:HOk X.prog X.w H h₁:=I.hok.kept hk
 refine⟨j_H S I hf ho,rfl,I.bare,Un.kept hk,⟨m,hn,λi y v e1 e2 _=> ?_⟩,λy c e=> ?_, I.hok.fresh (r_l _),λy c e=>I.freeC y c (a_7 e).1,λp hp=> ?_, K1,?_⟩
 ·cases i with
  | zero=>cases e2
  | succ i=>
    have e1':fns[i]? =some y:=e1
    have e2':(js.map λj=>(σ[j]?).join)[i]? =some (some v):=e2
    rw[r_o] at e2'
    cases ej:js[i]? with
    | none=>rw[ej] at e2';cases e2'
    | some j=>
      rw[ej] at e2'
      have e3:(σ[j]?).join=some v:=r_j e2'
      have e4:σ[j]? =some (some v):=by
       cases q:σ[j]? with
       | none=>rw[q] at e3;cases e3
       | some o=>rw[q] at e3;exact congrArg some e3
      have e5:X.N[j]? =some y:=by
       have q:=congrArg (λl=>l[i]?) S.js
       simp only[r_o,ej,e1',Option.map_some] at q
       exact r_j q
      have hy:y∈fns:=r_C e1'
      obtain⟨m',_,hl⟩:=I.loc
      obtain⟨u,r,l⟩:=hl j y v e5 e4 (.inr (.inl (S.mine y hy)))
      refine⟨u,r,.inr ⟨.inl (b_m I.ok.kind (S.isfree y hy) (S.mine y hy)),?_⟩⟩
      rcases l with⟨k,_⟩ | ⟨k,c,ec,oc,hoc,hd⟩
      ·rw[S.mine y hy] at k;cases k
      ·exact⟨c,c_7 hy ec,oc,hk _ _ hoc,hd⟩
 ·obtain⟨v,o,ho,hd⟩:=I.cell y c (a_7 e).1
  exact⟨v,o,hk _ _ ho,hd⟩
 ·have hp':p∈X.pn++pins:=by rw[r_J] at hp;exact hp
  obtain⟨e,n,ne,nf,d⟩:=I.pin p hp'
  refine⟨hk _ _ e,n,r_A (Heap.lt_size e),λz=> ?_, d⟩
  rcases r_n.mp (I.stkSub p.1 z) with q | q
  ·exact ne q
  ·exact nf q
 ·unfold b_t
  have:=congrArg List.length S.js
  simp only[r_c] at this
  simp only[r_i,r_c,this,a_V]
theorem g_Y (I:Inv X pins σ H s) (hf:∀b∈fp,f_z X pins H b) {σ':St} {H':Hp} {s':Shared} {pins':List (Addr×Obj)} (J:Inv (a_V X scope fns (x::fns) fp pins s H) pins' σ' H' s'):Inv X pins σ H' s':=
 I.call' (ch:=fp) J.os J.base J.hok J.bare λb hb=>⟨(hf b hb).2.2.2.1,(hf b hb).2.1,(hf b hb).2.2.2.2.1,(hf b hb).2.2.2.2.2⟩
end
def n_K (X:Cx) (ifs:List Expr) (t:TT):Prop:=
 ∀(pins:List (Addr×Obj)) (s:Shared) (σ:St) (H:Hp) (Q:Bool->Hp->Prop),Inv X pins σ H s->t σ H Q->
  wpAny (model X.prog X.w) X.A (forIn ifs true λc r=>if r=true then do let ok<-isTrue c X.env (eval c X.env);pure (ForInStep.yield ok) else pure (ForInStep.yield r)) (TP X pins σ Q) X.xe s
def q_W:TT:=λ_ H Q=>Q true H
theorem c_a {X:Cx}:n_K X [] q_W:=λ_ _ _ H _ I h=>wpAny_tests_nil ⟨H,I,h⟩
theorem d_c {X:Cx} {c:Expr} {t:TT} (h:PT X c t):n_K X [c] t:=λpins s σ H Q I q=>wpAny_tests_one (h pins s σ H Q I q)
def f_c (J:It) (D:Addr) (σ:St) (js:List Nat) (tt:TT) (te:TE) (QQ:Hp->Prop) (W:Nat->Nat->Hp->Prop):Prop:=
 ∀i m H,W i m H->(J.stop i H/\QQ H)\/(J.go i H/\∃(N1:V->Hp->Prop) (N0:Hp->Prop),
  (∀y H3,N1 y H3->∃ys,H3 D=some (.lst ys)/\ys.length < sizeLine/\∃m',m' < m/\W (i+1) m' (upd H3 D (.lst (ys++ [y]))))/\(∀H2,N0 H2->∃m',m' < m/\W (i+1) m' H2)/\
  ∀v H',J.yld i H v H'->tt (b_t σ js (some v)) H' λb H2=>if b=true then te (b_t σ js (some v)) H2 N1 else N0 H2)
section
variable {X:Cx} {scope:Scope} {x:Str} {fns:List Str} {js:List Nat} {pins:List (Addr×Obj)} {σ:St} {H:Hp} {s:Shared} {elt iter:Expr} {px pos pos':Pos} {ifs:List Expr} {wi:TI} {tt:TT} {te:TE}
theorem f_X {use:Option (Value->Sem Unit)} {Qv:Value->Shared->Prop} {QQ:Addr->Hp->Prop} (hc:X.calm=true) (S:f_T X scope x fns js) (hi:PI X (.Name x px) iter wi)
 (ht:∀fp pins s H,n_K (a_V X scope fns (x::fns) fp pins s H) ifs tt) (he:∀fp pins s H,PE (a_V X scope fns (x::fns) fp pins s H) elt te) (I:Inv X pins σ H s)
 (h:wi σ H λJ H1=>∀D,H1 D=none->∃W:Nat->Nat->Hp->Prop,(∃m,W 0 m (upd H1 D (.lst [])))/\f_c J D σ js tt te (QQ D) W)
 (fin:∀D C H5 s5 m5,Inv X pins σ H5 s5->f_z X pins H5 C->s5.heap.Ns C m5->QQ D H5->compPost (model X.prog X.w) X.A X.xe use Qv (.ref D) C (.ok .next) s5)
 (hs:∀x,foldedSetIterable iter X.env x=pure x:=by intro _;rfl):
 wpAny (model X.prog X.w) X.A (comprehension (.ListComp elt [⟨.Name x px,iter,ifs,0⟩] scope pos) scope X.env pos' (newList []) false (eval iter X.env) use) Qv X.xe s:=by
 refine wpAny_comprehension_free (use:=use) rfl hs S.clos S.kind S.locs (thn (hi pins s σ H _ I h) λv s1 h1=>thn h1 λitv s2 h2=> ?_)
 obtain⟨it,fp,tn,J,H2,e,I2,T,st2,f2,hW⟩:=h2
 subst e
 obtain⟨W,⟨m0,w0⟩,turn⟩:=hW s2.heap.objs.size I2.fresh
 have I3:Inv X pins σ (upd H2 s2.heap.objs.size (.lst [])) { s2 with heap:=s2.heap.push { cls:= .type "list",data:= .seq ([]:List Value).toArray } }:=I2.lnew (t':=s2.toks) (its:= []) (ys:= []) .nil (r_E _)
 have lt2:∀b∈fp,b < s2.heap.objs.size:=λb hb=>by
  obtain⟨o,e,_⟩:=T.obj _ _ st2 b hb
  exact Heap.lt_size e
 have f3:∀b∈fp,f_z X pins (upd H2 s2.heap.objs.size (.lst [])) b:=λb hb=>⟨by rw[a_i (r_A (lt2 b hb))];exact (f2 b hb).1,(f2 b hb).2⟩
 have lt3:∀b∈fp,b < (s2.heap.push { cls:= .type "list",data:= .seq ([]:List Value).toArray }).objs.size:=λb hb=>by rw[Heap.size_push];exact Nat.lt_succ_of_lt (lt2 b hb)
 refine wpAny_newObj_type (wpAny_newFunctionEnv S.nocell (by intro y hy;simp at hy) (λh₁ hns₁ hsb₁=> ?_) S.kind)
 dsimp only at hns₁ hsb₁ ⊢
 have hk:∀b o,(s2.heap.push { cls:= .type "list",data:= .seq ([]:List Value).toArray }).get? b=some o->h₁.get? b=some o:=λb o e=>
  hsb₁.extBut b o (r_A (Heap.lt_size e)) (Heap.get?_push_of_some _ e)
 have J0:=i_o (tk:=s2.toks+([]:List (Str×Value)).length) S I3 f3 lt3 hns₁ hk
 have stat:∀{H':Hp},(∀b∈fp,H' b=none)->∀b∈fp,f_z (a_V X scope fns (x::fns) fp pins { s2 with heap:=s2.heap.push { cls:= .type "list",data:= .seq ([]:List Value).toArray } } (upd H2 s2.heap.objs.size (.lst []))) [] H' b:=λhn b hb=>by
  refine⟨hn b hb,(J0.ok.exf b hb).1,J0.ok.exfs b hb,.inl hb,(J0.ok.exf b hb).2,λp hp=>(f3 b hb).2.2.2.2.2 p ?_⟩
  rw[r_J] at hp
  exact hp
 have fr0:∀b∈fp,(upd H2 s2.heap.objs.size (.lst [])) b=none:=λb hb=>(f3 b hb).1
 have st0:tn 0 h₁:=T.keep _ _ _ st2 λb hb o e=>hk b o (Heap.get?_push_of_some _ e)
 have loop:∀s₃:Shared,s₃={ s2 with heap:=h₁,toks:=s2.toks+([]:List (Str×Value)).length }->
  codeAny (model X.prog X.w) X.A (.compLoop (.ListComp elt [⟨.Name x px,iter,ifs,0⟩] scope pos) 0 (.ref it) (.ref s2.heap.objs.size) (compEnvC scope (k_Z X.env fns) (s2.heap.push { cls:= .type "list",data:= .seq ([]:List Value).toArray }).objs.size X.env))
   (compPost (model X.prog X.w) X.A X.xe use Qv (.ref s2.heap.objs.size) (s2.heap.push { cls:= .type "list",data:= .seq ([]:List Value).toArray }).objs.size) s₃:=by
  rintro s₃ rfl
  refine d_z (λn s'=>∃i o H',Inv (a_V X scope fns (x::fns) fp pins { s2 with heap:=s2.heap.push { cls:= .type "list",data:= .seq ([]:List Value).toArray } } (upd H2 s2.heap.objs.size (.lst []))) [] (b_t σ js o) H' s'/\tn i s'.heap/\(∀b∈fp,H' b=none)/\W i n H') ?_ m0
   ⟨0,none,_,J0,st0,fr0,w0⟩
  rintro n s4 ⟨i,o,H4,J4,st4,fr4,w4⟩
  rcases turn i n H4 w4 with⟨stop,qn⟩ | ⟨go,N1,N0,hN1,hN0,step⟩
  ·refine thn (T.done (a_V X scope fns (x::fns) fp pins { s2 with heap:=s2.heap.push { cls:= .type "list",data:= .seq ([]:List Value).toArray } } (upd H2 s2.heap.objs.size (.lst []))) rfl rfl rfl hc i [] s4 _ H4 _ J4 (stat fr4) st4 stop) λr s5 ⟨hr,J5⟩=> ?_
   subst hr
   obtain⟨m5,hn5,_⟩:=id J5.loc
   have I5:=g_Y I3 f3 J5
   exact fin _ _ H4 s5 m5 I5 ⟨J5.free,Nat.ne_of_gt (r_s I3.lt (r_l _)),I3.nofs (r_l _),.inr I3.sz,(I3.fpOk (r_l _) J5.free).2.2.2.2⟩ hn5 qn
  ·refine thn (T.item (a_V X scope fns (x::fns) fp pins { s2 with heap:=s2.heap.push { cls:= .type "list",data:= .seq ([]:List Value).toArray } } (upd H2 s2.heap.objs.size (.lst []))) rfl rfl rfl hc i [] s4 _ H4 _ J4 (stat fr4) st4 go) λr s5 ⟨u,hr,h5⟩=> ?_
   subst hr
   refine thn h5 λ_ s6 ⟨v6,H6,J6,r6,y6,st6,fr6⟩=> ?_
   have J6':=J6.pinned (stat fr6) (T.obj _ _ st6)
   have pg:=b_d (X:=a_V X scope fns (x::fns) fp pins { s2 with heap:=s2.heap.push { cls:= .type "list",data:= .seq ([]:List Value).toArray } } (upd H2 s2.heap.objs.size (.lst []))) (pos:=px) (i:=0) (x:=x) S.nd rfl (.inl (lookup_relabel_local S.loc)) (.inr (lookup_relabel_local S.loc))
   refine thn (pg _ s6 _ H6 v6 u (λσ' H'=>σ'=b_t σ js (some v6)/\H'=H6) J6' r6 ⟨rfl,rfl⟩) λ_ s7 ⟨σ7,H7,J7,e7,e7'⟩=> ?_
   subst e7 e7'
   refine thn (ht _ _ _ _ _ s7 _ H7 _ J7 (step v6 H7 y6)) λb s8 ⟨H8,J8,q8⟩=> ?_
   have again:∀{H9:Hp} {s9:Shared},Inv (a_V X scope fns (x::fns) fp pins { s2 with heap:=s2.heap.push { cls:= .type "list",data:= .seq ([]:List Value).toArray } } (upd H2 s2.heap.objs.size (.lst []))) ([]++e_0 fp s6.heap) (b_t σ js (some v6)) H9 s9->
    (∃m',m' < n/\W (i+1) m' H9)->∃m,m < n/\∃i o H',Inv (a_V X scope fns (x::fns) fp pins { s2 with heap:=s2.heap.push { cls:= .type "list",data:= .seq ([]:List Value).toArray } } (upd H2 s2.heap.objs.size (.lst []))) [] (b_t σ js o) H' s9/\tn i s9.heap/\(∀b∈fp,H' b=none)/\W i m H':=λ{H9 s9} J9 ⟨m',hm,w9⟩=>by
    refine⟨m',hm,i+1,some v6,H9,J9.unpinned,T.keep _ _ _ st6 λb hb o e=>(J9.pin (b,o) (r_p _ (r_p _ (b_F hb e)))).1,λb hb=> ?_, w9⟩
    obtain⟨o,e,d⟩:=T.obj _ _ st6 b hb
    exact (J9.pin (b,o) (r_p _ (r_p _ (b_F hb e)))).2.1
   cases b with
   | false=>exact again J8 (hN0 _ (by simpa using q8))
   | true=>
     simp only[if_true] at q8 ⊢
     refine thn (he _ _ _ _ _ s8 _ H8 _ J8 q8) λxv s9 ⟨y9,H9,J9,r9,n9⟩=> ?_
     obtain⟨ys,hD,hz,q9⟩:=hN1 y9 H9 n9
     refine thn (a_Q _ s9 _ H9 (.ref s2.heap.objs.size) [y9] (.ref s2.heap.objs.size) [xv] (λ_ H'=>H'=upd H9 s2.heap.objs.size (.lst (ys++ [y9]))) J9 rfl (.cons r9 .nil) ⟨_,ys,y9,rfl,rfl,hD,hz,rfl⟩) λ_ s10 ⟨_,H10,J10,_,e10⟩=> ?_
     subst e10
     exact again J10 q9
 exact codeAny_compStart_list (loop _ rfl) (T.self _ 0 _ _ _ st0 (loop _ rfl))
def p_x (wi:TI) (js:List Nat) (tt:TT) (te:TE):TE:=λσ H Q=>wi σ H λJ H1=>∀D,H1 D=none->∃W:Nat->Nat->Hp->Prop,(∃m,W 0 m (upd H1 D (.lst [])))/\f_c J D σ js tt te (Q (.ref D)) W
theorem c_Z (hc:X.calm=true) (S:f_T X scope x fns js) (hi:PI X (.Name x px) iter wi)
 (ht:∀fp pins s H,n_K (a_V X scope fns (x::fns) fp pins s H) ifs tt) (he:∀fp pins s H,PE (a_V X scope fns (x::fns) fp pins s H) elt te) (hs:∀x,foldedSetIterable iter X.env x=pure x:=by intro _;rfl):
 PE X (.ListComp elt [⟨.Name x px,iter,ifs,0⟩] scope pos) (p_x wi js tt te):=by
 intro pins s σ H Q I h
 rw[eval_ListComp]
 refine f_X (use:=none) (QQ:=λD=>Q (.ref D)) hc S hi ht he I h (λD C H5 s5 m5 I5 fC hn q=> ?_) hs
 refine⟨m5,hn,λh' sb=>⟨.ref D,H5,?_, rfl,q⟩⟩
 exact I5.turned (t':=s5.toks) (λb o hb e=>(sb.2 b hb).trans e) fC.1 fC.2.1 fC.2.2.2.1 fC.2.2.2.2.1 fC.2.2.2.2.2
def k_W (k:Nat) (wi:TI) (js:List Nat) (tt:TT) (te:TE):TS:=λD σ H=>wi σ H λJ H1=>∀L,H1 L=none->∃W:Nat->Nat->Hp->Prop,(∃m,W 0 m (upd H1 L (.lst [])))/\f_c J L σ js tt te (λH'=>D.nx (σ.set k (some (.ref L))) H') W
theorem c_B {k:Nat} {y:Str} {py spos:Pos} (hc:X.calm=true) (S:f_T X scope x fns js) (hi:PI X (.Name x px) iter wi)
 (ht:∀fp pins s H,n_K (a_V X scope fns (x::fns) fp pins s H) ifs tt) (he:∀fp pins s H,PE (a_V X scope fns (x::fns) fp pins s H) elt te)
 (hN:X.N.Nodup) (hk:X.N[k]? =some y) (hy:Loc X.env.scope y) (hfn:X.fn y=true\/X.env.scope.names.lookup y=some .local:=by first | exact .inl rfl | exact .inr rfl | assumption)
 (hsw:swapsWith (.ListComp elt [⟨.Name x px,iter,ifs,0⟩] scope pos) (some (.Name y py)) spos.line X.env=pure true:=by rfl) (hs:∀x,foldedSetIterable iter X.env x=pure x:=by intro _;rfl):
 PS X (.Assign [.Name y py] (.ListComp elt [⟨.Name x px,iter,ifs,0⟩] scope pos) spos) (k_W k wi js tt te):=by
 intro pins s σ H D I h
 rw[exec_Assign_Name_used _ _ _ _ hsw]
 refine wpAny_bind (wpAny_standAt (wpAny_bind ?_))
 show wpAny _ X.A (do let _<-comprehension (.ListComp elt [⟨.Name x px,iter,ifs,0⟩] scope pos) scope X.env _ (newList []) false (eval iter X.env) (some (assign (.Name y py) X.env))) _ _ s
 refine wpAny_bind (thn (f_X (use:=some (assign (.Name y py) X.env)) (QQ:=λL H'=>D.nx (σ.set k (some (.ref L))) H') (Qv:=λ_ s'=>SP X pins D .next s') hc S hi ht he I h (λL C H5 s5 m5 I5 fC hn q=> ?_) hs) λ_ s' hq=>wpAny_pure (wpAny_pure hq))
 obtain⟨oC,es,ep,e,d,r⟩:=id hn
 have I5':Inv X (pins++ [(C,oC)]) σ H5 s5:=I5.pins_of λp hp=>(r_u.mp hp).elim (λz=>I5.pin p (r_p _ z)) λz=>by
  obtain rfl:p=(C,oC):=by simpa using z
  exact⟨e,fC.1,fC.2.1,fC.2.2.1,λv z=>by rw[d] at z;cases z⟩
 refine thn (b_d (pos:=py) hN hk hy hfn _ s5 σ H5 (.ref L) (.ref L) (λσ' H'=>σ'=σ.set k (some (.ref L))/\H'=H5) I5' rfl ⟨rfl,rfl⟩) λ_ s6 ⟨σ6,H6,I6,e6,e6'⟩=> ?_
 subst e6 e6'
 have pC:=I6.pin (C,oC) (by simp)
 refine⟨m5,⟨oC,es,ep,pC.1,d,r⟩,λh' sb=>⟨_,H6,?_, q⟩⟩
 exact (I6.unpinned).turned (t':=s6.toks) (λb o hb e=>(sb.2 b hb).trans e) fC.1 fC.2.1 fC.2.2.2.1 fC.2.2.2.2.1 fC.2.2.2.2.2
end
theorem c_x {K:PySem.W.Frag} {a D:Addr} {xs:List V} {σ:St} {js:List Nat} {tt:TT} {te:TE} {QQ:Hp->Prop} {H:Hp} (Pv:Nat->List V->Hp->Prop) (h0:Pv 0 [] (upd H D (.lst [])))
 (hl:∀i ys H,i<=xs.length->H D=some (.lst ys)->Pv i ys H->SqL K H a xs)
 (hs:∀i v ys H,xs[i]? =some v→H D=some (.lst ys)→Pv i ys H→tt (b_t σ js (some v)) H fun b H2=>
   if b=true then te (b_t σ js (some v)) H2 λy H3=>H3 D=some (.lst ys)/\ys.length < sizeLine/\Pv (i+1) (ys++ [y]) (upd H3 D (.lst (ys++ [y]))) else H2 D=some (.lst ys)/\Pv (i+1) ys H2)
 (hd:∀ys H,H D=some (.lst ys)->Pv xs.length ys H->QQ H):
 ∃W:Nat->Nat->Hp->Prop,(∃m,W 0 m (upd H D (.lst [])))/\f_c (Itl K a) D σ js tt te QQ W:=by
 refine⟨λi m H=>i<=xs.length/\m=xs.length - i/\∃ys,H D=some (.lst ys)/\Pv i ys H,⟨_,r_E _,rfl, [],a_b,h0⟩,?_⟩
 rintro i m H1 ⟨hi,rfl,ys,hD,hp⟩
 have hq:=hl i ys H1 hi hD hp
 by_cases e:i=xs.length
 ·subst e
  exact .inl ⟨⟨xs,hq,r_l _⟩,hd ys H1 hD hp⟩
 ·have hlt:i < xs.length:=by omega
  refine .inr ⟨⟨xs,xs[i],hq,r_d hlt⟩,λy H3=>H3 D=some (.lst ys)/\ys.length < sizeLine/\Pv (i+1) (ys++ [y]) (upd H3 D (.lst (ys++ [y]))),λH2=>H2 D=some (.lst ys)/\Pv (i+1) ys H2,
   λy H3 q3=>⟨ys,q3.1,q3.2.1,xs.length - (i+1),by omega,hlt,rfl,ys++ [y],a_b,q3.2.2⟩,λH2 q=>⟨xs.length - (i+1),by omega,hlt,rfl,ys,q.1,q.2⟩,λv H' hy=> ?_⟩
  obtain⟨rfl,hv⟩:=hy
  exact hs i v ys H' (hv xs hq) hD hp
theorem i_g {lo:Int} {n:Nat} {D:Addr} {σ:St} {js:List Nat} {tt:TT} {te:TE} {QQ:Hp->Prop} {H:Hp} (Pv:Nat->List V->Hp->Prop) (h0:Pv 0 [] (upd H D (.lst [])))
 (hs:∀i ys H,i < n→H D=some (.lst ys)→Pv i ys H→tt (b_t σ js (some (.int (lo+i)))) H fun b H2=>
   if b=true then te (b_t σ js (some (.int (lo+i)))) H2 λy H3=>H3 D=some (.lst ys)/\ys.length < sizeLine/\Pv (i+1) (ys++ [y]) (upd H3 D (.lst (ys++ [y]))) else H2 D=some (.lst ys)/\Pv (i+1) ys H2)
 (hd:∀ys H,H D=some (.lst ys)->Pv n ys H->QQ H):
 ∃W:Nat->Nat->Hp->Prop,(∃m,W 0 m (upd H D (.lst [])))/\f_c (Itr lo n) D σ js tt te QQ W:=by
 refine⟨λi m H=>i<=n/\m=n - i/\∃ys,H D=some (.lst ys)/\Pv i ys H,⟨_,r_E _,rfl, [],a_b,h0⟩,?_⟩
 rintro i m H1 ⟨hi,rfl,ys,hD,hp⟩
 by_cases e:i=n
 ·subst e
  exact .inl ⟨r_l _,hd ys H1 hD hp⟩
 ·have hlt:i < n:=by omega
  refine .inr ⟨hlt,λy H3=>H3 D=some (.lst ys)/\ys.length < sizeLine/\Pv (i+1) (ys++ [y]) (upd H3 D (.lst (ys++ [y]))),λH2=>H2 D=some (.lst ys)/\Pv (i+1) ys H2,
   λy H3 q3=>⟨ys,q3.1,q3.2.1,n - (i+1),by omega,hlt,rfl,ys++ [y],a_b,q3.2.2⟩,λH2 q=>⟨n - (i+1),by omega,hlt,rfl,ys,q.1,q.2⟩,λv H' hy=> ?_⟩
  obtain⟨rfl,rfl⟩:=hy
  exact hs i ys H' hlt hD hp
end L2
namespace TO
def Adj:Nat->List Nat->Prop
 | _, []=>True
 | p,n::r=>1<=n/\n<=8/\5<=p+n/\Adj n r
def f_e:Nat->List Nat->Nat
 | p, []=>p
 | _,n::r=>f_e n r
theorem Adj.app:∀{l₁ l₂:List Nat} {p:Nat},Adj p (l₁++l₂)↔Adj p l₁/\Adj (f_e p l₁) l₂
 | [],l₂,p=>by simp[Adj,f_e]
 | n::r,l₂,p=>by
   have ih:= @Adj.app r l₂ n
   simp only[List.cons_append,Adj,f_e,ih]
   constructor
   ·rintro⟨a,b,c,d,e⟩;exact⟨⟨a,b,c,d⟩,e⟩
   ·rintro⟨⟨a,b,c,d⟩,e⟩;exact⟨a,b,c,d,e⟩
theorem e_J:∀{l:List Nat} {p n:Nat},f_e p (l++ [n])=n
 | [],_,_=>rfl
 | m::r,_,n=>by simp only[List.cons_append,f_e];exact e_J
theorem Adj.mono:∀{l:List Nat} {p q:Nat},p<=q->Adj p l->Adj q l
 | [],_,_,_,_=>trivial
 | n::r,p,q,h,⟨a,b,c,d⟩=>⟨a,b,by omega,d⟩
theorem Adj.five:∀{l:List Nat} {p q:Nat},4<=q->Adj p l->Adj q l
 | [],_,_,_,_=>trivial
 | n::r,p,q,h,⟨a,b,c,d⟩=>⟨a,b,by omega,d⟩
theorem Adj.last:∀{l:List Nat} {p:Nat},1<=p->Adj p l->1<=f_e p l
 | [],_,h,_=>h
 | n::r,p,h,⟨a,b,c,d⟩=> @Adj.last r n a d
theorem Adj.put {l₁ l₂:List Nat} {a b p:Nat} (h:Adj p (l₁++a::l₂)) (hab:a<=b) (hb:b<=8):Adj p (l₁++b::l₂):=by
 rw[Adj.app] at h ⊢
 obtain⟨h1,h2,h3,h4,h5⟩:=h
 exact⟨h1,by omega,hb,by omega,h5.mono hab⟩
theorem Adj.split {l₁ l₂:List Nat} {a p:Nat} (hp:1<=p) (h:Adj p (l₁++a::l₂)):Adj p (l₁++4::5::l₂):=by
 rw[Adj.app] at h ⊢
 obtain⟨h1,h2,h3,h4,h5⟩:=h
 have:=h1.last hp
 exact⟨h1,by omega,by omega,by omega,by omega,by omega,by omega,h5.five (by omega)⟩
theorem Adj.gone {l₁ l₂:List Nat} {p:Nat} (h:Adj p (l₁++1::l₂)):Adj p (l₁++l₂):=by
 rw[Adj.app] at h ⊢
 obtain⟨h1,h2,h3,h4,h5⟩:=h
 exact⟨h1,h5.five (by omega)⟩
theorem Adj.less_join {l₁ l₂:List Nat} {a c p:Nat} (h:Adj p (l₁++(a+1)::c::l₂)) (ha:1<=a) (hac:a+c < 5):Adj p (l₁++(a+c)::l₂):=by
 rw[Adj.app] at h ⊢
 obtain⟨h1,h2,h3,h4,h5,h6,h7,h8⟩:=h
 exact⟨h1,by omega,by omega,by omega,h8.mono (by omega)⟩
theorem Adj.less_join_l {l₁ l₂:List Nat} {a e p:Nat} (h:Adj p (l₁++e::(a+1)::l₂)) (hea:e+a < 5):Adj p (l₁++(e+a)::l₂):=by
 rw[Adj.app] at h ⊢
 obtain⟨h1,h2,h3,h4,h5,h6,h7,h8⟩:=h
 exact⟨h1,by omega,by omega,by omega,h8.five (by omega)⟩
theorem Adj.less {l₁ l₂:List Nat} {a p:Nat} (h:Adj p (l₁++(a+1)::l₂)) (ha:1<=a) (hl:5<=f_e p l₁+a) (hr:∀c r,l₂=c::r->5<=a+c):Adj p (l₁++a::l₂):=by
 rw[Adj.app] at h ⊢
 obtain⟨h1,h2,h3,h4,h5⟩:=h
 refine⟨h1,ha,by omega,hl,?_⟩
 cases l₂ with
 | nil=>trivial
 | cons c r=>
   obtain⟨h6,h7,h8,h9⟩:=h5
   exact⟨h6,h7,hr c r rfl,h9⟩
section
variable {ρ:Type} (lt:ρ->ρ->Bool)
abbrev Srt (l:List ρ):Prop:=l.Pairwise λa b=>lt a b=true
variable {lt}
def m_o (lt:ρ->ρ->Bool) (P:ρ->Bool):Prop:=∀x y,lt x y=true->P y=true->P x=true
theorem Srt.app {l₁ l₂:List ρ}:Srt lt (l₁++l₂)↔Srt lt l₁/\Srt lt l₂/\∀a∈l₁,∀b∈l₂,lt a b=true:=List.pairwise_append
theorem c_K {P:ρ->Bool} (D:m_o lt P):∀{l:List ρ},Srt lt l->l.takeWhile P=l.filter P
 | [],_=>rfl
 | x::r,h=>by
   have h':=r_Q.mp h
   cases e:P x with
   | true=>rw[List.takeWhile_cons,r_B];simp only[e,if_true];rw[c_K D h'.2]
   | false=>
     rw[List.takeWhile_cons,r_B];simp only[e]
     symm
     simp only[Bool.false_eq_true,if_false]
     rw[List.filter_eq_nil_iff]
     intro y hy hP
     have:=D x y (h'.1 y hy) hP
     rw[e] at this;cases this
theorem k_L {P:ρ->Bool} (D:m_o lt P) {l:List ρ} (h:Srt lt l):∀x∈l.dropWhile P,P x=false:=by
 induction l with
 | nil=>intro x hx;cases hx
 | cons a r ih=>
   intro x hx
   have h':=r_Q.mp h
   cases e:P a with
   | true=>rw[List.dropWhile_cons] at hx;simp only[e,if_true] at hx;exact ih h'.2 x hx
   | false=>
     rw[List.dropWhile_cons] at hx;simp only[e] at hx
     rcases r_n.mp hx with rfl | hx
     ·exact e
     ·cases q:P x with
      | false=>rfl
      | true=>have:=D a x (h'.1 x hx) q;rw[e] at this;cases this
theorem k_A {P:ρ->Bool} {l:List ρ}:∀x∈l.takeWhile P,P x=true:=by
 induction l with
 | nil=>intro x hx;cases hx
 | cons a r ih=>
   intro x hx
   rw[List.takeWhile_cons] at hx
   cases e:P a with
   | true=>
     simp only[e,if_true] at hx
     rcases r_n.mp hx with rfl | hx
     ·exact e
     ·exact ih x hx
   | false=>simp[e] at hx
theorem Srt.ins {l:List ρ} {x:ρ} (tr:∀a b c,lt a b=true->lt b c=true->lt a c=true) (h:Srt lt l) (hx:∀y∈l,lt y x=true\/lt x y=true):
 Srt lt (l.takeWhile (λy=>lt y x)++x::l.dropWhile λy=>lt y x):=by
 have D:m_o lt λy=>lt y x:=λa b hab hb=>tr a b x hab hb
 have e:=List.takeWhile_append_dropWhile (p:=λy=>lt y x) (l:=l)
 have hs:=h
 rw[<-e,Srt.app] at hs
 obtain⟨s1,s2,s3⟩:=hs
 refine Srt.app.mpr ⟨s1,r_Q.mpr ⟨λy hy=> ?_, s2⟩,λa ha b hb=> ?_⟩
 ·have hn:=k_L D h y hy
  rcases hx y (by rw[<-e];exact r_p _ hy) with z | z
  ·rw[hn] at z;cases z
  ·exact z
 ·rcases r_n.mp hb with rfl | hb
  ·exact k_A (P:=λy=>lt y b) a ha
  ·exact s3 a ha b hb
theorem h_i {P:ρ->Bool} {l:List ρ} {x:ρ}:(l.takeWhile P++x::l.dropWhile P).Perm (x::l):=by
 have e:=List.takeWhile_append_dropWhile (p:=P) (l:=l)
 exact List.perm_middle.trans (by rw[e])
theorem Srt.one (ir:∀a,lt a a=false) (tr:∀a b c,lt a b=true->lt b c=true->lt a c=true):∀{l₁ l₂:List ρ},Srt lt l₁->Srt lt l₂->l₁.Perm l₂->l₁=l₂
 | [],l₂,_,_,p=>by rw[List.nil_perm.mp p]
 | a::r, [],_,_,p=>by cases List.perm_nil.mp p
 | a::r,b::t,h1,h2,p=>by
   have h1':=r_Q.mp h1
   have h2':=r_Q.mp h2
   have hab:a=b:=by
    rcases r_n.mp (p.mem_iff.mp (r_g ..)) with q | q
    ·exact q
    ·rcases r_n.mp (p.mem_iff.mpr (r_g ..)) with q' | q'
     ·exact q'.symm
     ·have z:=tr _ _ _ (h1'.1 b q') (h2'.1 a q)
      rw[ir] at z;cases z
   subst hab
   rw[Srt.one ir tr h1'.2 h2'.2 (List.Perm.cons_inv p)]
variable {P:ρ->Bool}
theorem b_5 (D:m_o lt P):∀{B:List (List ρ)},Srt lt B.flatten->(∀b∈B,∃x,b.getLast? =some x/\P x=true)->∀x∈B.flatten,P x=true
 | [],_,_,x,hx=>by cases hx
 | b::B,h,hl,x,hx=>by
   rw[r_F] at h hx
   have h':=Srt.app.mp h
   rcases r_u.mp hx with hx | hx
   ·obtain⟨z,hz,pz⟩:=hl b (r_g ..)
    obtain⟨ys,rfl⟩:=List.getLast?_eq_some_iff.mp hz
    rcases r_u.mp hx with hx | hx
    ·exact D x z ((Srt.app.mp h'.1).2.2 x hx z (r_h.mpr rfl)) pz
    ·rw[r_h.mp hx];exact pz
   ·exact b_5 D h'.2.1 (λc hc=>hl c (r_f _ hc)) x hx
theorem g_B (D:m_o lt P) {b t:List ρ} {z:ρ} (h:Srt lt (b++t)) (hz:b.getLast? =some z) (pz:P z=false):∀y∈t,P y=false:=λy hy=>by
 obtain⟨ys,rfl⟩:=List.getLast?_eq_some_iff.mp hz
 cases e:P y with
 | false=>rfl
 | true=>
   have:=D z y ((Srt.app.mp h).2.2 z (r_p _ (r_h.mpr rfl)) y hy) e
   rw[pz] at this;cases this
theorem l_J {l₁ l₂:List ρ} (h:∀x∈l₁,P x=true):(l₁++l₂).takeWhile P=l₁++l₂.takeWhile P:=List.takeWhile_append_of_pos h
theorem o_h {l₁ l₂:List ρ} (h:∀x∈l₁,P x=true):(l₁++l₂).dropWhile P=l₂.dropWhile P:=List.dropWhile_append_of_pos h
theorem f_f:∀{b t:List ρ},(∀y∈t,P y=false)->(b++t).takeWhile P=b.takeWhile P/\(b++t).dropWhile P=b.dropWhile P++t
 | [], [],_=>⟨rfl,rfl⟩
 | [],y::t,h=>by
   have e:=h y (r_g ..)
   simp[e]
 | x::b,t,h=>by
   obtain⟨h1,h2⟩:=f_f (b:=b) h
   cases e:P x with
   | true=>simp only[List.cons_append,List.takeWhile_cons,List.dropWhile_cons,e,if_true,h1,h2,and_self]
   | false=>simp[e]
theorem h_2 {B₁ B₂:List (List ρ)} {b:List ρ} {x:ρ} (h1:∀y∈B₁.flatten,P y=true) (h2:∀y∈B₂.flatten,P y=false):
 (B₁++(b.takeWhile P++x::b.dropWhile P)::B₂).flatten=(B₁++b::B₂).flatten.takeWhile P++x::(B₁++b::B₂).flatten.dropWhile P:=by
 rw[r_z,r_z,r_F,r_F,l_J h1,o_h h1,(f_f h2).1,(f_f h2).2]
 simp only[List.append_assoc,List.cons_append]
theorem g_j (D:m_o lt P) {B₁ B₂:List (List ρ)} {b:List ρ} (hs:Srt lt (B₁++b::B₂).flatten) (h1:∀y∈B₁.flatten,P y=true) (h2:∀y∈B₂.flatten,P y=false):
 ((B₁++b::B₂).flatten.filter P).length=(B₁.map List.length).sum+(b.takeWhile P).length:=by
 rw[<-c_K D hs,r_z,r_F,l_J h1,(f_f h2).1,r_e,List.length_flatten]
theorem d_E {B:List (List ρ)} (h1:∀y∈B.flatten,P y=true):(B.flatten.filter P).length=(B.map List.length).sum:=by
 rw[List.filter_eq_self.mpr h1,List.length_flatten]
theorem g_4 (ir:∀a,lt a a=false) {B₁ B₂:List (List ρ)} {b:List ρ} {x z:ρ} (hs:Srt lt (B₁++b::B₂).flatten) (hx:x∈(B₁++b::B₂).flatten) (h1:∀y∈B₁.flatten,lt y x=true)
 (hz:b.getLast? =some z) (pz:lt z x=false):x∈b:=by
 rw[r_z,r_F] at hs hx
 rcases r_u.mp hx with hx1 | hx1
 ·have:=h1 x hx1;rw[ir] at this;cases this
 ·rcases r_u.mp hx1 with hx2 | hx2
  ·exact hx2
  ·obtain⟨ys,rfl⟩:=List.getLast?_eq_some_iff.mp hz
   have:=(Srt.app.mp (Srt.app.mp hs).2.1).2.2 z (r_p _ (r_h.mpr rfl)) x hx2
   rw[pz] at this;cases this
theorem o_F (ir:∀a,lt a a=false) {l:List ρ} {x:ρ} (hx:x∈l) (h1:∀y∈l,lt y x=true):False:=by
 have:=h1 x hx;rw[ir] at this;cases this
variable [DecidableEq ρ]
theorem f_B {B₁ B₂:List (List ρ)} {b:List ρ} {x:ρ} (hs:Srt lt (B₁++b::B₂).flatten) (hx:x∈b):
 Srt lt (B₁++b.erase x::B₂).flatten/\(x::(B₁++b.erase x::B₂).flatten).Perm (B₁++b::B₂).flatten:=by
 rw[r_z,r_F] at hs ⊢
 rw[r_z,r_F]
 refine⟨List.Pairwise.sublist (List.Sublist.append (List.Sublist.refl _) (List.Sublist.append List.erase_sublist (List.Sublist.refl _))) hs,?_⟩
 refine List.Perm.trans List.perm_middle.symm (List.Perm.append_left _ ?_)
 exact (List.Perm.append_right _ (List.perm_cons_erase hx).symm:(x::b.erase x++B₂.flatten).Perm (b++B₂.flatten))
end
section
variable {α:Type}
theorem i_N {l₁ l₂:List α} {a b:α}:(l₁++a::l₂).set l₁.length b=l₁++b::l₂:=by
 rw[List.set_append_right _ _ (r_l _),Nat.sub_self,List.set_cons_zero]
theorem f_K {l₁ l₂:List α} {a:α}:(l₁++a::l₂).eraseIdx l₁.length=l₁++l₂:=by
 rw[List.eraseIdx_append_of_length_le (r_l _),Nat.sub_self,List.eraseIdx_zero,List.tail_cons]
theorem c_N {l₁ l₂:List α} {a:α}:(l₁++a::l₂)[l₁.length]? =some a:=by
 rw[List.getElem?_append_right (r_l _),Nat.sub_self,List.getElem?_cons_zero]
theorem d_H {l:List α} {i:Nat} {a:α} (h:l[i]? =some a):∃l₁ l₂,l=l₁++a::l₂/\l₁.length=i:=by
 obtain⟨hi,e⟩:=r_q.mp h
 refine⟨l.take i,l.drop (i+1),?_, by rw[r_y];omega⟩
 rw[<-e,List.getElem_cons_drop,r_P]
end
end TO
namespace TO
open PySem PySem.W PyProof.Rows
abbrev pg (p:Array Nat) (a:Nat):Nat:=p.getD a 0
structure Rear (n:Nat) (p:Array Nat):Prop where
 perm:p.Perm (List.toArray (List.range n))
theorem Rear.size {n:Nat} {p:Array Nat} (h:Rear n p):p.size=n:=by
 have:=h.perm.size_eq;simpa using this
theorem c_1 (p:Array Nat) (a:Nat):pg p a=(p[a]?).getD 0:=Array.getD_eq_getD_getElem?
theorem Rear.lt {n:Nat} {p:Array Nat} (h:Rear n p) {a:Nat} (ha:a < n):pg p a < n:=by
 have hs:=h.size
 have:p[a]'(by omega)∈p:=Array.getElem_mem _
 have:=h.perm.mem_iff.mp this
 rw[c_1,getElem?_pos p a (by omega)]
 simpa using this
theorem Rear.nodup {n:Nat} {p:Array Nat} (h:Rear n p):p.toList.Nodup:=by
 have:=(Array.perm_iff_toList_perm.mp h.perm).nodup_iff.mpr (by simpa using List.nodup_range)
 exact this
theorem Rear.inj {n:Nat} {p:Array Nat} (h:Rear n p) {a b:Nat} (ha:a < n) (hb:b < n) (hab:a≠b):pg p a≠pg p b:=by
 have hs:=h.size
 intro e
 rw[c_1,c_1,getElem?_pos p a (by omega),getElem?_pos p b (by omega)] at e
 have e':p.toList[a]'(by simp;omega)=p.toList[b]'(by simp;omega):=by simpa using e
 have hp:=List.pairwise_iff_getElem.mp h.nodup
 rcases Nat.lt_or_gt_of_ne hab with q | q
 ·exact hp a b _ _ q e'
 ·exact hp b a _ _ q e'.symm
structure SO (n:Nat) (lt:Nat->Nat->Bool):Prop where
 tr:∀a b c,a < n->b < n->c < n->lt a b=true->lt b c=true->lt a c=true
 tri:∀a b,a < n->b < n->a≠b->lt a b=false->lt b a=true
def Up (lt:Nat->Nat->Bool) (p:Array Nat) (m:Nat):Prop:=∀a b,a < b->b < m->lt (pg p a) (pg p b)=true
def Dn (lt:Nat->Nat->Bool) (p:Array Nat) (m:Nat):Prop:=∀a b,a < b->b < m->lt (pg p b) (pg p a)=true
section
variable {n:Nat} {s:Shared} {lt:Nat->Nat->Bool} {cmp:Nat->Nat->(Bool->Shared->Prop)->Shared->Prop}
theorem Up.next (O:SO n lt) {p:Array Nat} (R:Rear n p) {m:Nat} (h:Up lt p m) (h1:1<=m) (hm:m < n) (hl:lt (pg p (m - 1)) (pg p m)=true):Up lt p (m+1):=by
 intro a b hab hb
 by_cases e:b=m
 ·subst e
  by_cases e2:a=b - 1
  ·subst e2;exact hl
  ·exact O.tr _ _ _ (R.lt (by omega)) (R.lt (by omega)) (R.lt hm) (h a (b - 1) (by omega) (by omega)) hl
 ·exact h a b hab (by omega)
theorem Dn.next (O:SO n lt) {p:Array Nat} (R:Rear n p) {m:Nat} (h:Dn lt p m) (h1:1<=m) (hm:m < n) (hl:lt (pg p m) (pg p (m - 1))=true):Dn lt p (m+1):=by
 intro a b hab hb
 by_cases e:b=m
 ·subst e
  by_cases e2:a=b - 1
  ·subst e2;exact hl
  ·exact O.tr _ _ _ (R.lt (by omega)) (R.lt (by omega)) (R.lt (by omega)) hl (h a (b - 1) (by omega) (by omega))
 ·exact h a b hab (by omega)
theorem j_T (O:SO n lt) (hc:∀i j C,i < n->j < n->C (lt i j) s->cmp i j C s) {p:Array Nat} (R:Rear n p) {Q:Nat->Shared->Prop}:
 ∀(f a:Nat),1<=a->a+f=n->Up lt p a->(∀m,a<=m->m<=n->Up lt p m->(m=n\/(m < n/\lt (pg p m) (pg p (m - 1))=true))->Q m s)->(kas_asc p f a).kasWp cmp Q s
 | 0,a,h1,ha,hu,hq=>hq a (r_l _) (by omega) hu (.inl (by omega))
 | f+1,a,h1,ha,hu,hq=>by
   have han:a < n:=by omega
   refine hc _ _ _ (R.lt han) (R.lt (by omega)) ?_
   cases e:lt (pg p a) (pg p (a - 1)) with
   | true=>exact hq a (r_l _) (by omega) hu (.inr ⟨han,e⟩)
   | false=>
     have hl:=O.tri _ _ (R.lt han) (R.lt (by omega)) (R.inj han (by omega) (by omega)) e
     exact j_T O hc R f (a+1) (by omega) (by omega) (hu.next O R h1 han hl) λm hm hm2=>hq m (by omega) hm2
theorem j_w (O:SO n lt) (hc:∀i j C,i < n->j < n->C (lt i j) s->cmp i j C s) {p:Array Nat} (R:Rear n p) {Q:Array Nat×Nat×Nat->Shared->Prop}:
 ∀(f a:Nat),1<=a->a+f=n->Dn lt p a->(∀m,a<=m->m<=n->Dn lt p m->Q (p,m,0) s)->(kas_desc f p a 0).kasWp cmp Q s
 | 0,a,h1,ha,hu,hq=>hq a (r_l _) (by omega) hu
 | f+1,a,h1,ha,hu,hq=>by
   have han:a < n:=by omega
   refine hc _ _ _ (R.lt han) (R.lt (by omega)) ?_
   cases e:lt (pg p a) (pg p (a - 1)) with
   | true=>
     dsimp only;rw[if_pos rfl,if_neg (by omega)]
     exact j_w O hc R f (a+1) (by omega) (by omega) (hu.next O R h1 han e) λm hm hm2=>hq m (by omega) hm2
   | false=>
     have hl:=O.tri _ _ (R.lt han) (R.lt (by omega)) (R.inj han (by omega) (by omega)) e
     refine hc _ _ _ (R.lt (by omega)) (R.lt han) ?_
     rw[show lt (p.getD (a - 1) 0) (p.getD a 0)=true from hl]
     exact hq a (r_l _) (by omega) hu
theorem l_K {p:Array Nat} {m:Nat} (hm:m<=p.size) (k:Nat):pg (kas_rev p 0 m) k=if k < m then pg p (m - 1 - k) else pg p k:=by
 rw[c_1,c_1,c_1]
 unfold kas_rev
 rw[getElem?_mirror_all hm]
 by_cases h:k < m
 ·rw[if_pos ⟨r_E _,h⟩,if_pos h,Nat.zero_add]
 ·rw[if_neg (λq=>h q.2),if_neg h]
theorem Rear.rev {p:Array Nat} (R:Rear n p) (i j:Nat):Rear n (kas_rev p i j):=⟨(mirror_perm _ _ _ _).trans R.perm⟩
theorem Dn.rev {p:Array Nat} (R:Rear n p) {m:Nat} (h:Dn lt p m) (hm:m<=n):Up lt (kas_rev p 0 m) m:=by
 intro a b hab hb
 have hs:=R.size
 rw[l_K (by omega),l_K (by omega),if_pos (by omega),if_pos hb]
 exact h (m - 1 - b) (m - 1 - a) (by omega) (by omega)
theorem k_H (O:SO n lt) (hc:∀i j C,i < n->j < n->C (lt i j) s->cmp i j C s) {p:Array Nat} (R:Rear n p) (hn:1<=n) {Q:Nat×Array Nat->Shared->Prop}
 (hq:∀m p',Rear n p'->1<=m->m<=n->Up lt p' m->Q (m,p') s):(kas_count n p).kasWp cmp Q s:=by
 unfold kas_count
 rw[KasT.kasWp_bind]
 refine j_T O hc R (n - 1) 1 (r_l _) (by omega) (λa b _ _=>by omega) λm h1 hm hu hend=> ?_
 by_cases e:m=n
 ·subst e
  rw[if_pos (by simp)]
  exact hq m p R h1 hm hu
 ·rw[if_neg (by simpa using e)]
  by_cases g:m > 1
  ·rw[if_pos g]
   refine hc _ _ _ (R.lt (by omega)) (R.lt (by omega)) ?_
   rw[hu 0 (m - 1) (by omega) (by omega)]
   exact hq m p R h1 hm hu
  ·rw[if_neg g]
   have e1:m=1:=by omega
   subst e1
   have hl:lt (pg p 1) (pg p 0)=true:=by
    rcases hend with q | q
    ·exact absurd q e
    ·exact q.2
   unfold kas_descPart
   rw[KasT.kasWp_bind]
   refine j_w O hc R (n - 2) 2 (by omega) (by omega) (λa b hab hb=> ?_) λm h2 hm hd=> ?_
   ·have:a=0:=by omega
    have:b=1:=by omega
    subst a b;exact hl
   ·rw[if_neg (by simp)]
    unfold kas_tail3
    rw[KasT.kasWp_bind]
    exact j_T O hc (R.rev 0 m) (n - m) m (by omega) (by omega) (hd.rev R hm) λk hk hk2 hu _=>hq k _ (R.rev 0 m) (by omega) hk2 hu
theorem e_9 (O:SO n lt) (hc:∀i j C,i < n->j < n->C (lt i j) s->cmp i j C s) {p:Array Nat} (R:Rear n p) {k:Nat} (hk:k < n) (hu:Up lt p k) {Q:Nat->Shared->Prop}:
 ∀(f l r:Nat),l<=r->r<=k->r - l<=f->(∀a,a < l->lt (pg p a) (pg p k)=true)->(∀a,r<=a->a < k->lt (pg p k) (pg p a)=true)->
  (∀l,l<=k->(∀a,a < l->lt (pg p a) (pg p k)=true)->(∀a,l<=a->a < k->lt (pg p k) (pg p a)=true)->Q l s)->(kas_place p k f l r).kasWp cmp Q s
 | 0,l,r,h1,h2,h3,ha,hb,hq=>by
   have:l=r:=by omega
   subst this
   exact hq l h2 ha hb
 | f+1,l,r,h1,h2,h3,ha,hb,hq=>by
   unfold kas_place
   by_cases e:l ≥ r
   ·rw[if_pos e]
    have:l=r:=by omega
    subst this
    exact hq l h2 ha hb
   ·rw[if_neg e]
    refine hc _ _ _ (R.lt hk) (R.lt (by omega)) ?_
    cases c:lt (pg p k) (pg p ((l+r) / 2)) with
    | true=>
      refine e_9 O hc R hk hu f l ((l+r) / 2) (by omega) (by omega) (by omega) ha (λa h4 h5=> ?_) hq
      by_cases e3:a=(l+r) / 2
      ·subst e3;exact c
      ·exact O.tr _ _ _ (R.lt hk) (R.lt (by omega)) (R.lt (by omega)) c (hu _ a (by omega) h5)
    | false=>
      have c':=O.tri _ _ (R.lt hk) (R.lt (by omega)) (R.inj hk (by omega) (by omega)) c
      refine e_9 O hc R hk hu f ((l+r) / 2+1) r (by omega) h2 (by omega) (λa h4=> ?_) hb hq
      by_cases e3:a=(l+r) / 2
      ·subst e3;exact c'
      ·exact O.tr _ _ _ (R.lt (by omega)) (R.lt (by omega)) (R.lt hk) (hu a _ (by omega) (by omega)) c'
theorem g_f {p:Array Nat} {k d:Nat} (hk:k < p.size) (hd:d<=k) (a:Nat):pg (bubble p k d) a=if a=k - d then pg p k else if k - d < a/\a<=k then pg p (a - 1) else pg p a:=by
 rw[c_1,c_1,c_1,c_1,getElem?_bubble hk d hd]
 repeat' split
 all_goals rfl
theorem l_N (O:SO n lt) (hc:∀i j C,i < n->j < n->C (lt i j) s->cmp i j C s) {Q:Array Nat->Shared->Prop}:
 ∀(f k:Nat) (p:Array Nat),Rear n p->k+f=n->Up lt p k->(∀p',Rear n p'->Up lt p' n->Q p' s)->(kas_bin f p k).kasWp cmp Q s
 | 0,k,p,R,hk,hu,hq=>by
   have:k=n:=by omega
   subst this
   exact hq p R hu
 | f+1,k,p,R,hk,hu,hq=>by
   unfold kas_bin
   rw[KasT.kasWp_bind]
   have hs:=R.size
   refine e_9 O hc R (by omega) hu k 0 k (by omega) (r_l _) (by omega) (λa h=>by omega) (λa h1 h2=>by omega) λl hl h1 h2=> ?_
   refine l_N O hc f (k+1) _ ⟨(bubble_perm _ _ _).trans R.perm⟩ (by omega) (λa b hab hb=> ?_) hq
   rw[g_f (by omega) (by omega),g_f (by omega) (by omega)]
   have e:k - (k - l)=l:=by omega
   rw[e]
   by_cases a1:a=l
   ·rw[if_pos a1,if_neg (by omega),if_pos (by omega)]
    exact h2 _ (by omega) (by omega)
   ·rw[if_neg a1]
    by_cases a2:l < a/\a<=k
    ·rw[if_pos a2,if_neg (by omega),if_pos (by omega)]
     exact hu _ _ (by omega) (by omega)
    ·rw[if_neg a2]
     by_cases b1:b=l
     ·rw[if_pos b1]
      exact h1 _ (by omega)
     ·rw[if_neg b1]
      by_cases b2:l < b/\b<=k
      ·rw[if_pos b2]
       by_cases b3:a < b - 1
       ·exact hu _ _ b3 (by omega)
       ·omega
      ·rw[if_neg b2]
       exact hu _ _ hab (by omega)
theorem k_f (O:SO n lt) (hc:∀i j C,i < n->j < n->C (lt i j) s->cmp i j C s) (hn:1<=n) {Q:Array Nat->Shared->Prop} (hq:∀p,Rear n p->Up lt p n->Q p s):(kas_sort n).kasWp cmp Q s:=by
 unfold kas_sort
 rw[KasT.kasWp_bind]
 refine k_H O hc ⟨Array.Perm.refl _⟩ hn λm p R h1 h2 hu=> ?_
 by_cases e:m < n
 ·rw[if_pos e]
  have e2:max m 1=m:=by omega
  dsimp only
  rw[e2]
  exact l_N O hc _ m p R (by omega) hu hq
 ·rw[if_neg e]
  have:m=n:=by omega
  subst this
  exact hq p R hu
end
end TO
namespace TO
open PySem L2
theorem b_1 (x:V):ltV x x=false:=by
 cases x <;> simp[ltV]
theorem d_2 {x y z:V} (h1:ltV x y=true) (h2:ltV y z=true):ltV x z=true:=by
 cases x <;> cases y <;> (try simp[ltV] at h1) <;> cases z <;> (try simp[ltV] at h2)
 ·simp only[ltV,decide_eq_true_eq];omega
 ·simp only[ltV,decide_eq_true_eq];exact List.lt_trans h1 h2
theorem n_z {a b:Str} (h:a.cps.toList=b.cps.toList):a=b:=by
 cases a;cases b;simp at h;simp[h]
theorem g_S {x y:V} (ha:b_g x y=true) (h:ltV x y=false) (hn:x≠y):ltV y x=true:=by
 cases x <;> cases y <;> (try cases ha)
 ·rename_i a b
  simp only[ltV,decide_eq_false_iff_not,decide_eq_true_eq] at h ⊢
  have:a≠b:=λe=>hn (by rw[e])
  omega
 ·rename_i a b
  simp only[ltV,decide_eq_false_iff_not,decide_eq_true_eq] at h ⊢
  have hne:a.cps.toList≠b.cps.toList:=λe=>hn (by rw[n_z e])
  have h':b.cps.toList<=a.cps.toList:=h
  rcases List.le_iff_lt_or_eq.mp h' with q | q
  ·exact q
  ·exact absurd q.symm hne
theorem j_K {x y:V} (h:ltV x y=true):ltV y x=false:=by
 cases e:ltV y x with
 | false=>rfl
 | true=>have:=d_2 h e;rw[b_1] at this;cases this
theorem o_c {x y:V} (h:ltV x y=true):x≠y:=λe=>by rw[e,b_1] at h;cases h
theorem d_Y:∀xs:List V,b_b xs xs=false
 | []=>rfl
 | x::r=>by rw[b_h,if_pos rfl];exact d_Y r
theorem c_J:∀{xs ys zs:List V},b_b xs ys=true->b_b ys zs=true->b_b xs zs=true
 | [], [],_,h,_=>by cases h
 | [],_::_, [],_,h=>by cases h
 | [],_::_,_::_,_,_=>rfl
 | _::_, [],_,h,_=>by cases h
 | _::_,_::_, [],_,h=>by cases h
 | x::xs,y::ys,z::zs,h1,h2=>by
   rw[b_h] at h1 h2 ⊢
   by_cases e1:x=y
   ·subst e1
    rw[if_pos rfl] at h1
    by_cases e2:x=z
    ·rw[if_pos e2] at h2 ⊢
     exact c_J h1 h2
    ·rw[if_neg e2] at h2 ⊢
     exact h2
   ·rw[if_neg e1] at h1
    by_cases e2:y=z
    ·subst e2
     rw[if_neg e1]
     exact h1
    ·rw[if_neg e2] at h2
     have h3:=d_2 h1 h2
     rw[if_neg (o_c h3)]
     exact h3
structure Row where
 n:Int
 r:Int
 t:Str
deriving DecidableEq
def d_L (ρ:Row):List V:= [.int ρ.n,.int ρ.r,.str ρ.t]
theorem d_I {ρ ρ':Row} (h:d_L ρ=d_L ρ'):ρ=ρ':=by
 cases ρ;cases ρ';simp[d_L] at h;simp[h]
def c_k (w:Bool) (ρ:Row):V:=if w=true then .str ρ.t else .int ρ.r
def a_I (w:Bool) (ρ:Row):List V:= [c_k w ρ,.int ρ.n]
def ltR (w:Bool) (a b:Row):Bool:=b_b (a_I w a) (a_I w b)
theorem c_H (w:Bool) (a b:Row):b_g (c_k w a) (c_k w b)=true:=by cases w <;> rfl
theorem c_t (w:Bool) (a b:Row):e_h (a_I w a) (a_I w b):=⟨c_H w a b,rfl,trivial⟩
theorem b_G (w:Bool) (a:Row):ltR w a a=false:=d_Y _
theorem c_r (w:Bool) (a b c:Row) (h1:ltR w a b=true) (h2:ltR w b c=true):ltR w a c=true:=c_J h1 h2
theorem g_E {w:Bool} {a b:Row} (hn:a.n≠b.n):ltR w a b=true\/ltR w b a=true:=by
 unfold ltR a_I
 rw[b_h (c_k w a),b_h (c_k w b)]
 by_cases e:c_k w a=c_k w b
 ·rw[if_pos e,if_pos e.symm,b_h (.int a.n),b_h (.int b.n)]
  have n1:¬ V.int a.n=V.int b.n:=λq=>hn (by injection q)
  have n2:¬ V.int b.n=V.int a.n:=λq=>hn (by injection q with q;exact q.symm)
  rw[if_neg n1,if_neg n2]
  simp only[ltV,decide_eq_true_eq]
  omega
 ·rw[if_neg e,if_neg (λq:c_k w b=c_k w a=>e q.symm)]
  cases q:ltV (c_k w a) (c_k w b) with
  | true=>exact .inl rfl
  | false=>exact .inr (g_S (c_H w a b) q e)
theorem b_Q (w:Bool) (q:List V):m_o (ltR w) λx=>b_b (a_I w x) q:=λ_ _ h1 h2=>c_J h1 h2
theorem l_q (w:Bool) (x:Row) (l:V):b_b (a_I w x) [l]=ltV (c_k w x) l:=by
 unfold a_I
 rw[b_h]
 by_cases e:c_k w x=l
 ·rw[if_pos e,e,b_1];rfl
 ·rw[if_neg e]
theorem k_S {w:Bool} {a b:Row} (h:ltR w a b=true):ltV (c_k w b) (c_k w a)=false:=by
 unfold ltR a_I at h
 rw[b_h] at h
 by_cases e:c_k w a=c_k w b
 ·rw[e];exact b_1 _
 ·rw[if_neg e] at h
  exact j_K h
end TO
namespace TO
open PySem PySem.Spec PyProof.Rows L2
def RowAt (H:Hp) (a:Addr) (ρ:Row):Prop:=H a=some (.tup (d_L ρ))
abbrev RowsAt (H:Hp):List Addr->List Row->Prop:=Paired (RowAt H)
def LstAt (H:Hp) (l:Addr) (ρs:List Row):Prop:=∃as:List Addr,H l=some (.lst (as.map .ref))/\RowsAt H as ρs
theorem RowsAt.same {H H':Hp} (s:∀b xs,H b=some (.tup xs)->H' b=some (.tup xs)):∀{as:List Addr} {ρs:List Row},RowsAt H as ρs->RowsAt H' as ρs
 | _,_,.nil=> .nil
 | _,_,.cons h t=> .cons (s _ _ h) (RowsAt.same s t)
theorem RowsAt.app {H:Hp}:∀{as bs:List Addr} {ρs κs:List Row},RowsAt H as ρs->RowsAt H bs κs->RowsAt H (as++bs) (ρs++κs)
 | _,_,_,_,.nil,h=>h
 | _,_,_,_,.cons a t,h=> .cons a (RowsAt.app t h)
theorem RowsAt.get {H:Hp}:∀{as:List Addr} {ρs:List Row} {i:Nat} {ρ:Row},RowsAt H as ρs->ρs[i]? =some ρ->∃a,as[i]? =some a/\RowAt H a ρ
 | _,_,_,_,.nil,e=>by simp at e
 | _,_,0,_,.cons r _,e=>by simp at e;subst e;exact⟨_,rfl,r⟩
 | _,_,i+1,_,.cons _ t,e=>by
   obtain⟨u,h1,h2⟩:=RowsAt.get (i:=i) t (by simpa using e)
   exact⟨u,by simpa using h1,h2⟩
theorem RowsAt.get' {H:Hp}:∀{as:List Addr} {ρs:List Row} {i:Nat} {a:Addr},RowsAt H as ρs->as[i]? =some a->∃ρ,ρs[i]? =some ρ/\RowAt H a ρ
 | _,_,_,_,.nil,e=>by simp at e
 | _,_,0,_,.cons r _,e=>by simp at e;subst e;exact⟨_,rfl,r⟩
 | _,_,i+1,_,.cons _ t,e=>by
   obtain⟨u,h1,h2⟩:=RowsAt.get' (i:=i) t (by simpa using e)
   exact⟨u,by simpa using h1,h2⟩
theorem RowsAt.len {H:Hp} {as:List Addr} {ρs:List Row} (h:RowsAt H as ρs):as.length=ρs.length:=Paired.length h
theorem RowsAt.take {H:Hp}:∀{as:List Addr} {ρs:List Row} (n:Nat),RowsAt H as ρs->RowsAt H (as.take n) (ρs.take n)
 | _,_,0,_=> .nil
 | _,_,_+1,.nil=> .nil
 | _,_,n+1,.cons r t=> .cons r (RowsAt.take n t)
theorem RowsAt.drop {H:Hp}:∀{as:List Addr} {ρs:List Row} (n:Nat),RowsAt H as ρs->RowsAt H (as.drop n) (ρs.drop n)
 | _,_,0,r=>r
 | _,_,_+1,.nil=> .nil
 | _,_,n+1,.cons _ t=>RowsAt.drop n t
theorem RowsAt.eraseIdx {H:Hp}:∀{as:List Addr} {ρs:List Row} (n:Nat),RowsAt H as ρs->RowsAt H (as.eraseIdx n) (ρs.eraseIdx n)
 | _,_,_,.nil=> .nil
 | _,_,0,.cons _ t=>t
 | _,_,n+1,.cons r t=> .cons r (RowsAt.eraseIdx n t)
theorem LstAt.same {H H':Hp} {l:Addr} {ρs:List Row} (h:LstAt H l ρs) (e:H' l=H l) (s:∀b xs,H b=some (.tup xs)->H' b=some (.tup xs)):LstAt H' l ρs:=by
 obtain⟨as,h1,h2⟩:=h
 exact⟨as,e.trans h1,h2.same s⟩
theorem LstAt.sameS {H H':Hp} {l:Addr} {ρs:List Row} (h:LstAt H l ρs) (s:Same H H'):LstAt H' l ρs:=by
 obtain⟨as,h1,h2⟩:=h
 exact⟨as,s _ _ h1,h2.same λb xs q=>s _ _ q⟩
theorem c_3 {α β:Type} (f:α->β):∀(l:List α) (i:Nat),(l.map f).eraseIdx i=(l.eraseIdx i).map f
 | [],_=>rfl
 | _::_,0=>rfl
 | a::r,i+1=>by simp[c_3 f r i]
theorem c_E:∀as:List Addr,Vals (as.map V.ref) (as.map Value.ref)
 | []=> .nil
 | _::r=> .cons rfl (c_E r)
theorem e_q {α:Type} [DecidableEq α] {a:α}:∀{l:List α} {m:Nat},m < l.idxOf a->l[m]?≠some a
 | [],m,h=>by simp
 | x::r,m,h=>by
   rw[List.idxOf_cons] at h
   cases e:x == a with
   | true=>rw[e] at h;simp at h
   | false=>
     rw[e] at h
     cases m with
     | zero=>intro q;simp at q;subst q;simp at e
     | succ m=>
       rw[List.getElem?_cons_succ]
       exact e_q (by simpa using h)
section
variable {X:Cx}
theorem o_p {pins:List (Addr×Obj)} {σ:L2.St} {H:Hp} {s:Shared} {A:Around} (I:Inv X pins σ H s) {a b:Addr} {ρ ρ':Row} (hb:RowAt H b ρ') (ha:RowAt H a ρ) (hu:A.units < cLine):SeqAt.EqAt A s (.ref b) (.ref a) (decide (ρ'=ρ)):=by
 by_cases e:b=a
 ·subst e
  have:ρ'=ρ:=d_I (by have:=hb.symm.trans ha;injection this with this;injection this)
  subst this
  rw[r_S rfl]
  exact SeqAt.EqAt.same _
 ·obtain⟨ib,rb,pb,_⟩:=I.tuple (SqT.of hb:SqT X.K H b (d_L ρ'))
  obtain⟨ia,ra,pa,_⟩:=I.tuple (SqT.of ha:SqT X.K H a (d_L ρ))
  have lb:=rb.length
  have la:=ra.length
  have hlb:ib.length=3:=by rw[<-lb];rfl
  have hla:ia.length=3:=by rw[<-la];rfl
  have z:=SeqAt.RcAt.tuples (A:=A) (s:=s) (l:=b) (b:=a) (items:=ib.toArray) (items2:=ia.toArray) (e:=λj=>decide ((d_L ρ')[j]? =(d_L ρ)[j]?)) pb pa hu (λj h1 h2=>by
   have h1':j < 3:=by simpa[hlb] using h1
   have g1:∃x,(d_L ρ')[j]? =some x:=⟨_,r_d (show j < 3 from h1')⟩
   have g2:∃x,(d_L ρ)[j]? =some x:=⟨_,r_d (show j < 3 from h1')⟩
   obtain⟨x,ex⟩:=g1
   obtain⟨y,ey⟩:=g2
   obtain⟨u,eu,ru⟩:=rb.get ex
   obtain⟨v,ev,rv⟩:=ra.get ey
   have q1:ib.toArray[j]=u:=by
    have:ib[j]? =some ib[j]:=r_d (by omega)
    rw[this] at eu
    simpa using eu
   have q2:ia.toArray[j]=v:=by
    have:ia[j]? =some ia[j]:=r_d (by omega)
    rw[this] at ev
    simpa using ev
   rw[q1,q2,ex,ey]
   have al:b_g x y=true:=by
    match j,h1' with
    | 0,_=>simp[d_L] at ex ey;subst ex ey;rfl
    | 1,_=>simp[d_L] at ex ey;subst ex ey;rfl
    | 2,_=>simp[d_L] at ex ey;subst ex ey;rfl
   have:=d_p (A:=A.in1) (s:=s) ru rv al
   have e2:decide (some x=some y)=decide (x=y):=by simp
   rw[e2]
   exact this)
  refine SeqAt.EqAt.of_refs e ?_
  have e3:((List.range (min ib.toArray.size ia.toArray.size)).all (λj=>decide ((d_L ρ')[j]? =(d_L ρ)[j]?))&&ib.toArray.size == ia.toArray.size)=decide (ρ'=ρ):=by
   rw[r_m,r_m,hlb,hla]
   by_cases q:ρ'=ρ
   ·subst q;simp
   ·rw[r_T q]
    cases c:((List.range (min 3 3)).all (λj=>decide ((d_L ρ')[j]? =(d_L ρ)[j]?))&&(3:Nat) == 3) with
    | false=>rfl
    | true=>
      exfalso
      apply q
      apply d_I
      simp[List.range,List.range.loop,d_L] at c
      simp[d_L,c]
  rw[e3] at z
  exact z
def m_A:V->List V->Hp->VK->Prop:=λx vs H Q=>∃l,∃as:List Addr,∃a,∃ρs:List Row,∃ρ,x= .ref l/\vs= [.ref a]/\H l=some (.lst (as.map .ref))/\RowsAt H as ρs/\RowAt H a ρ/\ρ∈ρs/\
 Q .non (upd H l (.lst ((as.eraseIdx (ρs.idxOf ρ)).map .ref)))
theorem j_i (hu:X.A.units+1 < cLine):MtM X "list.remove" m_A:=by
 intro pins s σ H x vs v us Q I rx rv h
 obtain⟨l,as,a,ρs,ρ,rfl,rfl,hH,hR,ha,hm,q⟩:=h
 cases rx
 obtain⟨u,rfl,ru⟩:=rv.one
 cases ru
 obtain⟨z,its,n,r,hl,e⟩:=I.lstM hH
 have e1:=b_A r
 subst e1
 have hlen:=hR.len
 have hj:ρs.idxOf ρ < ρs.length:=List.idxOf_lt_length_of_mem hm
 let ev:Value->Bool:=λv=>match v with
  | .ref b=>(match H b with | some (.tup ys)=>decide (ys=d_L ρ) | _=>false)
  | _=>false
 have hev:∀b ρ',RowAt H b ρ'->ev (.ref b)=decide (ρ'=ρ):=λb ρ' hb=>by
  show (match H b with | some (.tup ys)=>decide (ys=d_L ρ) | _=>false)=_
  rw[show H b=_ from hb]
  by_cases q:ρ'=ρ
  ·subst q;simp
  ·rw[r_T q]
   exact r_T λq'=>q (d_I q')
 have hsz:(as.map Value.ref).toArray.size<=sizeLine:=by rw[r_m,<-hl];exact z
 have hjs:ρs.idxOf ρ < (as.map Value.ref).toArray.size:=by simp;omega
 have item:∀m (hm:m < (as.map Value.ref).toArray.size),∃b ρ',(as.map Value.ref).toArray[m]= .ref b/\ρs[m]? =some ρ'/\RowAt H b ρ':=λm hm=>by
  have hm':m < as.length:=by simpa using hm
  obtain⟨ρ',h1,h2⟩:=hR.get' (r_d hm')
  exact⟨as[m],ρ',by simp,h1,h2⟩
 refine call_meets F.slot_list_remove ⟨_,e,rfl⟩ F.entry_list_remove (F.args_list_remove_2 _ _) (SeqAt.list_removeAt l (as.map Value.ref).toArray n (.ref a) ev (ρs.idxOf ρ) hjs ?_ ?_ hsz) ⟨e,λy hy=> ?_, ?_⟩
 ·obtain⟨b,ρ',e1,e2,hb⟩:=item _ hjs
  rw[e1,hev b ρ' hb]
  rw[r_d hj,List.getElem_idxOf hj] at e2
  cases e2
  exact r_S rfl
 ·intro m hm hlt
  obtain⟨b,ρ',e1,e2,hb⟩:=item m hm
  rw[e1,hev b ρ' hb]
  refine r_T λq=> ?_
  subst q
  exact e_q hlt e2
 ·obtain⟨m,hm,e1⟩:=Array.getElem_of_mem hy
  obtain⟨b,ρ',e2,e3,hb⟩:=item m hm
  rw[<-e1,e2,hev b ρ' hb]
  exact o_p I hb ha (by first | exact hu | simpa using hu)
 ·refine⟨.non,_,I.lset (its':=(as.eraseIdx (ρs.idxOf ρ)).map Value.ref) hH e ?_ ?_ ?_, rfl,q⟩
  ·show (as.map Value.ref).toArray.eraseIdxIfInBounds (ρs.idxOf ρ)=_
   rw[List.eraseIdxIfInBounds_toArray,c_3]
  ·exact c_E _
  ·rw[r_c]
   have:=e_o as (ρs.idxOf ρ)
   rw[r_c] at hl z
   omega
end
end TO
namespace K1
open PySem L2 TO
def e_v (w:Bool):Str:=if w=true then "text" else "rank"
theorem f_E:¬ (("text":Str)="rank"):=by decide+kernel
theorem wb:¬ (("word":Str)="blocks"):=by decide+kernel
def f_I (w:Bool) (bl:Addr):List (Str×V):=d_m "blocks" (.ref bl) (d_m "word" (.str (e_v w)) [])
theorem b_J (w:Bool) (bl:Addr):(f_I w bl).lookup ("word":Str)=some (.str (e_v w)):=by
 unfold f_I
 rw[b_k,if_neg wb,b_k,if_pos rfl]
theorem a_A (w:Bool) (bl:Addr):(f_I w bl).lookup ("blocks":Str)=some (.ref bl):=by
 unfold f_I
 rw[b_k,if_pos rfl]
theorem a_X (w:Bool) (bl:Addr) {m:Str} (h1:¬ m="blocks") (h2:¬ m="word"):(f_I w bl).lookup m=none:=by
 unfold f_I
 rw[b_k,if_neg h1,b_k,if_neg h2]
 all_goals rfl
structure Txt (K:PySem.W.Frag) (mg:Str->Option Value) (C:Addr):Prop where
 cl:Cls K C
 nW:NoAttr K C "word"
 nB:NoAttr K C "blocks"
 mgC:mg "Order"=some (.ref C)
 rank:∃t,mg "RANK_WORD"=some (.str "rank" t)
 text:∃t,mg "TEXT_WORD"=some (.str "text" t)
 most:∃t,mg "MOST_IN_A_BLOCK"=some (.int 8 t)
 least:∃t,mg "LEAST_IN_TWO_BLOCKS"=some (.int 5 t)
 len:mg "len"=none
 min:mg "min"=none
 sum:mg "sum"=none
theorem d_C {X:Cx} {x v:Str} {t:Tok} {pos:Pos} (hm:X.mg x=some (.str v t)) (hg:Gl X x:=by rfl) (hd:(x == ("__debug__":Str))=false:=by decide):PE X (.Name x pos) (tC (.str v)):=g_Q hg hm ⟨t,rfl⟩ hd
theorem p_e {X:Cx} {x:Str} {v:Int} {t:Tok} {pos:Pos} (hm:X.mg x=some (.int v t)) (hg:Gl X x:=by rfl) (hd:(x == ("__debug__":Str))=false:=by decide):PE X (.Name x pos) (tC (.int v)):=g_Q hg hm ⟨t,rfl⟩ hd
structure Gf (K:PySem.W.Frag) (mg:Str->Option Value) (x:Str) (f:Addr) (fd:FuncData) (ps:List Str):Prop where
 mg:mg x=some (.ref f)
 kp:PySem.W.keepIn K (.ref f)=true
 b:Binds K fd ps []
section
variable {P:Program} {w:World} {K:PySem.W.Frag} {mg:Str->Option Value} {base:Heap}
def q_z:Sp:=λvs H Q _=>∃w,vs= [.str (e_v w)]/\Q .non H
theorem q_B:a_s ["word"] ["word"] (a_m sCW):=⟨rfl,rfl,rfl,by decide+kernel,rfl,by decide+kernel,by decide+kernel⟩
theorem p_J {f C:Addr} {fd:FuncData} (F:Fun K "check_word" "check_word" sCW f fd) (T:Txt K mg C):FnOk P w K mg base CX0 1 f fd ["word"] q_z:=by
 refine F.ok q_B (λvs H Q E h=> ?_) (λcdv A outer s H vs Q E hr h=> ?_)
 ·obtain⟨w,rfl,_⟩:=h
  rfl
 ·obtain⟨w,rfl,k⟩:=h
  obtain⟨t1,h1⟩:=T.rank
  obtain⟨t2,h2⟩:=T.text
  refine⟨_,a_g (a_C (PW.pt (e_j (a_k d_D (pv 0) (d_C h1) (a_o _)) (c_Y (a_k d_D (pv 0) (d_C h2) (a_o _))))) (a_g l_s) a_q),?_⟩
  refine⟨_,rfl,rfl,_,rfl,?_⟩
  cases w with
  | false=>exact k
  | true=>
    refine a_x (λ_=> ?_) (λ_=>k)
    refine⟨_,rfl,rfl,_,rfl,?_⟩
    exact k
def k_b:Sp:=λvs H Q _=>∃w a ρ,vs= [.str (e_v w),.ref a]/\RowAt H a ρ/\Q (c_k w ρ) H
theorem n_6:a_s ["word","row"] ["word","row"] (a_m m_k):=⟨rfl,rfl,rfl,by decide+kernel,rfl,by decide+kernel,by decide+kernel⟩
theorem n_D {f C:Addr} {fd:FuncData} (F:Fun K "lead_of" "lead_of" m_k f fd) (T:Txt K mg C):FnOk P w K mg base CX0 1 f fd ["word","row"] k_b:=by
 refine F.ok n_6 (λvs H Q E h=> ?_) (λcdv A outer s H vs Q E hr h=> ?_)
 ·obtain⟨w,a,ρ,rfl,_⟩:=h
  rfl
 ·obtain⟨w,a,ρ,rfl,ha,k⟩:=h
  obtain⟨t1,h1⟩:=T.rank
  refine⟨_,a_c (a_C (a_k a_H (pv 0) (d_C h1) (a_o _)) (a_g (a_n (a_r a_p (pv 1) a_f (λ_ _=>rfl)))) a_q)
   (a_g (a_n (a_r a_p (pv 1) a_f (λ_ _=>rfl)))),?_⟩
  refine⟨_,rfl,rfl,_,rfl,?_⟩
  cases w with
  | false=>exact⟨_,rfl,a,_,_,_,rfl,rfl,SqT.of ha,a_e (j:=1) rfl,k⟩
  | true=>exact⟨_,rfl,a,_,_,_,rfl,rfl,SqT.of ha,a_e (j:=2) rfl,k⟩
def g_3:Sp:=λvs H Q _=>∃w a ρ,vs= [.str (e_v w),.ref a]/\RowAt H a ρ/\∀k,H k=none->Q (.ref k) (upd H k (.tup (a_I w ρ)))
theorem q_d:a_s ["word","row"] ["word","row"] (a_m p_j):=⟨rfl,rfl,rfl,by decide+kernel,rfl,by decide+kernel,by decide+kernel⟩
theorem n_0 {f fL C:Addr} {fd fdL:FuncData} (F:Fun K "key_of" "key_of" p_j f fd) (T:Txt K mg C) (gL:Gf K mg "lead_of" fL fdL ["word","row"]) (GL:FnOk P w K mg base CX0 1 fL fdL ["word","row"] k_b):
 FnOk P w K mg base CX0 2 f fd ["word","row"] g_3:=by
 refine F.ok q_d (λvs H Q E h=> ?_) (λcdv A outer s H vs Q E hr h=> ?_)
 ·obtain⟨w,a,ρ,rfl,_⟩:=h
  rfl
 ·obtain⟨w,a,ρ,rfl,ha,k⟩:=h
  refine⟨_,a_g (a_n (a_J (a_a (a_j GL hr rfl gL.mg gL.kp gL.b .nil a_u (a_a (pv 0) (a_a (pv 1) a_d))) (a_a (a_r a_p (pv 1) a_f (λ_ _=>rfl)) a_d)))),?_⟩
  refine⟨_,rfl,_,rfl,w,a,ρ,rfl,ha,?_⟩
  exact⟨_,rfl,a,_,_,_,rfl,rfl,SqT.of ha,a_e (j:=0) rfl,by show 2<=sizeLine;decide,k⟩
structure OrdAt (C:Addr) (w:Bool) (H:Hp) (o bl:Addr) (bas:List Addr) (B:List (List Row)):Prop where
 ob:∃dx,H o=some (.ins C dx (f_I w bl))
 ls:H bl=some (.lst (bas.map .ref))
 bs:Paired (LstAt H) bas B
 nd:(bl::bas).Nodup
structure Stp (H H':Hp) (fp fp':List Addr):Prop where
 keep:∀b u,H b=some u->b∉fp->H' b=some u
 new:∀b∈fp',b∈fp\/H b=none
theorem Stp.of_same {H H':Hp} {fp:List Addr} (s:Same H H'):Stp H H' fp fp:=⟨λb u h _=>s b u h,λb h=> .inl h⟩
theorem OrdAt.same {C:Addr} {w:Bool} {H H':Hp} {o bl:Addr} {bas:List Addr} {B:List (List Row)} (h:OrdAt C w H o bl bas B) (s:Same H H'):OrdAt C w H' o bl bas B:=by
 obtain⟨⟨dx,h1⟩,h2,h3,h4⟩:=h
 exact⟨⟨dx,s _ _ h1⟩,s _ _ h2,Paired.mapP h3 λ_ _ q=>q.sameS s,h4⟩
theorem a_T {α β:Type} {F:α->β->Prop}:∀{l₁:List α} {l₂:List β} {i:Nat} {b:β},Paired F l₁ l₂->l₂[i]? =some b->∃a,l₁[i]? =some a/\F a b
 | _,_,_,_,.nil,e=>by simp at e
 | _,_,0,_,.cons r _,e=>by simp at e;subst e;exact⟨_,rfl,r⟩
 | _,_,i+1,_,.cons _ t,e=>by
   obtain⟨u,h1,h2⟩:=a_T (i:=i) t (by simpa using e)
   exact⟨u,by simpa using h1,h2⟩
theorem Same.upd_new {H:Hp} {a:Addr} {o:HO} (h:H a=none):Same H (upd H a o):=λb u e=>by rw[a_i (a_h e h)];exact e
theorem j_E {α:Type} {P:α->Bool}:∀{l:List α} {i:Nat},(∀x∈l.take i,P x=true)->i<=l.length->(i=l.length\/∃x,l[i]? =some x/\P x=false)->(l.takeWhile P).length=i
 | [],i,_,h,_=>by simp at h;subst h;rfl
 | x::r,0,_,_,h=>by
   rcases h with h | ⟨y,h1,h2⟩
   ·simp at h
   ·simp at h1;subst h1;simp[h2]
 | x::r,i+1,h1,h2,h3=>by
   have hx:P x=true:=h1 x (by simp)
   rw[List.takeWhile_cons]
   simp only[hx,if_true,r_i]
   congr 1
   refine j_E (λy hy=>h1 y (by simp[hy])) (by simpa using h2) ?_
   rcases h3 with h3 | ⟨y,h3,h4⟩
   ·left;simpa using h3
   ·right;exact⟨y,by simpa using h3,h4⟩
def p_0 (C:Addr):Sp:=λvs H Q _=>∃(w:Bool) (o bl dx b k:Addr) (ρs:List Row) (q:List V),vs= [.ref o,.ref b,.ref k]/\H o=some (.ins C dx (f_I w bl))/\LstAt H b ρs/\H k=some (.tup q)/\(∀ρ,e_h (a_I w ρ) q)/\
 ∀H',Same H H'->Q (.int (ρs.takeWhile λx=>b_b (a_I w x) q).length) H'
theorem p_y:a_s ["self","block","key","ahead"] ["self","block","key"] (a_m sRA):=⟨rfl,rfl,rfl,by decide+kernel,rfl,by decide+kernel,by decide+kernel⟩
theorem p_F {f fK C:Addr} {fd fdK:FuncData} (F:Fun K "rows_ahead" "Order.rows_ahead" sRA f fd) (T:Txt K mg C) (gK:Gf K mg "key_of" fK fdK ["word","row"]) (GK:FnOk P w K mg base CX0 2 fK fdK ["word","row"] g_3):
 FnOk P w K mg base CX0 3 f fd ["self","block","key"] (p_0 C):=by
 refine F.ok p_y (λvs H Q E h=> ?_) (λcdv A outer s H vs Q E hr h=> ?_)
 ·obtain⟨w,o,bl,dx,b,k,ρs,q,rfl,_⟩:=h
  rfl
 ·obtain⟨w,o,bl,dx,b,k,ρs,q,rfl,ho,⟨as,hb,hR⟩,hk,hal,fin⟩:=h
  have hu:=e_G hr
  refine⟨_,a_c (a_w (i:=3) p_y.nd rfl (Or.inl rfl) a_f)
   (a_c (d_g PassesOwn.never (PW.pt (e_j (a_k e_E (pv 3) (a_y a_v (by rfl) T.len r_V (a_a (pv 1) a_d)) (a_o _))
     (c_Y (a_k (j_M hr.units0) (a_j GK hr rfl gK.mg gK.kp gK.b .nil a_u (a_a (a_D (pv 0) rfl) (a_a (a_r a_M (pv 1) (pv 3) (λ_ _=>rfl)) a_d))) (pv 2) (a_o _)))))
     (a_g (a_w (i:=3) p_y.nd rfl (Or.inl rfl) (a_t a_S (pv 3) a_f))))
   (a_g (a_n (pv 3)))),?_⟩
  have hlen:=hR.len
  refine⟨λm σ H1=>∃i:Nat,σ= [some (.ref o),some (.ref b),some (.ref k),some (.int i)]/\Same H H1/\i<=ρs.length/\m=ρs.length - i/\∀x∈ρs.take i,b_b (a_I w x) q=true,
   ⟨_,0,rfl,Same.refl _,r_E _,rfl,by simp⟩,?_⟩
  rintro m σ H1 ⟨i,rfl,s1,hi,rfl,hp⟩
  refine⟨_,rfl,_,rfl,b,_,rfl,.inl (SqL.of (s1 _ _ hb)),_,_,rfl,rfl,_,rfl,?_⟩
  refine a_x (λc=> ?_) (λc=> ?_)
  ·have hi':i < ρs.length:=by
    have:=r_U c
    simp only[r_c] at this
    omega
   obtain⟨x,hx⟩:∃x,ρs[i]? =some x:=⟨_,r_d hi'⟩
   obtain⟨a,ha,hr'⟩:=hR.get hx
   refine⟨_,rfl,o,C,dx,_,_,rfl,s1 _ _ ho,T.cl,T.nW,b_J _ _,_,rfl,_,rfl,b,_,_,_,rfl,rfl,SqL.of (s1 _ _ hb),a_e (j:=i) (by rw[r_o,ha];rfl),w,a,x,rfl,s1 _ _ hr',λk' hk'=> ?_⟩
   refine⟨_,rfl,k',k,_,_,rfl,rfl,SqT.of a_b,SqT.of ((Same.upd_new hk') _ _ (s1 _ _ hk)),hal x,_,rfl,?_⟩
   refine a_x (λc2=> ?_) (λc2=> ?_)
   ·refine⟨λσ' H'=>∃i':Nat,i < i'/\σ'= [some (.ref o),some (.ref b),some (.ref k),some (.int i')]/\Same H H'/\i'<=ρs.length/\∀x∈ρs.take i',b_b (a_I w x) q=true,?_, ?_⟩
    ·rintro σ' H' ⟨i',h1,h2,h3,h4,h5⟩
     exact⟨ρs.length - i',by omega,i',h2,h3,h4,rfl,h5⟩
    ·refine⟨_,rfl,_,_,rfl,rfl,i+1,by omega,rfl,s1.trans (Same.upd_new hk'),hi',λy hy=> ?_⟩
     rw[r_D,hx] at hy
     rcases r_u.mp hy with hy | hy
     ·exact hp y hy
     ·simp at hy;subst hy;exact c2
   ·refine⟨_,rfl,?_⟩
    rw[<-j_E (P:=λx=>b_b (a_I w x) q) hp hi (.inr ⟨x,hx,by simpa using c2⟩)]
    exact fin _ (s1.trans (Same.upd_new hk'))
  ·refine g_u ?_
   refine⟨_,rfl,?_⟩
   have hi':i=ρs.length:=by
    have:¬ ((i:Int) < _):=λz=>c (r_S z)
    simp only[r_c] at this
    omega
   rw[<-j_E (P:=λx=>b_b (a_I w x) q) hp hi (.inl hi')]
   exact fin _ s1
def b_n (w:Bool) (q:List V) (b:List Row):Bool:=match b.getLast? with
 | some z=>b_b (a_I w z) q
 | none=>false
theorem d_0 {w:Bool} {q:List V} {B:List (List Row)} (hs:Srt (ltR w) B.flatten) (hne:∀b∈B,b≠ []) {i j:Nat} {b c:List Row} (hi:B[i]? =some b) (hj:B[j]? =some c) (hij:i<=j) (h:b_n w q c=true):b_n w q b=true:=by
 by_cases e:i=j
 ·subst e;rw[hi] at hj;cases hj;exact h
 ·obtain⟨l₁,l₂,rfl,rfl⟩:=d_H hi
  have hb:=hne b (by simp)
  have hc:c∈l₂:=by
   rw[List.getElem?_append_right (by omega)] at hj
   obtain⟨k,hk⟩:∃k,j - l₁.length=k+1:=⟨j - l₁.length - 1,by omega⟩
   rw[hk,List.getElem?_cons_succ] at hj
   exact r_C hj
  unfold b_n at h ⊢
  cases eb:b.getLast? with
  | none=>rw[List.getLast?_eq_none_iff] at eb;exact absurd eb hb
  | some z=>
    cases ec:c.getLast? with
    | none=>rw[ec] at h;cases h
    | some y=>
      rw[ec] at h
      rw[r_z,r_F,Srt.app] at hs
      have zb:z∈b:=by obtain⟨ys,rfl⟩:=List.getLast?_eq_some_iff.mp eb;simp
      have yc:y∈l₂.flatten:=List.mem_flatten.mpr ⟨c,hc,by obtain⟨ys,rfl⟩:=List.getLast?_eq_some_iff.mp ec;simp⟩
      exact b_Q w q z y ((Srt.app.mp hs.2.1).2.2 z zb y yc) h
def o_R (C:Addr):Sp:=λvs H Q _=>∃(w:Bool) (o bl k:Addr) (bas:List Addr) (B:List (List Row)) (q:List V),vs= [.ref o,.ref k]/\OrdAt C w H o bl bas B/\H k=some (.tup q)/\(∀ρ,e_h (a_I w ρ) q)/\Srt (ltR w) B.flatten/\(∀b∈B,b≠ [])/\
 ∀(B₁ B₂:List (List Row)) H',Same H H'->B=B₁++B₂->(∀b∈B₁,b_n w q b=true)->(∀b∈B₂,b_n w q b=false)->Q (.int B₁.length) H'
theorem n_S:a_s ["self","key","low","high","middle"] ["self","key"] (a_m sBA):=⟨rfl,rfl,rfl,by decide+kernel,rfl,by decide+kernel,by decide+kernel⟩
theorem p_3 {f fK C:Addr} {fd fdK:FuncData} (F:Fun K "blocks_ahead" "Order.blocks_ahead" sBA f fd) (T:Txt K mg C) (gK:Gf K mg "key_of" fK fdK ["word","row"]) (GK:FnOk P w K mg base CX0 2 fK fdK ["word","row"] g_3):
 FnOk P w K mg base CX0 3 f fd ["self","key"] (o_R C):=by
 refine F.ok n_S (λvs H Q E h=> ?_) (λcdv A outer s H vs Q E hr h=> ?_)
 ·obtain⟨w,o,bl,k,bas,B,q,rfl,_⟩:=h
  rfl
 ·obtain⟨w,o,bl,k,bas,B,q,rfl,O,hk,hal,hs,hne,fin⟩:=h
  obtain⟨⟨dx,ho⟩,hbl,hbs,hnd⟩:=id O
  refine⟨_,a_c (a_w (i:=2) n_S.nd rfl (Or.inl rfl) a_f)
   (a_c (a_w (i:=3) n_S.nd rfl (Or.inl rfl) (a_y a_v (by rfl) T.len r_V (a_a (a_D (pv 0) rfl) a_d)))
   (a_c (d_g PassesOwn.never (a_k e_E (pv 2) (pv 3) (a_o _))
     (a_c (a_w (i:=4) n_S.nd rfl (Or.inl rfl) (a_t a_2 (a_t a_S (pv 2) (pv 3)) a_f))
     (a_g (a_C (a_k (j_M hr.units0) (a_j GK hr rfl gK.mg gK.kp gK.b .nil a_u (a_a (a_D (pv 0) rfl) (a_a (a_r a_M (a_r a_M (a_D (pv 0) rfl) (pv 4) (fun _ _=>rfl)) (o_k l_0 a_f) (fun _ _=>rfl)) a_d))) (pv 1) (a_o _))
       (a_g (a_w (i:=2) n_S.nd rfl (Or.inl rfl) (a_t a_S (pv 4) a_f)))
       (a_g (a_w (i:=3) n_S.nd rfl (Or.inl rfl) (pv 4)))))))
   (a_g (a_n (pv 2))))),?_⟩
  have hlen:bas.length=B.length:=Paired.length hbs
  refine⟨_,rfl,o,C,dx,_,_,rfl,ho,T.cl,T.nB,a_A _ _,bl,_,rfl,.inl (SqL.of hbl),?_⟩
  refine⟨λm σ H1=>∃(lo hi:Nat) (v:Option V),σ= [some (.ref o),some (.ref k),some (.int lo),some (.int hi),v]/\Same H H1/\lo<=hi/\hi<=B.length/\m=hi - lo/\(∀i b,i < lo->B[i]? =some b->b_n w q b=true)/\(∀i b,hi<=i->B[i]? =some b->b_n w q b=false),
   ⟨_,0,B.length,none,by simp[L2.start,hlen],Same.refl _,r_E _,r_l _,rfl,λ_ _ h=>by omega,λi b h1 h2=> ?_⟩,?_⟩
  ·rw[List.getElem?_eq_none_iff.mpr h1] at h2;cases h2
  rintro m σ H1 ⟨lo,hi,v,rfl,s1,h1,h2,rfl,h3,h4⟩
  refine⟨_,rfl,_,rfl,_,_,rfl,rfl,_,rfl,?_⟩
  refine a_x (λc=> ?_) (λc=> ?_)
  ·have hlt:lo < hi:=by have:=r_U c;omega
   refine⟨λσ' H'=>∃(lo' hi':Nat) (v:Option V),σ'= [some (.ref o),some (.ref k),some (.int lo'),some (.int hi'),v]/\Same H H'/\lo'<=hi'/\hi'<=B.length/\hi' - lo' < hi - lo/\(∀i b,i < lo'->B[i]? =some b->b_n w q b=true)/\(∀i b,hi'<=i->B[i]? =some b->b_n w q b=false),?_, ?_⟩
   ·rintro σ' H' ⟨lo',hi',v',e1,e2,e3,e4,e5,e6,e7⟩
    exact⟨hi' - lo',e5,lo',hi',v',e1,e2,e3,e4,rfl,e6,e7⟩
   have hm1:(lo+hi) / 2 < B.length:=by omega
   obtain⟨b,hb⟩:∃b,B[(lo+hi) / 2]? =some b:=⟨_,r_d hm1⟩
   obtain⟨a,ha,as,hla,hRa⟩:=a_T hbs hb
   have hbn:=hne b (r_C hb)
   obtain⟨ys,z,rfl⟩:∃ys z,b=ys++ [z]:=⟨b.dropLast,b.getLast hbn,(List.dropLast_concat_getLast hbn).symm⟩
   obtain⟨as',az,rfl,hza⟩:∃as' az,as=as'++ [az]/\RowAt H az z:=by
    have hl:=hRa.len
    rw[r_e,r_K] at hl
    have hn:as≠ []:=by intro e;subst e;simp at hl
    refine⟨as.dropLast,as.getLast hn,(List.dropLast_concat_getLast hn).symm,?_⟩
    obtain⟨az,h1,h2⟩:=hRa.get (i:=ys.length) (ρ:=z) (by simp)
    have:as.getLast hn=az:=by
     rw[List.getLast_eq_getElem]
     have:as[as.length - 1]? =some az:=by rw[hl,Nat.add_sub_cancel];exact h1
     rw[r_d (by omega)] at this
     exact r_j this
    rw[this];exact h2
   have hmid:((lo:Int)+(hi:Int)) / 2=(((lo+hi) / 2:Nat):Int):=by omega
   refine⟨_,rfl,_,rfl,_,_,rfl,rfl,_,_,rfl,rfl,⟨by decide,by decide⟩,?_⟩
   refine⟨_,rfl,o,C,dx,_,_,rfl,s1 _ _ ho,T.cl,T.nW,b_J _ _,_,rfl,o,C,dx,_,_,rfl,s1 _ _ ho,T.cl,T.nB,a_A _ _,_,rfl,bl,_,_,_,rfl,rfl,SqL.of (s1 _ _ hbl),(by rw[hmid];exact a_e (by rw[r_o,ha];rfl)),_,rfl,a,_,_,_,rfl,rfl,SqL.of (s1 _ _ hla),(by rw[r_k];exact k_V _ _),w,az,z,rfl,s1 _ _ hza,λk' hk'=> ?_⟩
   refine⟨_,rfl,k',k,_,_,rfl,rfl,SqT.of a_b,SqT.of ((Same.upd_new hk') _ _ (s1 _ _ hk)),hal z,_,rfl,?_⟩
   have hlz:b_n w q (ys++ [z])=b_b (a_I w z) q:=by unfold b_n;rw[List.getLast?_concat]
   refine a_x (λc2=> ?_) (λc2=> ?_)
   ·have e:((lo:Int)+hi) / 2+1=(((lo+hi) / 2+1:Nat):Int):=by omega
    refine⟨_,rfl,_,_,rfl,rfl,(lo+hi) / 2+1,hi,_,(by rw[<-e];rfl),s1.trans (Same.upd_new hk'),by omega,h2,by omega,λi c hi' hc=> ?_, h4⟩
    exact d_0 hs hne hc hb (by omega) (by rw[hlz];exact c2)
   ·refine⟨_,rfl,lo,(lo+hi) / 2,_,(by rw[<-hmid];rfl),s1.trans (Same.upd_new hk'),by omega,by omega,by omega,h3,λi c hi' hc=> ?_⟩
    cases q':b_n w q c with
    | false=>rfl
    | true=>
      have:=d_0 hs hne hb hc hi' q'
      rw[hlz] at this
      exact absurd this c2
  ·have hlt:lo=hi:=by have:¬ (lo:Int) < hi:=λz=>c (r_S z);omega
   subst hlt
   refine⟨_,rfl,?_⟩
   have hz:B=B.take lo++B.drop lo:=(r_P lo B).symm
   have:=fin (B.take lo) (B.drop lo) H1 s1 hz (λb hb=> ?_) (λb hb=> ?_)
   ·rw[r_y,Nat.min_eq_left h2] at this
    exact this
   ·obtain⟨i,hi,e⟩:=List.mem_take_iff_getElem.mp hb
    exact h3 i b (by omega) (by rw[<-e];exact r_d (by omega))
   ·obtain⟨i,hi,e⟩:=List.mem_drop_iff_getElem.mp hb
    exact h4 (i+lo) b (by omega) (by rw[<-e,Nat.add_comm];exact r_d (by omega))
end
def NoTup (H:Hp) (a:Addr):Prop:=∀xs,H a≠some (.tup xs)
theorem NoTup.none {H:Hp} {a:Addr} (h:H a=none):NoTup H a:=λxs e=>by rw[h] at e;cases e
theorem NoTup.lst {H:Hp} {a:Addr} {ys:List V} (h:H a=some (.lst ys)):NoTup H a:=λxs e=>by rw[h] at e;cases e
theorem NoTup.keep {H:Hp} {a:Addr} {o:HO} (h:NoTup H a):∀b xs,H b=some (.tup xs)->(upd H a o) b=some (.tup xs):=λb xs e=>by
 have hb:b≠a:=λq=>h xs (by rw[<-q];exact e)
 rw[a_i hb];exact e
theorem LstAt.upd {H:Hp} {a l:Addr} {o:HO} {ρs:List Row} (h:LstAt H l ρs) (hl:l≠a) (ha:NoTup H a):LstAt (upd H a o) l ρs:=h.same (a_i hl) ha.keep
theorem a_O {H:Hp} {a:Addr} {o:HO} (ha:NoTup H a):∀{bas:List Addr} {B:List (List Row)},Paired (LstAt H) bas B->(∀b∈bas,b≠a)->Paired (LstAt (upd H a o)) bas B
 | _,_,.nil,_=> .nil
 | _,_,.cons h t,hn=> .cons (LstAt.upd h (hn _ (r_g ..)) ha) (a_O ha t λb hb=>hn b (r_f _ hb))
theorem d_7 {H:Hp}:∀{bas:List Addr} {B:List (List Row)},Paired (LstAt H) bas B->∀b∈bas,∃xs,H b=some (.lst xs)
 | _,_,.cons h t,b,hb=>by
   rcases r_n.mp hb with e | e
   ·subst e;obtain⟨as,q,_⟩:=h;exact⟨_,q⟩
   ·exact d_7 t b e
theorem b_2 {H:Hp} {bas:List Addr} {B:List (List Row)} (h:Paired (LstAt H) bas B) {p:Addr} (hp:H p=none):∀b∈bas,b≠p:=λb hb e=>by
 obtain⟨xs,q⟩:=d_7 h b hb
 rw[e,hp] at q;cases q
theorem b_c {α β:Type} {F:α->β->Prop}:∀{B₁:List β} {l:List α} {b:β} {B₂:List β},Paired F l (B₁++b::B₂)->∃l₁ a l₂,l=l₁++a::l₂/\Paired F l₁ B₁/\F a b/\Paired F l₂ B₂
 | [],_,_,_,.cons h t=>⟨[],_,_,rfl,.nil,h,t⟩
 | c::B₁,_,_,_,.cons h t=>by
   obtain⟨l₁,a,l₂,rfl,h1,h2,h3⟩:=b_c t
   exact⟨_::l₁,a,l₂,rfl,.cons h h1,h2,h3⟩
theorem a_F {α β:Type} {F:α->β->Prop}:∀{l₁ l₂:List α} {B₁ B₂:List β},Paired F l₁ B₁->Paired F l₂ B₂->Paired F (l₁++l₂) (B₁++B₂)
 | _,_,_,_,.nil,h=>h
 | _,_,_,_,.cons a t,h=> .cons a (a_F t h)
theorem h_J {xs:List V} {h:Nat} (hh:h<=xs.length):h_7 xs none (some (h:Int))=xs.take h:=by
 unfold h_7
 rw[HT.sIx_none,HT.sIx_nat,Nat.min_eq_left hh]
 simp
theorem l_n {xs:List V} {h:Nat} (hh:h<=xs.length):h_7 xs (some (h:Int)) none=xs.drop h:=by
 unfold h_7
 rw[HT.sIx_none,HT.sIx_nat,Nat.min_eq_left hh]
 exact r_w (by simp)
theorem k_q {n j:Nat} (h:j < n):ixN n (j:Int)=some j:=by
 unfold ixN
 rw[if_pos (by omega),if_pos (by omega)]
 simp
theorem k_7 {α:Type} {l₁ l₂:List α} {a:α}:(l₁++a::l₂).take (l₁.length+1)=l₁++ [a]:=by
 rw[List.take_append,r_w (by omega),Nat.add_sub_cancel_left];simp
theorem k_5 {α:Type} {l₁ l₂:List α} {a:α}:(l₁++a::l₂).drop (l₁.length+1)=l₂:=by
 rw[List.drop_append,List.drop_of_length_le (by omega),Nat.add_sub_cancel_left];simp
theorem d_h {bl a:Addr} {l₁ l₂:List Addr} (h:(bl::(l₁++a::l₂)).Nodup):bl∉l₁/\bl≠a/\bl∉l₂/\a∉l₁/\a∉l₂/\(bl::(l₁++l₂)).Nodup:=by
 rw[r_G,List.nodup_append,r_G] at h
 obtain⟨h1,h2,⟨h3,h4⟩,h5⟩:=h
 simp only[r_u,r_n,not_or] at h1
 refine⟨h1.1,h1.2.1,h1.2.2,λz=>h5 a z a (r_g ..) rfl,h3,?_⟩
 rw[r_G,List.nodup_append]
 refine⟨?_, h2,h4,λx hx y hy=>h5 x hx y (r_f _ hy)⟩
 simp only[r_u,not_or]
 exact⟨h1.1,h1.2.2⟩
theorem j_t {bl a:Addr} {l₁ l₂:List Addr} (h:(bl::(l₁++l₂)).Nodup) (h1:a≠bl) (h2:a∉l₁) (h3:a∉l₂):(bl::(l₁++a::l₂)).Nodup:=by
 rw[r_G,List.nodup_append] at h
 rw[r_G,List.nodup_append,r_G]
 simp only[r_u,r_n,not_or] at h ⊢
 refine⟨⟨h.1.1,h1.symm,h.1.2⟩,h.2.1,⟨h3,h.2.2.1⟩,λx hx y hy=> ?_⟩
 rcases hy with e | e
 ·subst e;intro e;subst e;exact h2 hx
 ·exact h.2.2.2 x hx y e
section
variable {P:Program} {w:World} {K:PySem.W.Frag} {mg:Str->Option Value} {base:Heap}
def j_J (C:Addr):Sp:=λvs H Q _=>∃(w:Bool) (o bl:Addr) (bas:List Addr) (B₁:List (List Row)) (b:List Row) (B₂:List (List Row)),vs= [.ref o,.int B₁.length]/\OrdAt C w H o bl bas (B₁++b::B₂)/\bas.length < 100000/\
 ∀(bas':List Addr) (H':Hp),OrdAt C w H' o bl bas' (B₁++b.take (b.length / 2)::b.drop (b.length / 2)::B₂)->Stp H H' (bl::bas) (bl::bas')->Q .non H'
theorem g_V:a_s ["self","place","block","half"] ["self","place"] (a_m j_e):=⟨rfl,rfl,rfl,by decide+kernel,rfl,by decide+kernel,by decide+kernel⟩
theorem l_e {f C:Addr} {fd:FuncData} (F:Fun K "split_block" "Order.split_block" j_e f fd) (T:Txt K mg C):FnOk P w K mg base CX0 1 f fd ["self","place"] (j_J C):=by
 refine F.ok g_V (λvs H Q E h=> ?_) (λcdv A outer s H vs Q E hr h=> ?_)
 ·obtain⟨w,o,bl,bas,B₁,b,B₂,rfl,_⟩:=h
  rfl
 ·obtain⟨w,o,bl,bas,B₁,b,B₂,rfl,O,hsz,fin⟩:=h
  obtain⟨⟨dx,ho⟩,hbl,hbs,hnd⟩:=id O
  obtain⟨l₁,a,l₂,rfl,hp1,⟨as,ha,hR⟩,hp2⟩:=b_c hbs
  have hl1:l₁.length=B₁.length:=Paired.length hp1
  have hla:=hR.len
  obtain⟨n1,n2,n3,n4,n5,n6⟩:=d_h hnd
  refine⟨_,a_c (a_w (i:=2) g_V.nd rfl (Or.inl rfl) (a_r a_M (a_D (pv 0) rfl) (pv 1) (λ_ _=>rfl)))
   (a_c (a_w (i:=3) g_V.nd rfl (Or.inl rfl) (a_t a_2 (a_y a_v (by rfl) T.len r_V (a_a (pv 2) a_d)) a_f))
   (a_c (l_P (b_8 e_d (pv 2) d_w (c_v (pv 3))) (l_L (a_D (pv 0) rfl) (pv 1) h_W))
   (a_g (a_z (b_C r_W PySem.F.slot_list_insert PySem.F.type_list_insert f_J (a_D (pv 0) rfl) (a_a (a_t a_S (pv 1) a_f) (a_a (b_8 e_d (pv 2) (c_v (pv 3)) d_w) a_d))))))),?_⟩
  refine⟨_,rfl,o,C,dx,_,_,rfl,ho,T.cl,T.nB,a_A _ _,_,rfl,bl,_,_,_,rfl,rfl,SqL.of hbl,a_e (j:=B₁.length) (by rw[r_o,<-hl1,c_N];rfl),?_⟩
  refine⟨_,rfl,a,_,rfl,.inl (SqL.of ha),_,_,rfl,rfl,⟨by decide,by decide⟩,?_⟩
  have eh:(((as.map V.ref).length:Int)) / 2=((b.length / 2:Nat):Int):=by rw[r_c,hla];omega
  have hh:b.length / 2<=(as.map V.ref).length:=by rw[r_c,hla];omega
  refine⟨_,rfl,_,rfl,_,rfl,a,_,rfl,SqL.of ha,λp1 f1=> ?_⟩
  have ho1:o≠p1:=a_h ho f1
  have hb1:bl≠p1:=a_h hbl f1
  have ha1:a≠p1:=a_h ha f1
  have hob:o≠bl:=e_8 ho hbl (by intro z;cases z)
  have hoa:o≠a:=e_8 ho ha (by intro z;cases z)
  refine⟨_,rfl,o,C,dx,_,_,rfl,(by rw[a_i ho1];exact ho),T.cl,T.nB,a_A _ _,_,rfl,bl,_,_,B₁.length,rfl,rfl,(by rw[a_i hb1];exact hbl),(by rw[r_c];exact k_q (by simp[hl1])),?_⟩
  rw[eh,h_J hh]
  have eset:((l₁++a::l₂).map V.ref).set B₁.length (.ref p1)=(l₁++p1::l₂).map V.ref:=by
   rw[<-hl1,r_k,r_r,r_k,r_r]
   have:=i_N (l₁:=l₁.map V.ref) (l₂:=l₂.map V.ref) (a:=V.ref a) (b:=V.ref p1)
   rw[r_c] at this
   exact this
  rw[eset]
  refine⟨_,rfl,o,C,dx,_,_,rfl,(by rw[a_i hob,a_i ho1];exact ho),T.cl,T.nB,a_A _ _,.inl ⟨rfl,_,SqL.of a_b⟩,_,rfl,_,_,rfl,rfl,_,rfl,_,rfl,_,rfl,a,_,rfl,SqL.of (by rw[a_i n2.symm,a_i ha1];exact ha),λp2 f2=> ?_⟩
  rw[eh,l_n hh]
  have hb2:bl≠p2:=a_h (a_b (H:=upd H p1 (.lst ((as.map V.ref).take (b.length / 2)))) (o:= .lst ((l₁++p1::l₂).map V.ref))) f2
  have f2':(upd H p1 (.lst ((as.map V.ref).take (b.length / 2)))) p2=none:=by rw[a_i hb2.symm] at f2;exact f2
  have h12:p1≠p2:=a_h a_b f2'
  have f2'':H p2=none:=by rw[a_i h12.symm] at f2';exact f2'
  have ho2:o≠p2:=a_h ho f2''
  have el:((l₁++p1::l₂).map V.ref).take ((B₁.length:Int)+1).toNat++V.ref p2::((l₁++p1::l₂).map V.ref).drop ((B₁.length:Int)+1).toNat=(l₁++p1::p2::l₂).map V.ref:=by
   have e1:((B₁.length:Int)+1).toNat=(l₁.map V.ref).length+1:=by rw[r_c];omega
   rw[e1]
   simp only[r_k,r_r]
   rw[k_7,k_5,List.append_assoc]
   rfl
  refine⟨bl,_,_,_,rfl,rfl,(by rw[a_i hb2];exact a_b),?_, by omega,?_, ?_⟩
  ·refine r_s (m:=100001) ?_ (by decide)
   simp only[r_c,r_e,r_i] at hsz ⊢
   omega
  ·simp only[r_c,r_e,r_i]
   omega
  show Q .non _
  rw[el]
  have hfree1:∀x∈l₁,x≠p1/\x≠p2/\x≠bl:=λx hx=>⟨b_2 hp1 f1 x hx,b_2 hp1 f2'' x hx,λe=>n1 (e ▸ hx)⟩
  have hfree2:∀x∈l₂,x≠p1/\x≠p2/\x≠bl:=λx hx=>⟨b_2 hp2 f1 x hx,b_2 hp2 f2'' x hx,λe=>n3 (e ▸ hx)⟩
  have t1:NoTup H p1:=NoTup.none f1
  have t2:NoTup (upd H p1 (.lst ((as.map V.ref).take (b.length / 2)))) bl:=NoTup.lst (ys:=(l₁++a::l₂).map V.ref) (by rw[a_i hb1];exact hbl)
  have t3:NoTup (upd (upd H p1 (.lst ((as.map V.ref).take (b.length / 2)))) bl (.lst ((l₁++p1::l₂).map V.ref))) p2:=NoTup.none f2
  have t4:NoTup (upd (upd (upd H p1 (.lst ((as.map V.ref).take (b.length / 2)))) bl (.lst ((l₁++p1::l₂).map V.ref))) p2 (.lst ((as.map V.ref).drop (b.length / 2)))) bl:=NoTup.lst (ys:=(l₁++p1::l₂).map V.ref) (by rw[a_i hb2];exact a_b)
  have tups:∀c xs,H c=some (.tup xs)->(upd (upd (upd (upd H p1 (.lst ((as.map V.ref).take (b.length / 2)))) bl (.lst ((l₁++p1::l₂).map V.ref))) p2 (.lst ((as.map V.ref).drop (b.length / 2)))) bl (.lst ((l₁++p1::p2::l₂).map V.ref))) c=some (.tup xs):=
   λc xs h=>t4.keep _ _ (t3.keep _ _ (t2.keep _ _ (t1.keep _ _ h)))
  refine fin (l₁++p1::p2::l₂) _ ⟨⟨dx,?_⟩,a_b,?_, ?_⟩ ⟨λc u hc hn=> ?_, λc hc=> ?_⟩
  ·rw[a_i hob,a_i ho2,a_i hob,a_i ho1];exact ho
  ·refine a_F ?_ (.cons ⟨as.take (b.length / 2),?_, (hR.take _).same tups⟩ (.cons ⟨as.drop (b.length / 2),?_, (hR.drop _).same tups⟩ ?_))
   ·exact a_O t4 (a_O t3 (a_O t2 (a_O t1 hp1 λx hx=>(hfree1 x hx).1) λx hx=>(hfree1 x hx).2.2) λx hx=>(hfree1 x hx).2.1) λx hx=>(hfree1 x hx).2.2
   ·rw[a_i hb1.symm,a_i h12,a_i hb1.symm,a_b,List.map_take]
   ·rw[a_i hb2.symm,a_b,List.map_drop]
   ·exact a_O t4 (a_O t3 (a_O t2 (a_O t1 hp2 λx hx=>(hfree2 x hx).1) λx hx=>(hfree2 x hx).2.2) λx hx=>(hfree2 x hx).2.1) λx hx=>(hfree2 x hx).2.2
  ·refine j_t (j_t n6 hb2.symm (λz=>(hfree1 _ z).2.1 rfl) λz=>(hfree2 _ z).2.1 rfl) hb1.symm (λz=>(hfree1 _ z).1 rfl) λz=> ?_
   rcases r_n.mp z with z | z
   ·exact h12 z
   ·exact (hfree2 _ z).1 rfl
  ·have c1:c≠bl:=λe=>hn (by rw[e];exact r_g ..)
   rw[a_i c1,a_i (a_h hc f2''),a_i c1,a_i (a_h hc f1)]
   exact hc
  ·simp only[r_n,r_u] at hc ⊢
   rcases hc with e | e | e | e | e
   ·exact .inl (.inl e)
   ·exact .inl (.inr (.inl e))
   ·exact .inr (by rw[e];exact f1)
   ·exact .inr (by rw[e];exact f2'')
   ·exact .inl (.inr (.inr (.inr e)))
end
structure Mf (K:PySem.W.Frag) (C:Addr) (m:Str) (f:Addr) (fd:FuncData) (ps:List Str):Prop where
 m:o_B K C m f
 b:Binds K fd ps []
structure GoodB (w:Bool) (B:List (List Row)):Prop where
 adj:Adj 8 (B.map List.length)
 srt:Srt (ltR w) B.flatten
theorem f_k:∀{l:List Nat} {p:Nat},Adj p l->∀n∈l,1<=n/\n<=8
 | m::r,p,⟨a,b,c,d⟩,n,hn=>by
   rcases r_n.mp hn with e | e
   ·subst e;exact⟨a,b⟩
   ·exact f_k d n e
theorem GoodB.ne {w:Bool} {B:List (List Row)} (g:GoodB w B):∀b∈B,b≠ []:=λb hb e=>by
 have:=f_k g.adj b.length (r_H.mpr ⟨b,hb,rfl⟩)
 rw[e] at this
 simp at this
theorem GoodB.len {w:Bool} {B:List (List Row)} (g:GoodB w B):B.length<=B.flatten.length:=by
 have h:=g.ne
 clear g
 induction B with
 | nil=>simp
 | cons b r ih=>
   have:=ih λc hc=>h c (r_f _ hc)
   have h1:b≠ []:=h b (r_g ..)
   have h2:0 < b.length:=List.length_pos_iff.mpr h1
   simp only[r_i,r_F,r_e]
   omega
theorem Stp.trans {H H1 H2:Hp} {f f1 f2:List Addr} (a:Stp H H1 f f1) (b:Stp H1 H2 f1 f2):Stp H H2 f f2 where
 keep:=λc u hc hn=>b.keep c u (a.keep c u hc hn) λz=>by
  rcases a.new c z with q | q
  ·exact hn q
  ·rw[q] at hc;cases hc
 new:=λc hc=>by
  rcases b.new c hc with q | q
  ·exact a.new c q
  ·cases e:H c with
   | none=>exact .inr rfl
   | some u=>
     by_cases hn:c∈f
     ·exact .inl hn
     ·rw[a.keep c u e hn] at q;cases q
theorem c_n {w:Bool} {q:List V} {b:List Row} (h:b_n w q b=true):∃x,b.getLast? =some x/\b_b (a_I w x) q=true:=by
 unfold b_n at h
 cases e:b.getLast? with
 | none=>rw[e] at h;cases h
 | some x=>rw[e] at h;exact⟨x,rfl,h⟩
theorem g_h {w:Bool} {q:List V} {b:List Row} (h:b_n w q b=false) (hb:b≠ []):∃x,b.getLast? =some x/\b_b (a_I w x) q=false:=by
 unfold b_n at h
 cases e:b.getLast? with
 | none=>rw[List.getLast?_eq_none_iff] at e;exact absurd e hb
 | some x=>rw[e] at h;exact⟨x,rfl,h⟩
theorem h_m {w:Bool} {q:List V} {B₁ B₂:List (List Row)} {b:List Row} (hs:Srt (ltR w) (B₁++b::B₂).flatten) (h1:∀c∈B₁,b_n w q c=true) (h2:b_n w q b=false) (hb:b≠ []):
 (∀y∈B₁.flatten,b_b (a_I w y) q=true)/\∀y∈B₂.flatten,b_b (a_I w y) q=false:=by
 rw[r_z,r_F,Srt.app] at hs
 refine⟨b_5 (P:=λy=>b_b (a_I w y) q) (b_Q w q) hs.1 λc hc=>c_n (h1 c hc),?_⟩
 obtain⟨z,e,pz⟩:=g_h h2 hb
 exact g_B (P:=λy=>b_b (a_I w y) q) (b_Q w q) hs.2.1 e pz
theorem h_Y {w:Bool} {ρ:Row} {B B₁ B₂:List (List Row)} (hB:B=B₁++B₂) (hn:B≠ []) (hs:Srt (ltR w) B.flatten) (hb:∀b∈B,b≠ []) (h1:∀c∈B₁,b_n w (a_I w ρ) c=true) (h2:∀c∈B₂,b_n w (a_I w ρ) c=false):
 ∃L b R,B=L++b::R/\(if ((B.length:Int) - 1) < (B₁.length:Int) then ((B.length:Int) - 1) else (B₁.length:Int))=(L.length:Int)/\(∀y∈L.flatten,ltR w y ρ=true)/\∀y∈R.flatten,ltR w y ρ=false:=by
 cases B₂ with
 | nil=>
   rw[r_J] at hB
   subst hB
   refine⟨B.dropLast,B.getLast hn, [],(List.dropLast_concat_getLast hn).symm,?_, λy hy=> ?_, λy hy=>by cases hy⟩
   ·have:0 < B.length:=List.length_pos_iff.mpr hn
    rw[if_pos (by omega),List.length_dropLast]
    omega
   ·refine b_5 (lt:=ltR w) (P:=λy=>ltR w y ρ) (b_Q w (a_I w ρ)) hs (λc hc=>c_n (h1 c hc)) y ?_
    have e:=List.dropLast_concat_getLast hn
    rw[<-e,r_z]
    exact r_L _ hy
 | cons b R=>
   subst hB
   have:=h_m hs h1 (h2 b (r_g ..)) (hb b (by simp))
   refine⟨B₁,b,R,rfl,?_, this.1,this.2⟩
   rw[if_neg (by simp only[r_e,r_i];omega)]
theorem f_V {α:Type} {t d l:List α} (e:t++d=l):l.take t.length=t/\l.drop t.length=d:=by
 subst e
 exact⟨by simp,by simp⟩
theorem n_I {α:Type} {P:α->Bool} {l:List α}:l.take (l.takeWhile P).length=l.takeWhile P/\l.drop (l.takeWhile P).length=l.dropWhile P:=f_V (List.takeWhile_append_dropWhile)
theorem p_n {α:Type} {P:α->Bool} {l:List α}:(l.takeWhile P).length<=l.length:=by
 have:=congrArg List.length (List.takeWhile_append_dropWhile (p:=P) (l:=l))
 rw[r_e] at this
 omega
section
variable {P:Program} {w:World} {K:PySem.W.Frag} {mg:Str->Option Value} {base:Heap}
def l_5 (C:Addr):Sp:=λvs H Q _=>∃(w:Bool) (o bl a:Addr) (bas:List Addr) (B:List (List Row)) (ρ:Row),vs= [.ref o,.ref a]/\OrdAt C w H o bl bas B/\RowAt H a ρ/\GoodB w B/\(∀x∈B.flatten,x.n≠ρ.n)/\B.flatten.length < 10000/\
 ∀(bas':List Addr) (B':List (List Row)) (H':Hp),OrdAt C w H' o bl bas' B'->GoodB w B'->B'.flatten.Perm (ρ::B.flatten)->Stp H H' (bl::bas) (bl::bas')->Q .non H'
theorem h_y:a_s ["self","row","key","place","block"] ["self","row"] (a_m n_a):=⟨rfl,rfl,rfl,by decide+kernel,rfl,by decide+kernel,by decide+kernel⟩
theorem n_J {f fK fBA fRA fSp C:Addr} {fd fdK fdBA fdRA fdSp:FuncData} (F:Fun K "take_in" "Order.take_in" n_a f fd) (T:Txt K mg C) (gK:Gf K mg "key_of" fK fdK ["word","row"]) (GK:FnOk P w K mg base CX0 2 fK fdK ["word","row"] g_3)
 (mBA:Mf K C "blocks_ahead" fBA fdBA ["self","key"]) (GBA:FnOk P w K mg base CX0 3 fBA fdBA ["self","key"] (o_R C)) (mRA:Mf K C "rows_ahead" fRA fdRA ["self","block","key"]) (GRA:FnOk P w K mg base CX0 3 fRA fdRA ["self","block","key"] (p_0 C))
 (mSp:Mf K C "split_block" fSp fdSp ["self","place"]) (GSp:FnOk P w K mg base CX0 1 fSp fdSp ["self","place"] (j_J C)):
 FnOk P w K mg base CX0 4 f fd ["self","row"] (l_5 C):=by
 refine F.ok h_y (λvs H Q E h=> ?_) (λcdv A outer s H vs Q E hr h=> ?_)
 ·obtain⟨w,o,bl,a,bas,B,ρ,rfl,_⟩:=h
  rfl
 ·obtain⟨w,o,bl,a,bas,B,ρ,rfl,O,ha,G,hnum,hsz,fin⟩:=h
  obtain⟨⟨dx,ho⟩,hbl,hbs,hnd⟩:=id O
  have hr1:Room 1 _:=hr.mono (by decide)
  have hr2:Room 2 _:=hr.mono (by decide)
  obtain⟨t8,h8⟩:=T.most
  refine⟨_,a_c (a_C (a_k a_H (a_y a_v (by rfl) T.len r_V (a_a (a_D (pv 0) rfl) a_d)) a_f (a_o _))
   (a_c (a_z (b_C r_W r_Y r_X a_Q (a_D (pv 0) rfl) (a_a (a_U (a_a (pv 1) a_d)) a_d))) (a_g i_5)) a_q)
   (a_c (a_w (i:=2) h_y.nd rfl (Or.inl rfl) (a_j GK hr2 rfl gK.mg gK.kp gK.b .nil a_u (a_a (a_D (pv 0) rfl) (a_a (pv 1) a_d))))
   (a_c (a_w (i:=3) h_y.nd rfl (Or.inl rfl) (a_y (j_W rfl) (by rfl) T.min PyProof.Rows.boot_min (a_a (a_N (pv 0) T.cl mBA.m GBA hr mBA.b .nil a_u (a_a (pv 2) a_d)) (a_a (a_t b_R (a_y a_v (by rfl) T.len r_V (a_a (a_D (pv 0) rfl) a_d)) a_f) a_d))))
   (a_c (a_w (i:=4) h_y.nd rfl (Or.inl rfl) (a_r a_M (a_D (pv 0) rfl) (pv 3) (λ_ _=>rfl)))
   (a_c (a_z (b_C r_W PySem.F.slot_list_insert PySem.F.type_list_insert f_J (pv 4) (a_a (a_N (pv 0) T.cl mRA.m GRA hr mRA.b .nil a_u (a_a (pv 4) (a_a (pv 2) a_d))) (a_a (pv 1) a_d))))
   (a_g (a_C (a_k h_0 (a_y a_v (by rfl) T.len r_V (a_a (pv 4) a_d)) (p_e h8) (a_o _)) (a_g (a_z (a_N (pv 0) T.cl mSp.m GSp hr1 mSp.b .nil a_u (a_a (pv 3) a_d)))) a_q)))))),?_⟩
  refine⟨_,rfl,o,C,dx,_,_,rfl,ho,T.cl,T.nB,a_A _ _,bl,_,rfl,.inl (SqL.of hbl),rfl,_,rfl,?_⟩
  have hlen:bas.length=B.length:=Paired.length hbs
  refine a_x (λc=> ?_) (λc=> ?_)
  ·-- no block yet
   have c':=r_U c
   have hb0:bas= []:=by
    injection c' with c'
    rw[r_c] at c'
    exact List.eq_nil_of_length_eq_zero (by omega)
   subst hb0
   cases hbs
   refine⟨_,rfl,o,C,dx,_,_,rfl,ho,T.cl,T.nB,a_A _ _,.inl ⟨rfl,_,SqL.of hbl⟩,_,rfl,by show 1<=sizeLine;decide,λl hl=> ?_⟩
   have hbl1:bl≠l:=a_h hbl hl
   have ho1:o≠l:=a_h ho hl
   have hob:o≠bl:=e_8 ho hbl (by intro z;cases z)
   refine⟨bl,_,_,rfl,rfl,(by rw[a_i hbl1];exact hbl),by show 0 < sizeLine;decide,?_⟩
   have t1:NoTup H l:=NoTup.none hl
   have t2:NoTup (upd H l (.lst [.ref a])) bl:=NoTup.lst (ys:= []) (by rw[a_i hbl1];exact hbl)
   refine fin [l] [[ρ]] _ ⟨⟨dx,by rw[a_i hob,a_i ho1];exact ho⟩,a_b,.cons ⟨[a],by rw[a_i hbl1.symm,a_b];rfl,.cons (t2.keep _ _ (t1.keep _ _ ha)) .nil⟩ .nil,by simp[hbl1]⟩ ⟨by simp[Adj],by simp⟩ (by simp) ⟨λb u hb hn=> ?_, λb hb=> ?_⟩
   ·have n1:b≠bl:=λe=>hn (by simp[e])
    rw[a_i n1,a_i (a_h hb hl)]
    exact hb
   ·simp at hb
    rcases hb with e | e
    ·exact .inl (by simp[e])
    ·exact .inr (by rw[e];exact hl)
  ·have hBn:B≠ []:=fun e=>c (by
    subst e
    have:bas= []:=List.eq_nil_of_length_eq_zero (by simpa using hlen)
    subst this
    exact r_S rfl)
   refine⟨_,rfl,o,C,dx,_,_,rfl,ho,T.cl,T.nW,b_J _ _,_,rfl,w,a,ρ,rfl,ha,λk hk=> ?_⟩
   have s1:Same H (upd H k (.tup (a_I w ρ))):=Same.upd_new hk
   refine⟨_,rfl,o,dx,_,rfl,s1 _ _ ho,a_X _ _ (by decide+kernel) (by decide+kernel),_,rfl,w,o,bl,k,bas,B,a_I w ρ,rfl,O.same s1,a_b,λρ'=>c_t w ρ' ρ,G.srt,G.ne,λB₁ B₂ H2 s2 eB hB1 hB2=> ?_⟩
   have s12:Same H H2:=s1.trans s2
   refine⟨_,rfl,o,C,dx,_,_,rfl,s12 _ _ ho,T.cl,T.nB,a_A _ _,bl,_,rfl,.inl (SqL.of (s12 _ _ hbl)),_,_,rfl,rfl,_,_,rfl,?_⟩
   obtain⟨L,b,R,rfl,ep,hL,hRr⟩:=h_Y eB hBn G.srt G.ne hB1 hB2
   obtain⟨l₁,ab,l₂,rfl,hp1,hab0,hp2⟩:=b_c hbs
   obtain⟨as,hab,hRb⟩:=id hab0
   have hl1:l₁.length=L.length:=Paired.length hp1
   have ep':(if ((((l₁++ab::l₂).map V.ref).length:Int) - 1) < (B₁.length:Int) then ((((l₁++ab::l₂).map V.ref).length:Int) - 1) else (B₁.length:Int))=(L.length:Int):=by
    rw[r_c,hlen];exact ep
   obtain⟨n1,n2,n3,n4,n5,n6⟩:=d_h hnd
   refine⟨_,rfl,o,C,dx,_,_,rfl,s12 _ _ ho,T.cl,T.nB,a_A _ _,_,rfl,bl,_,_,_,rfl,rfl,SqL.of (s12 _ _ hbl),(by
    show atI _ (if ((((l₁++ab::l₂).map V.ref).length:Int) - 1) < (B₁.length:Int) then ((((l₁++ab::l₂).map V.ref).length:Int) - 1) else (B₁.length:Int))=_
    rw[ep']
    exact a_e (j:=L.length) (v:=V.ref ab) (by rw[r_o,<-hl1,c_N];rfl)),?_⟩
   refine⟨_,rfl,.inl ⟨rfl,_,SqL.of (s12 _ _ hab)⟩,_,rfl,o,dx,_,rfl,s12 _ _ ho,a_X _ _ (by decide+kernel) (by decide+kernel),_,rfl,_,rfl,w,o,bl,dx,ab,k,b,a_I w ρ,rfl,s12 _ _ ho,hab0.sameS s12,s2 _ _ a_b,λρ'=>c_t w ρ' ρ,λH3 s3=> ?_⟩
   have s13:Same H H3:=s12.trans s3
   have hlb:=hRb.len
   have htw:(b.takeWhile λx=>b_b (a_I w x) (a_I w ρ)).length<=as.length:=by rw[hlb];exact p_n
   have hbb:b∈L++b::R:=by simp
   have hb8:=f_k G.adj b.length (r_H.mpr ⟨b,hbb,rfl⟩)
   refine⟨_,rfl,ab,_,_,_,rfl,rfl,s13 _ _ hab,?_, by omega,by rw[r_c];omega,?_⟩
   ·exact a_G (by rw[r_c,hlb];omega)
   rw[Int.toNat_natCast,<-List.map_take,<-List.map_drop,<-r_r (f:=V.ref),<-r_k]
   have hab3:=s13 _ _ hab
   have t4:NoTup H3 ab:=NoTup.lst hab3
   have hob:o≠bl:=e_8 ho hbl (by intro z;cases z)
   have hoa:o≠ab:=e_8 ho hab (by intro z;cases z)
   have hR4:RowsAt (upd H3 ab (.lst ((as.take (b.takeWhile λx=>b_b (a_I w x) (a_I w ρ)).length++a::as.drop (b.takeWhile λx=>b_b (a_I w x) (a_I w ρ)).length).map V.ref))) (as.take (b.takeWhile λx=>b_b (a_I w x) (a_I w ρ)).length++a::as.drop (b.takeWhile λx=>b_b (a_I w x) (a_I w ρ)).length)
    ((b.takeWhile λx=>b_b (a_I w x) (a_I w ρ))++ρ::b.dropWhile λx=>b_b (a_I w x) (a_I w ρ)):=by
    have e:=n_I (P:=λx=>b_b (a_I w x) (a_I w ρ)) (l:=b)
    have z:=RowsAt.app (hRb.take (b.takeWhile λx=>b_b (a_I w x) (a_I w ρ)).length) (.cons ha (hRb.drop (b.takeWhile λx=>b_b (a_I w x) (a_I w ρ)).length))
    rw[e.1,e.2] at z
    exact RowsAt.same (t4.keep) (RowsAt.same (λb xs q=>s13 _ _ q) z)
   generalize hH4:upd H3 ab (.lst ((as.take (b.takeWhile λx=>b_b (a_I w x) (a_I w ρ)).length++a::as.drop (b.takeWhile λx=>b_b (a_I w x) (a_I w ρ)).length).map V.ref))=H4 at hR4 ⊢
   have e4:H4 ab=some (.lst ((as.take (b.takeWhile λx=>b_b (a_I w x) (a_I w ρ)).length++a::as.drop (b.takeWhile λx=>b_b (a_I w x) (a_I w ρ)).length).map V.ref)):=by rw[<-hH4];exact a_b
   have k4:∀c u,c≠ab->H3 c=some u->H4 c=some u:=λc u hc q=>by rw[<-hH4,a_i hc];exact q
   have hfl:=h_2 (P:=λx=>b_b (a_I w x) (a_I w ρ)) (x:=ρ) (b:=b) hL hRr
   have hins:Srt (ltR w) (L++((b.takeWhile λx=>b_b (a_I w x) (a_I w ρ))++ρ::b.dropWhile λx=>b_b (a_I w x) (a_I w ρ))::R).flatten:=by
    rw[hfl]
    exact Srt.ins (λa b c=>c_r w a b c) G.srt λy hy=>g_E (hnum y hy)
   have hperm:((L++((b.takeWhile λx=>b_b (a_I w x) (a_I w ρ))++ρ::b.dropWhile λx=>b_b (a_I w x) (a_I w ρ))::R).flatten).Perm (ρ::(L++b::R).flatten):=by
    rw[hfl]
    exact h_i
   have hlb':((b.takeWhile λx=>b_b (a_I w x) (a_I w ρ))++ρ::b.dropWhile λx=>b_b (a_I w x) (a_I w ρ)).length=b.length+1:=(h_i (P:=λx=>b_b (a_I w x) (a_I w ρ)) (l:=b) (x:=ρ)).length_eq
   have hla4:=hR4.len
   generalize (b.takeWhile λx=>b_b (a_I w x) (a_I w ρ))++ρ::b.dropWhile (λx=>b_b (a_I w x) (a_I w ρ))=b' at hR4 hins hperm hlb' hla4
   generalize as.take (b.takeWhile λx=>b_b (a_I w x) (a_I w ρ)).length++a::as.drop (b.takeWhile λx=>b_b (a_I w x) (a_I w ρ)).length=as' at hR4 e4 hla4
   have O4:OrdAt C w H4 o bl (l₁++ab::l₂) (L++b'::R):=by
    refine⟨⟨dx,k4 _ _ hoa (s13 _ _ ho)⟩,k4 _ _ n2 (s13 _ _ hbl),a_F ?_ (.cons ⟨as',e4,hR4⟩ ?_),hnd⟩
    ·rw[<-hH4]
     exact a_O t4 (Paired.mapP hp1 λ_ _ q=>q.sameS s13) λx hx e=>n4 (e ▸ hx)
    ·rw[<-hH4]
     exact a_O t4 (Paired.mapP hp2 λ_ _ q=>q.sameS s13) λx hx e=>n5 (e ▸ hx)
   have S4:Stp H H4 (bl::(l₁++ab::l₂)) (bl::(l₁++ab::l₂)):=⟨λc u hc hn=>k4 c u (λe=>hn (by simp[e])) (s13 c u hc),λc hc=> .inl hc⟩
   refine⟨_,rfl,ab,_,rfl,.inl (SqL.of e4),_,_,rfl,rfl,_,rfl,?_⟩
   have hadj:=G.adj
   rw[r_k,r_r] at hadj
   refine a_x (λc9=> ?_) (λc9=> ?_)
   ·have h9:b'.length=9:=by
     have:=r_U c9
     rw[r_c] at this
     omega
    refine⟨_,rfl,o,dx,_,rfl,k4 _ _ hoa (s13 _ _ ho),a_X _ _ (by decide+kernel) (by decide+kernel),_,rfl,w,o,bl,_,L,b',R,?_, O4,?_, λbas' H5 O5 S5=> ?_⟩
    ·show [V.ref o,V.int _]=_
     rw[ep']
    ·have:=G.len
     rw[hlen]
     omega
    ·rw[h9] at O5
     refine fin bas' _ H5 O5 ⟨?_, ?_⟩ ?_ (S4.trans S5)
     ·rw[r_k,r_r,r_r,r_y,List.length_drop,h9]
      exact Adj.split (by decide) hadj
     ·have e:(L++b'.take (9 / 2)::b'.drop (9 / 2)::R).flatten=(L++b'::R).flatten:=by simp[<-List.append_assoc (b'.take 4),r_P]
      rw[e]
      exact hins
     ·have e:(L++b'.take (9 / 2)::b'.drop (9 / 2)::R).flatten=(L++b'::R).flatten:=by simp[<-List.append_assoc (b'.take 4),r_P]
      rw[e]
      exact hperm
   ·refine fin _ _ H4 O4 ⟨?_, hins⟩ hperm S4
    have h9:b'.length<=8:=by
     have:¬ ((8:Int) < _):=λz=>c9 (r_S z)
     rw[r_c] at this
     omega
    rw[r_k,r_r]
    exact hadj.put (by omega) h9
def e_r (B:List (List Row)) (p:Int) (B':List (List Row)):Prop:=
 ((p < 0\/(B.length:Int)<=p+1)/\B'=B)\/∃(B₁:List (List Row)) (x y:List Row) (B₂:List (List Row)),p=B₁.length/\B=B₁++x::y::B₂/\B'=if x.length+y.length < 5 then B₁++(x++y)::B₂ else B
def l_6 (C:Addr):Sp:=λvs H Q _=>∃(w:Bool) (o bl:Addr) (bas:List Addr) (B:List (List Row)) (p:Int),vs= [.ref o,.int p]/\OrdAt C w H o bl bas B/\(∀b∈B,b.length<=8)/\bas.length < 100000/\
 ∀(bas':List Addr) (B':List (List Row)) (H':Hp),OrdAt C w H' o bl bas' B'->Stp H H' (bl::bas) (bl::bas')->e_r B p B'->Q .non H'
theorem m_e:a_s ["self","place","joined"] ["self","place"] (a_m m_F):=⟨rfl,rfl,rfl,by decide+kernel,rfl,by decide+kernel,by decide+kernel⟩
theorem o_2 {α:Type} {l:List α} {i:Nat} (h:i+1 < l.length):∃l₁ x y l₂,l=l₁++x::y::l₂/\l₁.length=i:=by
 obtain⟨l₁,l₂,e,e2⟩:=d_H (r_d (show i < l.length by omega))
 cases l₂ with
 | nil=>rw[e] at h;simp at h;omega
 | cons y l₂=>exact⟨l₁,_,y,l₂,e,e2⟩
theorem m_R {f C:Addr} {fd:FuncData} (F:Fun K "join_if_few" "Order.join_if_few" m_F f fd) (T:Txt K mg C):FnOk P w K mg base CX0 1 f fd ["self","place"] (l_6 C):=by
 refine F.ok m_e (λvs H Q E h=> ?_) (λcdv A outer s H vs Q E hr h=> ?_)
 ·obtain⟨w,o,bl,bas,B,p,rfl,_⟩:=h
  rfl
 ·obtain⟨w,o,bl,bas,B,p,rfl,O,h8,hsz,fin⟩:=h
  obtain⟨⟨dx,ho⟩,hbl,hbs,hnd⟩:=id O
  obtain⟨t5,h5⟩:=T.least
  have hlen:bas.length=B.length:=Paired.length hbs
  refine⟨_,a_c (a_C (PW.pt (e_c (a_k e_E (pv 1) a_f (a_o _)) (c_y (a_k i_W (a_t a_S (pv 1) a_f) (a_y a_v (by rfl) T.len r_V (a_a (a_D (pv 0) rfl) a_d)) (a_o _))))) (a_g i_5) a_q)
   (a_c (a_w (i:=2) m_e.nd rfl (Or.inl rfl) (a_t g_b (a_r a_M (a_D (pv 0) rfl) (pv 1) (λ_ _=>rfl)) (a_r a_M (a_D (pv 0) rfl) (a_t a_S (pv 1) a_f) (λ_ _=>rfl))))
   (a_g (a_C (a_k e_E (a_y a_v (by rfl) T.len r_V (a_a (pv 2) a_d)) (p_e h5) (a_o _))
     (a_c (l_P (pv 2) (l_L (a_D (pv 0) rfl) (pv 1) h_W)) (a_g (a_z (b_C r_W PySem.F.slot_list_pop PySem.F.type_list_pop h_K (a_D (pv 0) rfl) (a_a (a_t a_S (pv 1) a_f) a_d))))) a_q))),?_⟩
  refine⟨_,rfl,_,_,rfl,rfl,_,rfl,?_⟩
  refine a_x (λc=> ?_) (λc=> ?_)
  ·exact fin bas B H O (Stp.of_same (Same.refl _)) (.inl ⟨.inl (r_U c),rfl⟩)
  have hp0:0<=p:=by have:¬ p < 0:=λz=>c (r_S z);omega
  refine⟨_,rfl,_,_,rfl,rfl,_,rfl,o,C,dx,_,_,rfl,ho,T.cl,T.nB,a_A _ _,bl,_,rfl,.inl (SqL.of hbl),_,_,rfl,rfl,_,rfl,?_⟩
  refine a_x (λc2=> ?_) (λc2=> ?_)
  ·refine fin bas B H O (Stp.of_same (Same.refl _)) (.inl ⟨.inr ?_, rfl⟩)
   have:=r_U c2
   rw[r_c,hlen] at this
   exact this
  have hp1:p+1 < B.length:=by
   have:¬ ((_:Int)<=p+1):=λz=>c2 (r_S z)
   rw[r_c,hlen] at this
   omega
  obtain⟨B₁,x,y,B₂,rfl,eB⟩:=o_2 (l:=B) (i:=p.toNat) (by omega)
  have ep:p=(B₁.length:Int):=by omega
  subst ep
  obtain⟨l₁,ax,l₂',rfl,q1,hx0,q2⟩:=b_c hbs
  cases q2 with
  | @cons ay _ l₂ _ hy0 q2=>
  obtain⟨xs,hx,hxR⟩:=id hx0
  obtain⟨ys,hy,hyR⟩:=id hy0
  have hl1:l₁.length=B₁.length:=Paired.length q1
  have lx:=hxR.len
  have ly:=hyR.len
  have x8:=h8 x (by simp)
  have y8:=h8 y (by simp)
  have gx:((l₁++ax::ay::l₂).map V.ref)[B₁.length]? =some (V.ref ax):=by rw[r_o,<-hl1,c_N];rfl
  have gy:((l₁++ax::ay::l₂).map V.ref)[B₁.length+1]? =some (V.ref ay):=by
   rw[r_o,<-hl1,show l₁++ax::ay::l₂=(l₁++ [ax])++ay::l₂ by simp,show l₁.length+1=(l₁++ [ax]).length by simp,c_N];rfl
  refine⟨_,rfl,o,C,dx,_,_,rfl,ho,T.cl,T.nB,a_A _ _,_,rfl,bl,_,_,_,rfl,rfl,SqL.of hbl,a_e gx,_,rfl,o,C,dx,_,_,rfl,ho,T.cl,T.nB,a_A _ _,_,rfl,_,_,rfl,rfl,bl,_,_,_,rfl,rfl,SqL.of hbl,(a_e (j:=B₁.length+1) gy),
   ax,ay,_,_,rfl,rfl,hx,hy,?_, λp1 f1=> ?_⟩
  ·rw[r_c,r_c]
   exact Nat.le_of_lt (a_G (by omega))
  rw[<-r_k]
  obtain⟨n1,n2,n3,n4,n5,n6⟩:=d_h hnd
  have ho1:o≠p1:=a_h ho f1
  have hb1:bl≠p1:=a_h hbl f1
  have hob:o≠bl:=e_8 ho hbl (by intro z;cases z)
  refine⟨_,rfl,p1,_,rfl,.inl (SqL.of a_b),_,_,rfl,rfl,_,rfl,?_⟩
  refine a_x (λc5=> ?_) (λc5=> ?_)
  ·have c5':x.length+y.length < 5:=by
    have:=r_U c5
    rw[r_c,r_e] at this
    omega
   have eset:((l₁++ax::ay::l₂).map V.ref).set B₁.length (.ref p1)=(l₁++p1::ay::l₂).map V.ref:=by
    rw[<-hl1,r_k,r_r,r_k,r_r]
    have:=i_N (l₁:=l₁.map V.ref) (l₂:=(ay::l₂).map V.ref) (a:=V.ref ax) (b:=V.ref p1)
    rw[r_c] at this
    exact this
   refine⟨_,rfl,_,rfl,o,C,dx,_,_,rfl,(by rw[a_i ho1];exact ho),T.cl,T.nB,a_A _ _,_,rfl,bl,_,_,B₁.length,rfl,rfl,(by rw[a_i hb1];exact hbl),(by rw[r_c];exact k_q (by simp[hl1])),?_⟩
   rw[eset]
   have ge:((l₁++p1::ay::l₂).map V.ref)[B₁.length+1]? =some (V.ref ay):=by
    rw[r_o,<-hl1,show l₁++p1::ay::l₂=(l₁++ [p1])++ay::l₂ by simp,show l₁.length+1=(l₁++ [p1]).length by simp,c_N];rfl
   have er:((l₁++p1::ay::l₂).map V.ref).eraseIdx (B₁.length+1)=(l₁++p1::l₂).map V.ref:=by
    rw[<-hl1,c_3,show l₁++p1::ay::l₂=(l₁++ [p1])++ay::l₂ by simp,show l₁.length+1=(l₁++ [p1]).length by simp,f_K];simp
   have hls:B₁.length+1 < ((l₁++p1::ay::l₂).map V.ref).length:=by
    simp only[r_c,r_e,r_i];omega
   have h63:((B₁.length:Int)+1) < 2 ^ 63:=by
    have:B₁.length < 100000:=by simp only[r_e,r_i] at hsz;omega
    omega
   refine⟨_,rfl,o,C,dx,_,_,rfl,(by rw[a_i hob,a_i ho1];exact ho),T.cl,T.nB,a_A _ _,.inl ⟨rfl,_,SqL.of a_b⟩,_,rfl,_,_,rfl,rfl,bl,_,_,B₁.length+1,_,rfl,rfl,a_b,by omega,h63,?_, ge,?_⟩
   ·rw[PySem.seqIndex_of (by omega) (by omega)]
    rfl
   rw[er]
   have nay:bl≠ay:=λe=>n3 (by simp[e])
   have hf1:∀z∈l₁,z≠p1/\z≠bl:=λz hz=>⟨b_2 q1 f1 z hz,λe=>n1 (e ▸ hz)⟩
   have hf2:∀z∈l₂,z≠p1/\z≠bl:=λz hz=>⟨b_2 q2 f1 z hz,λe=>n3 (by rw[<-e];simp[hz])⟩
   have t1:NoTup H p1:=NoTup.none f1
   have t2:NoTup (upd H p1 (.lst ((xs++ys).map V.ref))) bl:=NoTup.lst (ys:=(l₁++ax::ay::l₂).map V.ref) (by rw[a_i hb1];exact hbl)
   have t3:NoTup (upd (upd H p1 (.lst ((xs++ys).map V.ref))) bl (.lst ((l₁++p1::ay::l₂).map V.ref))) bl:=NoTup.lst a_b
   have nd':(bl::(l₁++l₂)).Nodup:=by
    have:=d_h (bl:=bl) (a:=ay) (l₁:=l₁) (l₂:=l₂) n6
    exact this.2.2.2.2.2
   refine fin (l₁++p1::l₂) (B₁++(x++y)::B₂) _ ⟨⟨dx,?_⟩,a_b,?_, ?_⟩ ⟨λc u hc hn=> ?_, λc hc=> ?_⟩ (.inr ⟨B₁,x,y,B₂,rfl,rfl,by rw[if_pos c5']⟩)
   ·rw[a_i hob,a_i hob,a_i ho1];exact ho
   ·refine a_F ?_ (.cons ⟨xs++ys,?_, ?_⟩ ?_)
    ·exact a_O t3 (a_O t2 (a_O t1 q1 λz hz=>(hf1 z hz).1) λz hz=>(hf1 z hz).2) λz hz=>(hf1 z hz).2
    ·rw[a_i hb1.symm,a_i hb1.symm,a_b]
    ·exact (RowsAt.app hxR hyR).same λb zs h=>t3.keep _ _ (t2.keep _ _ (t1.keep _ _ h))
    ·exact a_O t3 (a_O t2 (a_O t1 q2 λz hz=>(hf2 z hz).1) λz hz=>(hf2 z hz).2) λz hz=>(hf2 z hz).2
   ·exact j_t nd' hb1.symm (λz=>(hf1 _ z).1 rfl) λz=>(hf2 _ z).1 rfl
   ·have c1:c≠bl:=λe=>hn (by rw[e];exact r_g ..)
    rw[a_i c1,a_i c1,a_i (a_h hc f1)]
    exact hc
   ·simp only[r_n,r_u] at hc ⊢
    rcases hc with e | e | e | e
    ·exact .inl (.inl e)
    ·exact .inl (.inr (.inl e))
    ·exact .inr (by rw[e];exact f1)
    ·exact .inl (.inr (.inr (.inr (.inr e))))
  ·have c5':¬ (x.length+y.length < 5):=λz=>c5 (r_S (by rw[r_c,r_e];omega))
   exact fin _ _ _ (O.same (Same.upd_new f1)) (Stp.of_same (Same.upd_new f1)) (.inr ⟨B₁,x,y,B₂,rfl,rfl,by rw[if_neg c5']⟩)
end
theorem g_t {B₁ B₂ B':List (List Row)} {x y:List Row} (h:e_r (B₁++x::y::B₂) (B₁.length:Int) B'):B'=if x.length+y.length < 5 then B₁++(x++y)::B₂ else B₁++x::y::B₂:=by
 rcases h with⟨h,e⟩ | ⟨C₁,u,v,C₂,h1,h2,h3⟩
 ·simp only[r_e,r_i] at h
  omega
 ·have hl:B₁.length=C₁.length:=by omega
  obtain⟨e1,e2⟩:=List.append_inj h2 hl
  subst e1
  injection e2 with e3 e4
  injection e4 with e5 e6
  subst e3 e5 e6
  exact h3
theorem i_h {B₁ B':List (List Row)} {x:List Row} (h:e_r (B₁++ [x]) (B₁.length:Int) B'):B'=B₁++ [x]:=by
 rcases h with⟨h,e⟩ | ⟨C₁,u,v,C₂,h1,h2,h3⟩
 ·exact e
 ·have:=congrArg List.length h2
  simp only[r_e,r_i,r_M] at this
  omega
theorem h_1 {B B':List (List Row)} {p:Int} (hp:p < 0) (h:e_r B p B'):B'=B:=by
 rcases h with⟨h,e⟩ | ⟨C₁,u,v,C₂,h1,h2,h3⟩
 ·exact e
 ·omega
theorem g_2 {B B':List (List Row)} {p:Int} (g:Adj 8 (B.map List.length)) (h:e_r B p B'):B'=B:=by
 rcases h with⟨h,e⟩ | ⟨C₁,u,v,C₂,h1,h2,h3⟩
 ·exact e
 ·subst h2
  rw[r_k,r_r,r_r,Adj.app] at g
  obtain⟨_,_,_,_,_,_,g,_⟩:=g
  rw[if_neg (by omega)] at h3
  exact h3
theorem l_d {B₁ B₂ By Bz:List (List Row)} {b b':List Row} (g:Adj 8 ((B₁++b::B₂).map List.length)) (hb:b.length=b'.length+1) (h1:1<=b'.length)
 (j1:e_r (B₁++b'::B₂) (B₁.length:Int) By) (j2:e_r By ((B₁.length:Int) - 1) Bz):Adj 8 (Bz.map List.length)/\Bz.flatten=(B₁++b'::B₂).flatten:=by
 rw[r_k,r_r,hb] at g
 -- where the block's right neighbour is not joined
 have right:By=B₁++b'::B₂->(∀c r,B₂.map List.length=c::r->5<=b'.length+c)->Adj 8 (Bz.map List.length)/\Bz.flatten=(B₁++b'::B₂).flatten:=by
  intro e hr
  subst e
  rcases List.eq_nil_or_concat B₁ with e | ⟨A,e0,e⟩
  ·subst e
   have z:=h_1 (by simp) j2
   subst z
   exact⟨by simpa using Adj.less (l₁:= []) g h1 (by simp[f_e];omega) hr,rfl⟩
  ·rw[List.concat_eq_append] at e
   subst e
   have ep:((A++ [e0]).length:Int) - 1=(A.length:Int):=by simp
   rw[ep,List.append_assoc] at j2
   have z:=g_t (B₁:=A) (x:=e0) (y:=b') (B₂:=B₂) j2
   by_cases c:e0.length+b'.length < 5
   ·rw[if_pos c] at z
    subst z
    refine⟨?_, by simp⟩
    rw[r_k,r_r,r_e]
    rw[r_k,List.append_assoc] at g
    exact Adj.less_join_l g c
   ·rw[if_neg c] at z
    subst z
    refine⟨?_, by simp⟩
    have q:=Adj.less (l₁:=(A++ [e0]).map List.length) g h1 (by rw[r_k];simp only[r_r,List.map_nil];rw[e_J];omega) hr
    simpa using q
 cases B₂ with
 | nil=>exact right (i_h j1) (λc r h=>by cases h)
 | cons y R=>
   have z:=g_t j1
   by_cases c:b'.length+y.length < 5
   ·rw[if_pos c] at z
    subst z
    have g':Adj 8 ((B₁++(b'++y)::R).map List.length):=by
     rw[r_k,r_r,r_e]
     exact Adj.less_join g h1 c
    have z2:=g_2 g' j2
    subst z2
    exact⟨g',by simp⟩
   ·rw[if_neg c] at z
    exact right z λd r h=>by
     injection h with h _
     omega
theorem h_v {α:Type} [DecidableEq α] {a:α}:∀{l:List α},a∈l->l.eraseIdx (l.idxOf a)=l.erase a
 | x::r,h=>by
   rw[List.idxOf_cons,List.erase_cons]
   cases e:x == a with
   | true=>simp
   | false=>
     have:a∈r:=by
      rcases r_n.mp h with q | q
      ·subst q;simp at e
      ·exact q
     simp only[cond_false,List.eraseIdx_cons_succ]
     rw[h_v this]
     simp
section
variable {P:Program} {w:World} {K:PySem.W.Frag} {mg:Str->Option Value} {base:Heap}
def o_u (C:Addr):Sp:=λvs H Q _=>∃(w:Bool) (o bl a:Addr) (bas:List Addr) (B:List (List Row)) (ρ:Row),vs= [.ref o,.ref a]/\OrdAt C w H o bl bas B/\RowAt H a ρ/\GoodB w B/\ρ∈B.flatten/\B.flatten.length < 10000/\
 ∀(bas':List Addr) (B':List (List Row)) (H':Hp),OrdAt C w H' o bl bas' B'->GoodB w B'->(ρ::B'.flatten).Perm B.flatten->Stp H H' (bl::bas) (bl::bas')->Q .non H'
theorem n_f:a_s ["self","row","place","block"] ["self","row"] (a_m p_w):=⟨rfl,rfl,rfl,by decide+kernel,rfl,by decide+kernel,by decide+kernel⟩
theorem o_z {f fK fBA fJ C:Addr} {fd fdK fdBA fdJ:FuncData} (F:Fun K "let_out" "Order.let_out" p_w f fd) (T:Txt K mg C) (gK:Gf K mg "key_of" fK fdK ["word","row"]) (GK:FnOk P w K mg base CX0 2 fK fdK ["word","row"] g_3)
 (mBA:Mf K C "blocks_ahead" fBA fdBA ["self","key"]) (GBA:FnOk P w K mg base CX0 3 fBA fdBA ["self","key"] (o_R C)) (mJ:Mf K C "join_if_few" fJ fdJ ["self","place"]) (GJ:FnOk P w K mg base CX0 1 fJ fdJ ["self","place"] (l_6 C)):
 FnOk P w K mg base CX0 4 f fd ["self","row"] (o_u C):=by
 refine F.ok n_f (λvs H Q E h=> ?_) (λcdv A outer s H vs Q E hr h=> ?_)
 ·obtain⟨w,o,bl,a,bas,B,ρ,rfl,_⟩:=h
  rfl
 ·obtain⟨w,o,bl,a,bas,B,ρ,rfl,O,ha,G,hm,hsz,fin⟩:=h
  obtain⟨⟨dx,ho⟩,hbl,hbs,hnd⟩:=id O
  have hr1:Room 1 _:=hr.mono (by decide)
  have hr2:Room 2 _:=hr.mono (by decide)
  have hlen:bas.length=B.length:=Paired.length hbs
  refine⟨_,a_c (a_w (i:=2) n_f.nd rfl (Or.inl rfl) (a_N (pv 0) T.cl mBA.m GBA hr mBA.b .nil a_u (a_a (a_j GK hr2 rfl gK.mg gK.kp gK.b .nil a_u (a_a (a_D (pv 0) rfl) (a_a (pv 1) a_d))) a_d)))
   (a_c (a_w (i:=3) n_f.nd rfl (Or.inl rfl) (a_r a_M (a_D (pv 0) rfl) (pv 2) (λ_ _=>rfl)))
   (a_c (a_z (b_C r_W PySem.F.slot_list_remove PySem.F.type_list_remove (j_i (e_G hr)) (pv 3) (a_a (pv 1) a_d)))
   (a_g (a_C (a_k h_0 (a_y a_v (by rfl) T.len r_V (a_a (pv 3) a_d)) a_f (a_o _))
     (a_c (a_z (a_N (pv 0) T.cl mJ.m GJ hr1 mJ.b .nil a_u (a_a (pv 2) a_d))) (a_g (a_z (a_N (pv 0) T.cl mJ.m GJ hr1 mJ.b .nil a_u (a_a (a_t b_R (pv 2) a_f) a_d)))))
     (a_g (a_z (b_C r_W PySem.F.slot_list_pop PySem.F.type_list_pop h_K (a_D (pv 0) rfl) (a_a (pv 2) a_d)))))))),?_⟩
  refine⟨_,rfl,o,dx,_,rfl,ho,a_X _ _ (by decide+kernel) (by decide+kernel),_,rfl,o,C,dx,_,_,rfl,ho,T.cl,T.nW,b_J _ _,_,rfl,w,a,ρ,rfl,ha,λk hk=> ?_⟩
  have s1:Same H (upd H k (.tup (a_I w ρ))):=Same.upd_new hk
  refine⟨w,o,bl,k,bas,B,a_I w ρ,rfl,O.same s1,a_b,λρ'=>c_t w ρ' ρ,G.srt,G.ne,λB₁ B₂ H2 s2 eB hB1 hB2=> ?_⟩
  have s12:Same H H2:=s1.trans s2
  have hB1':∀y∈B₁.flatten,ltR w y ρ=true:=by
   have:=G.srt
   rw[eB,r_z,Srt.app] at this
   exact b_5 (P:=λy=>ltR w y ρ) (b_Q w (a_I w ρ)) this.1 λc hc=>c_n (hB1 c hc)
  cases B₂ with
  | nil=>
    rw[r_J] at eB
    subst eB
    exact (o_F (b_G w) hm hB1').elim
  | cons b B₂=>
  subst eB
  obtain⟨z,ez,pz⟩:=g_h (hB2 b (r_g ..)) (G.ne b (by simp))
  have hρb:ρ∈b:=g_4 (b_G w) G.srt hm hB1' ez pz
  obtain⟨l₁,ab,l₂,rfl,hp1,hab0,hp2⟩:=b_c hbs
  obtain⟨as,hab,hRb⟩:=id hab0
  have hl1:l₁.length=B₁.length:=Paired.length hp1
  obtain⟨n1,n2,n3,n4,n5,n6⟩:=d_h hnd
  have gb:((l₁++ab::l₂).map V.ref)[B₁.length]? =some (V.ref ab):=by rw[r_o,<-hl1,c_N];rfl
  refine⟨_,rfl,o,C,dx,_,_,rfl,s12 _ _ ho,T.cl,T.nB,a_A _ _,_,rfl,bl,_,_,_,rfl,rfl,SqL.of (s12 _ _ hbl),a_e gb,?_⟩
  refine⟨_,rfl,.inl ⟨rfl,_,SqL.of (s12 _ _ hab)⟩,_,rfl,ab,as,a,b,ρ,rfl,rfl,s12 _ _ hab,hRb.same (λb xs q=>s12 _ _ q),s12 _ _ ha,hρb,?_⟩
  have hR4:=((hRb.eraseIdx (b.idxOf ρ)).same λb xs q=>s12 _ _ q).same (NoTup.keep (o:= .lst ((as.eraseIdx (b.idxOf ρ)).map V.ref)) (NoTup.lst (s12 _ _ hab)))
  rw[h_v hρb] at hR4
  have hoa:o≠ab:=e_8 ho hab (by intro z;cases z)
  have hob:o≠bl:=e_8 ho hbl (by intro z;cases z)
  have t4:NoTup H2 ab:=NoTup.lst (s12 _ _ hab)
  have hle:b.length=(b.erase ρ).length+1:=by
   have:=List.length_erase_of_mem hρb
   have:0 < b.length:=List.length_pos_of_mem hρb
   omega
  have hE:=f_B G.srt hρb
  generalize as.eraseIdx (b.idxOf ρ)=as' at hR4 ⊢
  generalize hH4:upd H2 ab (.lst (as'.map V.ref))=H4 at hR4 ⊢
  have e4:H4 ab=some (.lst (as'.map V.ref)):=by rw[<-hH4];exact a_b
  have k4:∀c u,c≠ab->H2 c=some u->H4 c=some u:=λc u hc q=>by rw[<-hH4,a_i hc];exact q
  have hla:=hR4.len
  have hp1':Paired (LstAt H4) l₁ B₁:=by
   rw[<-hH4]
   exact a_O t4 (Paired.mapP hp1 λ_ _ q=>q.sameS s12) λx hx e=>n4 (e ▸ hx)
  have hp2':Paired (LstAt H4) l₂ B₂:=by
   rw[<-hH4]
   exact a_O t4 (Paired.mapP hp2 λ_ _ q=>q.sameS s12) λx hx e=>n5 (e ▸ hx)
  have O4:OrdAt C w H4 o bl (l₁++ab::l₂) (B₁++b.erase ρ::B₂):=⟨⟨dx,k4 _ _ hoa (s12 _ _ ho)⟩,k4 _ _ n2 (s12 _ _ hbl),a_F hp1' (.cons ⟨as',e4,hR4⟩ hp2'),hnd⟩
  have S4:Stp H H4 (bl::(l₁++ab::l₂)) (bl::(l₁++ab::l₂)):=⟨λc u hc hn=>k4 c u (λe=>hn (by simp[e])) (s12 c u hc),λc hc=> .inl hc⟩
  refine⟨_,rfl,ab,_,rfl,.inl (SqL.of e4),_,_,rfl,rfl,_,rfl,?_⟩
  have hB8:∀c∈B₁++b::B₂,c.length<=8:=λc hc=>(f_k G.adj c.length (r_H.mpr ⟨c,hc,rfl⟩)).2
  have hBl:=G.len
  refine a_x (λc0=> ?_) (λc0=> ?_)
  ·have h0:1≤(b.erase ρ).length:=by
    have:=r_U c0
    rw[r_c] at this
    omega
   have h8:∀c∈B₁++b.erase ρ::B₂,c.length<=8:=λc hc=>by
    simp only[r_u,r_n] at hc
    rcases hc with q | q | q
    ·exact hB8 c (by simp[q])
    ·have:=hB8 b (by simp);subst q;omega
    ·exact hB8 c (by simp[q])
   refine⟨_,rfl,o,dx,_,rfl,k4 _ _ hoa (s12 _ _ ho),a_X _ _ (by decide+kernel) (by decide+kernel),_,rfl,w,o,bl,_,_,_,rfl,O4,h8,by omega,λbas5 B5 H5 O5 S5 j5=> ?_⟩
   obtain⟨⟨dx5,ho5⟩,hbl5,hbs5,_⟩:=id O5
   have hb5:(∀c∈B5,c.length<=8)/\B5.length<=(B₁++b.erase ρ::B₂).length:=by
    rcases j5 with⟨_,e⟩ | ⟨C₁,u,v,C₂,h1,h2,h3⟩
    ·subst e;exact⟨h8,r_l _⟩
    ·by_cases q:u.length+v.length < 5
     ·rw[if_pos q] at h3
      subst h3
      rw[h2] at h8 ⊢
      refine⟨λc hc=> ?_, by simp⟩
      simp only[r_u,r_n] at hc
      rcases hc with z | z | z
      ·exact h8 c (by simp[z])
      ·subst z;rw[r_e];omega
      ·exact h8 c (by simp[z])
     ·rw[if_neg q] at h3
      subst h3
      exact⟨h8,r_l _⟩
   have hl5:bas5.length=B5.length:=Paired.length hbs5
   refine⟨_,rfl,o,dx5,_,rfl,ho5,a_X _ _ (by decide+kernel) (by decide+kernel),_,rfl,_,_,rfl,rfl,w,o,bl,_,_,_,rfl,O5,hb5.1,?_, λbas6 B6 H6 O6 S6 j6=> ?_⟩
   ·have:=hb5.2
    simp only[r_e,r_i] at this hBl
    omega
   ·have LG:=l_d G.adj hle h0 j5 j6
    refine fin bas6 B6 H6 O6 ⟨LG.1,?_⟩ ?_ ((S4.trans S5).trans S6)
    ·rw[LG.2];exact hE.1
    ·rw[LG.2];exact hE.2
  ·have h0:(b.erase ρ).length=0:=by
    have:¬ ((0:Int) < _):=λz=>c0 (r_S z)
    rw[r_c] at this
    omega
   have he:b.erase ρ= []:=List.eq_nil_of_length_eq_zero h0
   have er:((l₁++ab::l₂).map V.ref).eraseIdx B₁.length=(l₁++l₂).map V.ref:=by
    rw[<-hl1,c_3,f_K]
   have h63:(B₁.length:Int) < 2 ^ 63:=by
    simp only[r_e,r_i] at hBl
    omega
   refine⟨_,rfl,o,C,dx,_,_,rfl,k4 _ _ hoa (s12 _ _ ho),T.cl,T.nB,a_A _ _,.inl ⟨rfl,_,SqL.of (k4 _ _ n2 (s12 _ _ hbl))⟩,_,rfl,bl,_,_,B₁.length,_,rfl,rfl,k4 _ _ n2 (s12 _ _ hbl),by omega,h63,?_, gb,?_⟩
   ·rw[PySem.seqIndex_of (by omega) (by simp;omega)]
    rfl
   rw[er]
   have t5:NoTup H4 bl:=NoTup.lst (k4 _ _ n2 (s12 _ _ hbl))
   refine fin (l₁++l₂) (B₁++B₂) _ ⟨⟨dx,by rw[a_i hob];exact k4 _ _ hoa (s12 _ _ ho)⟩,a_b,a_F (a_O t5 hp1' λx hx e=>n1 (e ▸ hx)) (a_O t5 hp2' λx hx e=>n3 (e ▸ hx)),n6⟩ ⟨?_, ?_⟩ ?_ ?_
   ·have g:=G.adj
    rw[r_k,r_r,hle,h0] at g
    rw[r_k]
    exact Adj.gone g
   ·have:=hE.1
    rw[he] at this
    simpa using this
   ·have:=hE.2
    rw[he] at this
    simpa using this
   ·refine⟨λc u hc hn=> ?_, λc hc=> .inl ?_⟩
    ·rw[a_i (λe=>hn (by simp[e]))]
     exact S4.keep c u hc hn
    ·simp only[r_n,r_u] at hc ⊢
     rcases hc with q | q | q
     ·exact .inl q
     ·exact .inr (.inl q)
     ·exact .inr (.inr (.inr q))
end
def q_C (K:PySem.W.Frag):List V->Hp->VK->Prop:=λxs H Q=>∃p ys,xs= [.ref p]/\(SqL K H p ys\/SqT K H p ys)/\Q (.int ys.length) H
theorem j_X {X:Cx} (K:PySem.W.Frag) (hK:X.K=K:=by rfl):d_a X (.builtin "len") (q_C K):=by subst hK;exact a_v
theorem b_o {X:Cx} (K:PySem.W.Frag) (hK:X.K=K:=by rfl):IxR X (q_o K):=by subst hK;exact a_p
theorem l_i {X:Cx} (K:PySem.W.Frag) (hK:X.K=K:=by rfl):IxR X (q_x K):=by subst hK;exact a_M
section
variable {P:Program} {w:World} {K:PySem.W.Frag} {mg:Str->Option Value} {base:Heap}
theorem f_t {B:List (List Row)}:∀i,((B.take i).flatten).length<=B.flatten.length:=λi=>by
 have e:(B.take i++B.drop i).flatten=B.flatten:=by rw[r_P]
 rw[<-e,r_z,r_e]
 omega
def j_2 (C:Addr):Sp:=λvs H Q _=>∃(w:Bool) (o bl a:Addr) (bas:List Addr) (B:List (List Row)) (ρ:Row),vs= [.ref o,.ref a]/\OrdAt C w H o bl bas B/\RowAt H a ρ/\GoodB w B/\B.flatten.length < 10000/\
 ∀(H':Hp),Same H H'->Q (.int ((B.flatten.filter λx=>ltR w x ρ).length:Nat)) H'
theorem d_U:a_s ["self","row","key","place","ahead"] ["self","row"] (a_m j_1):=⟨rfl,rfl,rfl,by decide+kernel,rfl,by decide+kernel,by decide+kernel⟩
theorem f_0 (l:List Nat):(l.map λn:Nat=>(n:Int)).sum=((l.sum:Nat):Int):=by
 induction l with
 | nil=>rfl
 | cons a r ih=>simp only[r_r,List.sum_cons,ih];omega
theorem l_E {f fK fBA fRA C:Addr} {fd fdK fdBA fdRA:FuncData} (F:Fun K "ahead_of" "Order.ahead_of" j_1 f fd) (T:Txt K mg C) (gK:Gf K mg "key_of" fK fdK ["word","row"]) (GK:FnOk P w K mg base CX0 2 fK fdK ["word","row"] g_3)
 (mBA:Mf K C "blocks_ahead" fBA fdBA ["self","key"]) (GBA:FnOk P w K mg base CX0 3 fBA fdBA ["self","key"] (o_R C)) (mRA:Mf K C "rows_ahead" fRA fdRA ["self","block","key"]) (GRA:FnOk P w K mg base CX0 3 fRA fdRA ["self","block","key"] (p_0 C)):
 FnOk P w K mg base CX0 4 f fd ["self","row"] (j_2 C):=by
 refine F.ok d_U (λvs H Q E h=> ?_) (λcdv A outer s H vs Q E hr h=> ?_)
 ·obtain⟨w,o,bl,a,bas,B,ρ,rfl,_⟩:=h
  rfl
 ·obtain⟨w,o,bl,a,bas,B,ρ,rfl,O,ha,G,hsz,fin⟩:=h
  obtain⟨⟨dx,ho⟩,hbl,hbs,hnd⟩:=id O
  have hr2:Room 2 _:=hr.mono (by decide)
  have hlen:bas.length=B.length:=Paired.length hbs
  refine⟨_,a_c (a_w (i:=2) d_U.nd rfl (Or.inl rfl) (a_j GK hr2 rfl gK.mg gK.kp gK.b .nil a_u (a_a (a_D (pv 0) rfl) (a_a (pv 1) a_d))))
   (a_c (a_w (i:=3) d_U.nd rfl (Or.inl rfl) (a_N (pv 0) T.cl mBA.m GBA hr mBA.b .nil a_u (a_a (pv 2) a_d)))
   (a_c (a_w (i:=4) d_U.nd rfl (Or.inl rfl) (a_y (i_Y rfl) (by rfl) T.sum PyProof.Rows.boot_sum (a_a (c_Z (x:="block") (fns:= []) (js:= []) rfl
     ⟨rfl,by decide+kernel,by decide+kernel,rfl,by decide+kernel,by simp,rfl,by simp,rfl,by decide+kernel⟩ (b_e (b_8 e_d (a_D (pv 0) rfl) d_w (c_v (pv 3)))) (λ_ _ _ _=>c_a)
     (λ_ _ _ _=>a_y (j_X K) (by rfl) T.len r_V (a_a (pv 0) a_d))) a_d)))
   (a_c (a_C (a_k e_E (pv 3) (a_y a_v (by rfl) T.len r_V (a_a (a_D (pv 0) rfl) a_d)) (a_o _))
     (a_g (a_w (i:=4) d_U.nd rfl (Or.inl rfl) (a_t a_S (pv 4) (a_N (pv 0) T.cl mRA.m GRA hr mRA.b .nil a_u (a_a (a_r a_M (a_D (pv 0) rfl) (pv 3) (λ_ _=>rfl)) (a_a (pv 2) a_d)))))) a_q)
   (a_g (a_n (pv 4)))))),?_⟩
  refine⟨_,rfl,o,C,dx,_,_,rfl,ho,T.cl,T.nW,b_J _ _,_,rfl,w,a,ρ,rfl,ha,λk hk=> ?_⟩
  have s1:Same H (upd H k (.tup (a_I w ρ))):=Same.upd_new hk
  refine⟨_,rfl,o,dx,_,rfl,s1 _ _ ho,a_X _ _ (by decide+kernel) (by decide+kernel),_,rfl,w,o,bl,k,bas,B,a_I w ρ,rfl,O.same s1,a_b,λρ'=>c_t w ρ' ρ,G.srt,G.ne,λB₁ B₂ H2 s2 eB hB1 hB2=> ?_⟩
  have s12:Same H H2:=s1.trans s2
  have hB1l:B₁.length<=bas.length:=by rw[hlen,eB,r_e];omega
  refine⟨_,rfl,o,C,dx,_,_,rfl,s12 _ _ ho,T.cl,T.nB,a_A _ _,_,rfl,_,rfl,bl,_,rfl,SqL.of (s12 _ _ hbl),λc1 f1=> ?_⟩
  rw[h_J (by rw[r_c];exact hB1l),<-List.map_take]
  refine⟨c1,rfl,⟨_,SqL.of a_b⟩,λD fD=> ?_⟩
  have hcD:c1≠D:=a_h a_b fD
  have fD2:H2 D=none:=by rw[a_i hcD.symm] at fD;exact fD
  refine c_x (K:=K) (xs:=(bas.take B₁.length).map V.ref)
   (λi ys H3=>Same H2 H3/\H3 c1=some (.lst ((bas.take B₁.length).map V.ref))/\ys=((B.take i).map λb=>V.int b.length)) ?_ ?_ ?_ ?_
  ·refine⟨(Same.upd_new f1).trans (Same.upd_new fD),?_, by simp⟩
   rw[a_i hcD]
   exact a_b
  ·rintro i ys H3 _ _ ⟨_,h,_⟩
   exact SqL.of h
  ·rintro i v ys H3 hi hD ⟨s3,hc,rfl⟩
   rw[r_o] at hi
   cases e:(bas.take B₁.length)[i]? with
   | none=>rw[e] at hi;cases hi
   | some ab=>
     rw[e] at hi
     obtain rfl:V.ref ab=v:=r_j hi
     have hil:=(r_q.mp e).1
     rw[r_y] at hil
     have e0:bas[i]? =some ab:=by rw[List.getElem?_take_of_lt (by omega)] at e;exact e
     obtain⟨b,hb⟩:∃b,B[i]? =some b:=⟨_,r_d (by omega)⟩
     obtain⟨ab',e',bs,hbs',hRb⟩:=a_T hbs hb
     rw[e0] at e'
     obtain rfl:ab=ab':=r_j e'
     have hlb:=hRb.len
     refine⟨_,rfl,ab,_,rfl,.inl (SqL.of (s3 _ _ (s12 _ _ hbs'))),hD,?_, λc u h=> ?_, ?_, ?_⟩
     ·have:=G.len
      rw[r_c,r_y]
      exact r_s (m:=10000) (by omega) (by decide)
     ·rw[a_i (a_h h fD2)]
      exact s3 _ _ h
     ·rw[a_i hcD]
      exact hc
     ·rw[r_D,hb,r_k,r_c,hlb]
      rfl
  ·rintro ys H3 hD ⟨s3,hc,rfl⟩
   have hl':((bas.take B₁.length).map V.ref).length=B₁.length:=by rw[r_c,r_y];omega
   rw[hl'] at hD
   have eT:B.take B₁.length=B₁:=by rw[eB];exact (f_V rfl).1
   rw[eT] at hD
   have s13:Same H H3:=s12.trans s3
   refine⟨D,B₁.map λb=>(b.length:Int),rfl,SqL.of (by rw[List.map_map];exact hD),?_⟩
   have esum:(B₁.map λb=>(b.length:Int)).sum=(((B₁.map List.length).sum:Nat):Int):=by
    rw[<-f_0,List.map_map];rfl
   rw[esum]
   refine⟨_,rfl,_,rfl,o,C,dx,_,_,rfl,s13 _ _ ho,T.cl,T.nB,a_A _ _,bl,_,rfl,.inl (SqL.of (s13 _ _ hbl)),_,_,rfl,rfl,_,rfl,?_⟩
   have hBs:=G.srt
   cases B₂ with
   | nil=>
     rw[r_J] at eB
     subst eB
     refine a_x (λc=> ?_) (λc=> ?_)
     ·have:=r_U c
      rw[r_c,hlen] at this
      omega
     ·refine⟨_,rfl,?_⟩
      rw[<-d_E (P:=λx=>ltR w x ρ) (b_5 (P:=λx=>ltR w x ρ) (b_Q w (a_I w ρ)) hBs λc hc=>c_n (hB1 c hc))]
      exact fin H3 s13
   | cons b B₂=>
     subst eB
     have hpl:=h_m hBs hB1 (hB2 b (r_g ..)) (G.ne b (by simp))
     obtain⟨l₁,ab,l₂,rfl,hp1,hab0,hp2⟩:=b_c hbs
     obtain⟨as,hab,hRb⟩:=id hab0
     have hl1:l₁.length=B₁.length:=Paired.length hp1
     have gb:((l₁++ab::l₂).map V.ref)[B₁.length]? =some (V.ref ab):=by rw[r_o,<-hl1,c_N];rfl
     refine a_x (λc=> ?_) (λc=> ?_)
     ·refine⟨_,rfl,_,rfl,o,dx,_,rfl,s13 _ _ ho,a_X _ _ (by decide+kernel) (by decide+kernel),_,rfl,o,C,dx,_,_,rfl,s13 _ _ ho,T.cl,T.nB,a_A _ _,_,rfl,bl,_,_,_,rfl,rfl,SqL.of (s13 _ _ hbl),a_e gb,_,rfl,w,o,bl,dx,ab,k,b,a_I w ρ,rfl,s13 _ _ ho,hab0.sameS s13,s3 _ _ (s2 _ _ a_b),λρ'=>c_t w ρ' ρ,λH4 s4=> ?_⟩
      refine⟨_,_,rfl,rfl,_,rfl,?_⟩
      have ec:=g_j (P:=λx=>ltR w x ρ) (b_Q w (a_I w ρ)) hBs hpl.1 hpl.2
      have:=fin H4 (s13.trans s4)
      rw[ec] at this
      exact this
     ·exact absurd (r_S (by rw[r_c];simp[hl1];omega)) c
def l_3 (C:Addr):Sp:=λvs H Q _=>∃(w:Bool) (o bl:Addr) (bas:List Addr) (B:List (List Row)),vs= [.ref o]/\OrdAt C w H o bl bas B/\B.flatten.length < 10000/\∀(l:Addr) (H':Hp),H l=none->Same H H'->LstAt H' l B.flatten->Q (.ref l) H'
theorem k_r:a_s ["self","found","block"] ["self"] (a_m n_x):=⟨rfl,rfl,rfl,by decide+kernel,rfl,by decide+kernel,by decide+kernel⟩
theorem m_l {f C:Addr} {fd:FuncData} (F:Fun K "rows" "Order.rows" n_x f fd) (T:Txt K mg C):FnOk P w K mg base CX0 1 f fd ["self"] (l_3 C):=by
 refine F.ok k_r (λvs H Q E h=> ?_) (λcdv A outer s H vs Q E hr h=> ?_)
 ·obtain⟨w,o,bl,bas,B,rfl,_⟩:=h
  rfl
 ·obtain⟨w,o,bl,bas,B,rfl,O,hsz,fin⟩:=h
  obtain⟨⟨dx,ho⟩,hbl,hbs,hnd⟩:=id O
  have hlen:bas.length=B.length:=Paired.length hbs
  refine⟨_,a_c (a_w (i:=1) k_r.nd rfl (Or.inl rfl) (a_U a_d))
   (a_c (c_g PassesOwn.never rfl (b_e (a_D (pv 0) rfl)) (b_d (i:=2) k_r.nd rfl (Or.inl rfl))
     (a_g (a_z (b_C r_W PySem.F.slot_list_extend PySem.F.type_list_extend d_b (pv 1) (a_a (pv 2) a_d)))))
   (a_g (a_n (pv 1)))),?_⟩
  refine⟨by show 0<=sizeLine;decide,λl hl=> ?_⟩
  have s1:Same H (upd H l (.lst [])):=Same.upd_new hl
  refine⟨_,rfl,o,C,dx,_,_,rfl,s1 _ _ ho,T.cl,T.nB,a_A _ _,bl,rfl,⟨_,SqL.of (s1 _ _ hbl)⟩,c_F (K:=K) (a:=bl) (xs:=bas.map V.ref)
   (λi σ H2=>∃v,σ= [some (.ref o),some (.ref l),v]/\Same H H2/\LstAt H2 l (B.take i).flatten) ⟨none,rfl,s1, [],a_b,.nil⟩ (λi σ H2 _ ⟨_,_,s2,_⟩=>SqL.of (s2 _ _ hbl)) ?_ ?_⟩
  ·rintro i x σ H2 hi ⟨v,rfl,s2,as,hl2,hR2⟩
   rw[r_o] at hi
   cases e:bas[i]? with
   | none=>rw[e] at hi;cases hi
   | some ab=>
     rw[e] at hi
     obtain rfl:V.ref ab=x:=r_j hi
     have hiB:i < B.length:=by rw[<-hlen];exact (r_q.mp e).1
     obtain⟨b,hb⟩:∃b,B[i]? =some b:=⟨_,r_d hiB⟩
     obtain⟨ab',e',bs,hbs',hRb⟩:=a_T hbs hb
     rw[e] at e'
     obtain rfl:ab=ab':=r_j e'
     have hll:l≠ab:=(a_h hbs' hl).symm
     have hl2':=hR2.len
     have hlb:=hRb.len
     have q1:=f_t (B:=B) (i+1)
     rw[r_D,hb,r_z] at q1
     simp only[Option.toList_some,r_F,List.flatten_nil,r_J,r_e] at q1
     refine⟨_,rfl,.inl ⟨rfl,_,SqL.of hl2⟩,_,rfl,l,ab,_,_,rfl,rfl,hl2,s2 _ _ hbs',?_, ?_⟩
     ·rw[r_c,r_c]
      exact Nat.le_of_lt (r_s (m:=10001) (by omega) (by decide))
     ·refine⟨_,rfl,λc u hc=> ?_, as++bs,by rw[r_k];exact a_b,?_⟩
      ·rw[a_i (a_h hc hl)]
       exact s2 _ _ hc
      ·rw[r_D,hb,r_z]
       simp only[Option.toList_some,r_F,List.flatten_nil,r_J]
       exact (RowsAt.app hR2 (hRb.same λb xs q=>s2 _ _ q)).same (NoTup.keep (NoTup.lst hl2))
  ·rintro σ H2 ⟨v,rfl,s2,h2⟩
   rw[r_c,hlen,r_w (r_l _)] at h2
   exact⟨_,rfl,fin l H2 hl s2 h2⟩
end
def btw (w:Bool) (lo hi:V) (x:Row):Bool:= !ltV (c_k w x) lo&& !ltV hi (c_k w x)
theorem o_M {a b c:V} (h:ltV a b=true) (hbc:b_g b c=true) (h2:ltV c b=false):ltV a c=true:=by
 by_cases e:b=c
 ·rw[<-e];exact h
 ·have:b_g c b=true:=by
   cases b <;> cases c <;> first | rfl | cases hbc
  exact d_2 h (g_S this h2 (λq=>e q.symm))
theorem n_P {w:Bool} {lo hi:V} {x:Row} {t:List Row} (hs:Srt (ltR w) (x::t)) (h:ltV hi (c_k w x)=true):(x::t).filter (btw w lo hi)= []:=by
 rw[List.filter_eq_nil_iff]
 intro y hy
 have:ltV hi (c_k w y)=true:=by
  rcases r_n.mp hy with e | e
  ·rw[e];exact h
  ·exact o_M h (c_H w x y) (k_S ((r_Q.mp hs).1 y e))
 simp[btw,this]
theorem m_q {w:Bool} {lo hi:V} {l:List Row} (h:∀x∈l,ltV (c_k w x) lo=true):l.filter (btw w lo hi)= []:=by
 rw[List.filter_eq_nil_iff]
 intro y hy
 simp[btw,h y hy]
section
variable {P:Program} {w:World} {K:PySem.W.Frag} {mg:Str->Option Value} {base:Heap}
def i_2 (C:Addr):Sp:=λvs H Q _=>∃(w:Bool) (o bl:Addr) (bas:List Addr) (B:List (List Row)) (lo hi:V),vs= [.ref o,lo,hi]/\OrdAt C w H o bl bas B/\(∀ρ,b_g (c_k w ρ) lo=true)/\(∀ρ,b_g (c_k w ρ) hi=true)/\GoodB w B/\B.flatten.length < 10000/\
 ∀(l:Addr) (H':Hp),H l=none->Same H H'->LstAt H' l (B.flatten.filter (btw w lo hi))->Q (.ref l) H'
theorem e_M:a_s ["self","low","high","found","place","row","lead"] ["self","low","high"] (a_m m_2):=⟨rfl,rfl,rfl,by decide+kernel,rfl,by decide+kernel,by decide+kernel⟩
theorem n_F {f fL fBA C:Addr} {fd fdL fdBA:FuncData} (F:Fun K "between" "Order.between" m_2 f fd) (T:Txt K mg C) (gL:Gf K mg "lead_of" fL fdL ["word","row"]) (GL:FnOk P w K mg base CX0 1 fL fdL ["word","row"] k_b)
 (mBA:Mf K C "blocks_ahead" fBA fdBA ["self","key"]) (GBA:FnOk P w K mg base CX0 3 fBA fdBA ["self","key"] (o_R C)):
 FnOk P w K mg base CX0 4 f fd ["self","low","high"] (i_2 C):=by
 refine F.ok e_M (λvs H Q E h=> ?_) (λcdv A outer s H vs Q E hr h=> ?_)
 ·obtain⟨w,o,bl,bas,B,lo,hi,rfl,_⟩:=h
  rfl
 ·obtain⟨w,o,bl,bas,B,lo,hi,rfl,O,alo,ahi,G,hsz,fin⟩:=h
  obtain⟨⟨dx,ho⟩,hbl,hbs,hnd⟩:=id O
  have hr1:Room 1 _:=hr.mono (by decide)
  have hlen:bas.length=B.length:=Paired.length hbs
  refine⟨_,a_c (a_w (i:=3) e_M.nd rfl (Or.inl rfl) (a_U a_d))
   (a_c (a_w (i:=4) e_M.nd rfl (Or.inl rfl) (a_N (pv 0) T.cl mBA.m GBA hr mBA.b .nil a_u (a_a (a_J (a_a (pv 1) a_d)) a_d)))
   (a_c (d_g PassesOwn.never (a_k e_E (pv 4) (a_y a_v (by rfl) T.len r_V (a_a (a_D (pv 0) rfl) a_d)) (a_o _))
     (a_c (c_g PassesOwn.never rfl (b_e (a_r a_M (a_D (pv 0) rfl) (pv 4) (fun _ _=>rfl))) (b_d (i:=5) e_M.nd rfl (Or.inl rfl))
       (a_c (a_w (i:=6) e_M.nd rfl (Or.inl rfl) (a_j GL hr1 rfl gL.mg gL.kp gL.b .nil a_u (a_a (a_D (pv 0) rfl) (a_a (pv 5) a_d))))
       (a_c (a_C (a_k o_J (pv 6) (pv 2) (a_o _)) (a_g (a_n (pv 3))) a_q)
       (a_g (a_C (a_k o_t (pv 6) (pv 1) (a_o _)) (a_g (a_z (b_C r_W r_Y r_X a_Q (pv 3) (a_a (pv 5) a_d)))) a_q)))))
     (a_g (a_w (i:=4) e_M.nd rfl (Or.inl rfl) (a_t a_S (pv 4) a_f)))))
   (a_g (a_n (pv 3))))),?_⟩
  refine⟨by show 0<=sizeLine;decide,λl hl=> ?_⟩
  have s1:Same H (upd H l (.lst [])):=Same.upd_new hl
  refine⟨_,rfl,o,dx,_,rfl,s1 _ _ ho,a_X _ _ (by decide+kernel) (by decide+kernel),_,rfl,by show 1<=sizeLine;decide,λk hk=> ?_⟩
  have hlk:l≠k:=a_h a_b hk
  have s2:Same (upd H l (.lst [])) (upd (upd H l (.lst [])) k (.tup [lo])):=Same.upd_new hk
  refine⟨w,o,bl,k,bas,B, [lo],rfl,(O.same s1).same s2,a_b,λρ=>⟨alo ρ,trivial⟩,G.srt,G.ne,λB₁ B₂ H2 s3 eB hB1 hB2=> ?_⟩
  have s02:Same H H2:=(s1.trans s2).trans s3
  have hl2:H2 l=some (.lst []):=s3 _ _ (s2 _ _ a_b)
  refine⟨λm σ H3=>∃(i:Nat) (v1 v2:Option V),σ= [some (.ref o),some lo,some hi,some (.ref l),some (.int i),v1,v2]/\Same H H3/\i<=B.length/\m=B.length - i/\LstAt H3 l ((B.take i).flatten.filter (btw w lo hi)),
   ⟨_,B₁.length,none,none,rfl,s02,by rw[eB,r_e];omega,rfl, [],hl2,?_⟩,?_⟩
  ·have:B.take B₁.length=B₁:=by rw[eB];exact (f_V rfl).1
   rw[this]
   have hs:=G.srt
   rw[eB,r_z,Srt.app] at hs
   have ha:=b_5 (P:=λy=>b_b (a_I w y) [lo]) (b_Q w [lo]) hs.1 λc hc=>c_n (hB1 c hc)
   rw[m_q λx hx=>by rw[<-l_q];exact ha x hx]
   exact .nil
  rintro m σ H3 ⟨i,v1,v2,rfl,s3,hi',rfl,hL⟩
  refine⟨_,rfl,_,rfl,o,C,dx,_,_,rfl,s3 _ _ ho,T.cl,T.nB,a_A _ _,bl,_,rfl,.inl (SqL.of (s3 _ _ hbl)),_,_,rfl,rfl,_,rfl,?_⟩
  refine a_x (λc=> ?_) (λc=> ?_)
  ·have hiB:i < B.length:=by
    have:=r_U c
    rw[r_c,hlen] at this
    omega
   obtain⟨b,hb⟩:∃b,B[i]? =some b:=⟨_,r_d hiB⟩
   obtain⟨ab,e,bs,hab,hRb⟩:=a_T hbs hb
   obtain⟨C₁,C₂,eC,lC⟩:=d_H hb
   have gb:(bas.map V.ref)[i]? =some (V.ref ab):=by rw[r_o,e];rfl
   have eT:B.take i=C₁:=by rw[eC,<-lC];exact (f_V rfl).1
   have eT1:(B.take (i+1)).flatten=C₁.flatten++b:=by rw[r_D,hb,eT];simp
   refine⟨λσ' H'=>∃(v1 v2:Option V),σ'= [some (.ref o),some lo,some hi,some (.ref l),some (.int (i+1:Nat)),v1,v2]/\Same H H'/\LstAt H' l ((B.take (i+1)).flatten.filter (btw w lo hi)),?_, ?_⟩
   ·rintro σ' H' ⟨v1,v2,h1,h2,h3⟩
    exact⟨B.length - (i+1),by omega,i+1,v1,v2,h1,h2,hiB,rfl,h3⟩
   rw[eT] at hL
   have hlen':=f_t (B:=B) (i+1)
   rw[eT1,r_e] at hlen'
   refine⟨_,rfl,o,C,dx,_,_,rfl,s3 _ _ ho,T.cl,T.nB,a_A _ _,_,rfl,bl,_,_,_,rfl,rfl,SqL.of (s3 _ _ hbl),a_e gb,ab,rfl,⟨_,SqL.of (s3 _ _ hab)⟩,c_F (K:=K) (a:=ab) (xs:=bs.map V.ref)
    (λj σ H4=>∃(v1 v2:Option V),σ= [some (.ref o),some lo,some hi,some (.ref l),some (.int i),v1,v2]/\Same H H4/\LstAt H4 l ((C₁.flatten++b.take j).filter (btw w lo hi))) ⟨v1,v2,rfl,s3,by simpa using hL⟩ (λj σ H4 _ ⟨_,_,_,s4,_⟩=>SqL.of (s4 _ _ hab)) ?_ ?_⟩
   ·rintro j x σ H4 hj ⟨u1,u2,rfl,s4,as,hl4,hR4⟩
    rw[r_o] at hj
    cases ej:bs[j]? with
    | none=>rw[ej] at hj;cases hj
    | some r=>
      rw[ej] at hj
      obtain rfl:V.ref r=x:=r_j hj
      obtain⟨ρ,hρ,hr'⟩:=hRb.get' ej
      have hla:=hR4.len
      refine⟨_,rfl,o,C,dx,_,_,rfl,s4 _ _ ho,T.cl,T.nW,b_J _ _,_,rfl,w,r,ρ,rfl,s4 _ _ hr',?_⟩
      refine⟨_,rfl,_,rfl,ahi ρ,_,rfl,?_⟩
      refine a_x (λc1=> ?_) (λc1=> ?_)
      ·-- behind the last
       refine⟨_,rfl,fin l H4 hl s4 ⟨as,hl4,?_⟩⟩
       have hs:=G.srt
       obtain⟨b₁,b₂,eb,lb⟩:=d_H hρ
       have etb:b.take j=b₁:=by rw[eb,<-lb];exact (f_V rfl).1
       have eall:B.flatten=(C₁.flatten++b₁)++(ρ::(b₂++C₂.flatten)):=by rw[eC,eb];simp
       rw[eall,Srt.app] at hs
       rw[eall,List.filter_append,n_P hs.2.1 c1,r_J,<-etb]
       exact hR4
      ·refine⟨_,rfl,_,rfl,alo ρ,_,rfl,?_⟩
       have c1':ltV hi (c_k w ρ)=false:=by simpa using c1
       have etb:b.take (j+1)=b.take j++ [ρ]:=by rw[r_D,hρ];rfl
       refine a_x (λc2=> ?_) (λc2=> ?_)
       ·refine⟨_,rfl,.inl ⟨rfl,_,SqL.of hl4⟩,_,rfl,l,_,_,rfl,rfl,hl4,?_, ?_⟩
        ·rw[r_c,hla]
         refine r_R (r_N _ _) ?_
         rw[r_e,r_y]
         exact r_s (m:=10000) (by omega) (by decide)
        ·refine⟨_,_,rfl,λd u hd=> ?_, as++ [r],by rw[r_k];exact a_b,?_⟩
         ·rw[a_i (a_h hd hl)]
          exact s4 _ _ hd
         ·have c2':ltV (c_k w ρ) lo=false:=by simpa using c2
          rw[etb,<-List.append_assoc,List.filter_append,r_B]
          have:btw w lo hi ρ=true:=by simp[btw,c1',c2']
          rw[if_pos this]
          exact (RowsAt.app hR4 (.cons (s4 _ _ hr') .nil)).same (NoTup.keep (NoTup.lst hl4))
       ·refine⟨_,_,rfl,s4,as,hl4,?_⟩
        have c2':ltV (c_k w ρ) lo=true:=by simpa using c2
        rw[etb,<-List.append_assoc,List.filter_append,r_B]
        have:¬ btw w lo hi ρ=true:=by simp[btw,c2']
        rw[if_neg this]
        simpa using hR4
   ·rintro σ H4 ⟨u1,u2,rfl,s4,h4⟩
    have hlb:=hRb.len
    rw[r_c,hlb,r_w (r_l _)] at h4
    refine⟨_,rfl,_,_,rfl,rfl,_,_,rfl,s4,?_⟩
    rw[eT1]
    exact h4
  ·have hiB:i=B.length:=by
    have:¬ ((i:Int) < _):=λz=>c (r_S z)
    rw[r_c,hlen] at this
    omega
   refine⟨_,rfl,fin l H3 hl s3 ?_⟩
   rw[hiB,r_w (r_l _)] at hL
   exact hL
def l_W (C:Addr):Sp:=λvs H Q _=>∃(w:Bool) (p dx:Addr),vs= [.ref p,.str (e_v w)]/\H p=some (.ins C dx [])/\∀(bl:Addr) (H':Hp),H bl=none->OrdAt C w H' p bl [] []->(∀b u,H b=some u->b≠p->H' b=some u)->Q .non H'
theorem n_5:a_s ["self","word"] ["self","word"] (a_m m_T):=⟨rfl,rfl,rfl,by decide+kernel,rfl,by decide+kernel,by decide+kernel⟩
theorem n_b {f fCW C:Addr} {fd fdCW:FuncData} (F:Fun K "__init__" "Order.__init__" m_T f fd) (T:Txt K mg C) (gCW:Gf K mg "check_word" fCW fdCW ["word"]) (GCW:FnOk P w K mg base CX0 1 fCW fdCW ["word"] q_z):FnOk P w K mg base CX0 2 f fd ["self","word"] (l_W C):=by
 refine F.ok n_5 (λvs H Q E h=> ?_) (λcdv A outer s H vs Q E hr h=> ?_)
 ·obtain⟨w,p,dx,rfl,_⟩:=h
  rfl
 ·obtain⟨w,p,dx,rfl,hp,fin⟩:=h
  refine⟨_,a_c (a_z (a_j GCW hr rfl gCW.mg gCW.kp gCW.b .nil a_u (a_a (pv 1) a_d)))
   (a_c (d_d (pv 0) (pv 1) rfl) (a_g (d_d (pv 0) (a_U a_d) rfl))),?_⟩
  refine⟨_,rfl,w,rfl,?_⟩
  refine⟨_,rfl,_,rfl,p,C,dx,_,rfl,hp,T.cl,T.nW,(by show 0 < 1000;decide),?_⟩
  refine⟨by show 0<=sizeLine;decide,λbl hbl=> ?_⟩
  have n1:p≠bl:=a_h a_b hbl
  have hbl':H bl=none:=by rw[a_i n1.symm] at hbl;exact hbl
  refine⟨_,rfl,p,C,dx,_,rfl,(by rw[a_i n1];exact a_b),T.cl,T.nB,(by show 1 < 1000;decide),?_⟩
  refine fin bl _ hbl' ⟨⟨dx,a_b⟩,by rw[a_i n1.symm];exact a_b,.nil,by simp⟩ λb u hb hn=> ?_
  rw[a_i hn,a_i (a_h hb hbl'),a_i hn]
  exact hb
end
end K1
namespace L2
open PySem PySem.Spec PyProof.Rows
section
variable {X:Cx}
theorem b_E:d_a X (.builtin "isinstance") (λxs H Q=>∃x n t b,xs= [x,.ty n]/\h_z X.K H x t/\PySem.W.kitOne X.K t (.type n)=some b/\Q (.bl b) H):=by
 intro pins s σ H xs us Q I rv h
 obtain⟨x,n,t,b,rfl,ty,e,q⟩:=h
 obtain⟨u,v,rfl,ru,rc⟩:=rv.two
 cases rc
 exact j_p I ru ty e λtk=>⟨.bl b,H,I.tok tk,rfl,q⟩
example (K:PySem.W.Frag):PySem.W.kitOne K (.type "int") (.type "bool")=some false:=by rfl
example (K:PySem.W.Frag):PySem.W.kitOne K (.type "int") (.type "int")=some true:=by rfl
example (K:PySem.W.Frag):PySem.W.kitAny K (.type "int") [.type "list",.type "tuple"]=some false:=by rfl
theorem j_7:d_a X (.builtin "isinstance") (λxs H Q=>∃x tp,∃ns:List String,∃t b,xs= [x,.ref tp]/\h_z X.K H x (.type t)/\(t="int"\/t="str"\/t="list"\/t="tuple")/\H tp=some (.tup (ns.map V.ty))/\PySem.W.kitAny X.K (.type t) (ns.map Value.type)=some b/\Q (.bl b) H):=by
 intro pins s σ H xs us Q I rv h
 obtain⟨x,tp,ns,t,b,rfl,ty,ht,hH,e,q⟩:=h
 obtain⟨u,v,rfl,ru,rc⟩:=rv.two
 cases rc
 obtain⟨z2,its2,r2,⟨cls2,dd2,data2,sl2⟩,ho2,hc2,n2,hd2⟩:=I.hok tp _ hH
 simp only at hc2 hd2
 subst hc2 hd2
 have e2:its2=ns.map Value.type:=by
  clear ho2 e hH z2
  induction ns generalizing its2 with
  | nil=>cases r2;rfl
  | cons n r ih=>
    cases r2 with
    | cons h t=>rw[r_r,<-ih _ t];cases h;rfl
 subst e2
 cases ty with
 | non=>rcases ht with h | h | h | h <;> exact absurd h (by decide)
 | bl y=>rcases ht with h | h | h | h <;> exact absurd h (by decide)
 | flt y=>rcases ht with h | h | h | h <;> exact absurd h (by decide)
 | dK ea=>rcases ht with h | h | h | h <;> exact absurd h (by decide)
 | dT ea=>rcases ht with h | h | h | h <;> exact absurd h (by decide)
 | int i=>obtain⟨t,z⟩:=(show ∃t,u=Value.int i t from ru);cases z;exact PySem.W.kia_tup PySem.W.kitx_int I.kIn True.intro ho2 e (λz=>nomatch z) λtk=>⟨.bl b,H,I.tok tk,rfl,q⟩
 | str y=>obtain⟨t,z⟩:=(show ∃t,u=Value.str y t from ru);cases z;exact PySem.W.kia_tup PySem.W.kitx_str I.kIn True.intro ho2 e (λz=>nomatch z) λtk=>⟨.bl b,H,I.tok tk,rfl,q⟩
 | @lst a xs ea=>
   cases (show u=Value.ref a from ru)
   obtain⟨_,_,n,_,h1⟩:=(show ObjOk X.prog X.w H s.heap a (.lst xs) from I.hok a _ ea)
   exact PySem.W.kia_tup PySem.W.kitx_list I.kIn ⟨_,h1,rfl⟩ ho2 e (λz=>nomatch z) λtk=>⟨.bl b,H,I.tok tk,rfl,q⟩
 | @frz a ob xs ea=>
   cases (show u=Value.ref a from ru)
   obtain⟨_,_,_,n,_,h1⟩:=(show ObjOk X.prog X.w H s.heap a (.frz ob (.lst xs)) from I.hok a _ ea)
   exact PySem.W.kia_tup PySem.W.kitx_list I.kIn ⟨_,h1,rfl⟩ ho2 e (λz=>nomatch z) λtk=>⟨.bl b,H,I.tok tk,rfl,q⟩
 | @tup a xs ea=>
   cases (show u=Value.ref a from ru)
   obtain⟨_,_,_,p⟩:=(show ObjOk X.prog X.w H s.heap a (.tup xs) from I.hok a _ ea)
   obtain⟨o,h1,h2,_⟩:=p
   exact PySem.W.kia_tup PySem.W.kitx_tuple I.kIn ⟨o,h1,h2⟩ ho2 e (λz=>nomatch z) λtk=>⟨.bl b,H,I.tok tk,rfl,q⟩
end
section
variable {prog:Program} {w:World} {A:Around} {E:Value->Shared->Prop} {s:Shared}
theorem i_t {a:Addr} {vs:List Value} {n:Nat} {P:PySem.Fin->Shared->Prop} (ho:s.heap.get? a=some (seqObj "list" vs.toArray n)) (h2:vs.length < 2)
 (h:P (.done (.ret .none)) { s with heap:=sortedHeap s.heap a vs vs.toArray }):wpAny (model prog w) A (Builtin.«list.sort» ⟨[.ref a], []⟩) P E s:=by
 rw[list_sort_plain]
 have ha:a < s.heap.objs.size:=Heap.lt_size ho
 refine wpAny_bind (listItems_at ho rfl ?_)
 refine wpAny_bind (listUpdate_at ho rfl ?_)
 obtain⟨e1,ho1⟩:∃e1,(s.heap.update a (Obj.mapSeq λ_=> #[])).get? a=some (seqObj "list" #[] e1):=⟨_,get?_update_seq ho (λ_=> #[])⟩
 refine wpAny_bind (seqEpoch_at ho1 rfl ?_)
 refine wpAny_bind (wpAny_newTuple ?_)
 refine wpAny_bind (wpAny_newList ?_)
 refine wpAny_holding ?_
 have ho6:(((s.heap.update a (Obj.mapSeq λ_=> #[])).push (seqObj "tuple" vs.toArray 0)).push (seqObj "list" #[] 0)).get? a=some (seqObj "list" #[] e1):=by
  rw[Heap.get?_push_ne _ _ _ (by rw[size_push',Heap.size_update];exact r_A (Nat.lt_succ_of_lt ha)),Heap.get?_push_ne _ _ _ (by rw[Heap.size_update];exact r_A ha)]
  exact ho1
 show wpAny (model prog w) A _ P E { s with heap:=((s.heap.update a (Obj.mapSeq λ_=> #[])).push (seqObj "tuple" vs.toArray 0)).push (seqObj "list" #[] 0) }
 dsimp only
 have h2':vs.toArray.size < 2:=by simpa using h2
 rw[if_pos h2',if_pos h2']
 refine wpAny_bind (wpAny_pure ?_)
 rw[StateT.run_pure]
 refine wpAny_bind (wpAny_pure ?_)
 dsimp only
 refine wpAny_bind (seqEpoch_at ho6 rfl ?_)
 refine wpAny_bind (listUpdate_at ho6 rfl ?_ (hsz2:=by rw[Array.size_map];show (pairsOf vs).size<=_;rw[pairsOf_size,sizeLine_eq];omega))
 simp only[bne_self_eq_false,Bool.false_eq_true,if_false]
 have e3:(arrOf (SortSt.mk' general' (vs.toArray.zip vs.toArray) #[] 7 none)).map (·.2)=vs.toArray:=by
  show (vs.toArray.zip vs.toArray).map (·.2)=vs.toArray
  simp[List.map_snd_zip]
 refine wpAny_pure ?_
 have:=h
 rw[<-e3] at this
 exact this
theorem f_M {l:Addr} {vs:List Value} {Q:Value->Shared->Prop} (hl:s.heap.IsList l vs.toArray) (h2:vs.length < 2)
 (h:Q (.ref (s.heap.objs.size+1)) { s with heap:=sortedAll s.heap vs vs.toArray }):wpAny (model prog w) A (call (.builtin "sorted") [.ref l]) Q E s:=by
 refine Calls.call_function_entry kind_sorted plain_sorted entry_sorted (args_sorted1 _) ?_
 unfold Builtin.«sorted»
 refine wpAny_bind (m:=checkCount "sorted" 1 1 _) (wpAny_pure ?_)
 refine wpAny_bind (collect_list hl ?_)
 refine wpAny_bind (wpAny_newList ?_)
 have hsz:((s.heap.push (seqObj "list" #[] 0)).update s.heap.objs.size (Obj.mapSeq (·++vs.toArray))).objs.size=s.heap.objs.size+1:=by
  rw[Heap.size_update,size_push']
 have hoL:(((s.heap.push (seqObj "list" #[] 0)).update s.heap.objs.size (Obj.mapSeq (·++vs.toArray))).push (seqObj "list" vs.toArray 0)).get? (s.heap.objs.size+1)=some (seqObj "list" vs.toArray 0):=by
  rw[<-hsz];exact Heap.get?_push_size _ rfl
 show wpAny _ _ _ _ _ { s with heap:=((s.heap.push (seqObj "list" #[] 0)).update s.heap.objs.size (Obj.mapSeq (·++vs.toArray))).push (seqObj "list" vs.toArray 0) }
 rw[hsz]
 refine wpAny_bind (wpAny_holding (wpAny_call_entry slot_list_sort ⟨_,hoL,rfl⟩ entry_list_sort (i_t hoL h2 ⟨_,rfl,?_⟩) (args_list_sort _)))
 exact wpAny_pure ⟨_,rfl,h⟩
end
section
variable {prog:Program} {w:World} {A:Around} {E:Value->Shared->Prop} {s:Shared} {Q:Bool->Shared->Prop}
theorem f_i {b:Bool}:∀{xs ys:List V} {vs ws:List Value} (i:Nat),Vals xs vs->Vals ys ws->e_h xs ys->xs.length=ys.length->Q (b_b xs ys) s->PySem.W.KatLex prog w A b false Q (vs.zip ws) i s
 | [], [],_,_,i,.nil,.nil,_,_,q=>q
 | x::xs,y::ys,_,_,i,.cons (b:=u) rx tx,.cons (b:=v) ry ty,ha,hl,q=>by
   rw[List.zip_cons_cons]
   refine PySem.W.kat_cons (d_p rx ry ha.1 prog w _ _ ?_)
   rw[b_h] at q
   by_cases e:x=y
   ·rw[if_pos e] at q
    rw[r_S e]
    exact PySem.W.kat_yes (f_i (i+1) tx ty ha.2 (by simpa using hl) q)
   ·rw[if_neg e] at q
    rw[r_T e]
    refine PySem.W.kat_no ?_
    cases b&&i == 0 with
    | false=>exact PySem.W.kat_one _ _ (h_M rx ry ha.1 q)
    | true=>
      have h:=ha.1
      cases x with
      | int a=>
        cases y with
        | int c=>obtain⟨t,rfl⟩:=rx;obtain⟨t',rfl⟩:=ry;exact oneLt_int q
        | _=>cases h
      | str a=>
        cases y with
        | str c=>obtain⟨t,rfl⟩:=rx;obtain⟨t',rfl⟩:=ry;exact oneLt_str q
        | _=>cases h
      | _=>cases y <;> cases h
end
section
variable {X:Cx} {pins:List (Addr×Obj)} {σ:L2.St} {H:Hp} {s:Shared}
theorem Inv.led_none {D:Addr} (I:Inv X pins σ H s) (hn:s.heap.get? D=none):H D=none:=by
 cases q:H D with
 | none=>rfl
 | some u=>
   have h1:=(I.hok D u q)
   exfalso
   obtain⟨o,ho⟩:∃o,s.heap.get? D=some o:=by
    cases u with
    | lst xs=>obtain⟨_,_,_,_,e⟩:=h1;exact⟨_,e⟩
    | tup xs=>obtain⟨_,_,_,o,e,_⟩:=h1;exact⟨o,e⟩
    | dK kvs=>obtain⟨_,_,_,_,o,_,_,e,_⟩:=h1;exact⟨_,e⟩
    | dT kvs=>obtain⟨_,_,_,_,o,_,_,e,_⟩:=h1;exact⟨_,e⟩
    | set S n=>obtain⟨o,_,_,_,e,_⟩:=h1;exact⟨_,e⟩
    | ins C dx fs=>obtain⟨_,_,_,e,_⟩:=h1;exact⟨_,e⟩
    | own y=>exact h1
    | xd fs=>obtain⟨_,⟨_,_,_,e,_⟩,_⟩:=h1;exact⟨_,e⟩
    | rng lo hi=>obtain⟨_,_,_,e⟩:=h1;exact⟨_,e⟩
    | frz ob u=>obtain⟨e,_⟩:=h1;exact⟨_,e⟩
    | tbl ps=>exact⟨_,h1⟩
    | met f y=>exact⟨_,h1⟩
    | ext φ=>exact h1.2.1
   rw[hn] at ho;cases ho
theorem Inv.led {h':Heap} {m:Str->Option Value} {D:Addr} {c:Nat} {ys:List V} {its:List Value} {t':Nat} (I:Inv X pins σ H s) (hm:s.heap.Ns X.env.locals m) (F:Fr X.base X.env.locals h' m) (N:News X.base X.env.locals h' (d_3 X.base s.heap X.env.locals))
 (hD:h'.get? D=some { cls:= .type "list",data:= .seq its.toArray c }) (hn:s.heap.get? D=none) (hv:Vals ys its) (hz:ys.length<=sizeLine):Inv X pins σ (upd H D (.lst ys)) { s with heap:=h',toks:=t' }:=by
 have keep:∀b o,b≠X.env.locals->s.heap.get? b=some o->h'.get? b=some o:=λb o h1 e=>by
  cases q:X.base.get? b with
  | some u=>
    have:=I.bk b u q
    rw[e] at this;cases this
    exact F.keep b _ q
  | none=>exact (N (b,o) (c_U h1 q e)).1
 have ne:∀b o,s.heap.get? b=some o->b≠D:=λb o e z=>by rw[z,hn] at e;cases e
 have HD:H D=none:=I.led_none hn
 have trk:∀b u,H b=some u->b≠X.env.locals:=λb u e z=>by rw[z,I.free] at e;cases e
 refine I.step (g':=s.gens) (d':=s.drawn) (ch:= []) (λ_ z=>nomatch z) (λb o h1 _ _ e _=>keep b o h1 e) (λb o h1 _ _ e _=>⟨o.slots,keep b o h1 e⟩) (λb o _ e n=>by rw[a_i (ne b o e)];exact n) (λb o _ e=> ?_)
  (λb xs e=>by rw[a_i (a_h e HD)];exact e) (λb o u e=>by rw[a_i (a_h e HD)];exact e) (λb ps e=>⟨#[],by rw[a_i (a_h e HD),e];simp⟩) (λm' hm'=> ?_) (λb u e=> ?_) I.bare
 ·by_cases hb:b=X.env.locals
  ·obtain⟨o',_,_,e',_⟩:=F.ns
   exact⟨o',by rw[hb];exact e'⟩
  ·exact⟨o,keep b o hb e⟩
 ·rw[hm'.eq_nsMap,<-hm.eq_nsMap]
  exact F.ns
 ·by_cases hb:b=D
  ·subst hb
   rw[a_b] at e
   cases e
   exact⟨hz,its,c,hv,hD⟩
  ·rw[a_i hb] at e
   refine (I.hok b u e).stay (λd v hd q=>keep d v ?_ q) (λd q=>by rw[a_i (a_h q HD)];exact q) λd xs q=>by rw[a_i (a_h q HD)];exact q
   rcases hd with z | z
   ·rw[z];exact trk b u e
   ·exact trk d _ z
end
end L2
namespace TO
open PySem PySem.Spec PyProof.Rows L2
abbrev c_f (H:Hp):List Addr->List (List V)->Prop:=Paired λa k=>H a=some (.tup k)
def n_N (K:PySem.W.Frag):List V->Hp->VK->Prop:=λxs H Q=>∃(p:Addr) (as:List Addr) (ks:List (List V)),xs= [.ref p]/\SqL K H p (as.map .ref)/\c_f H as ks/\as.length < 64/\(∀k∈ks,∃x r,k=x::r)/\
 (∀k∈ks,∀k'∈ks,e_h k k'/\k.length=k'.length)/\SO as.length (λi j=>b_b (ks.getD i []) (ks.getD j []))/\
 ∀(l:Addr) (is:List Nat),H l=none->is.Perm (List.range as.length)->(∀a b,a < b->b < as.length->b_b (ks.getD (is.getD a 0) []) (ks.getD (is.getD b 0) [])=true)->Q (.ref l) (upd H l (.lst (is.map λi=>V.ref (as.getD i 0))))
theorem c_G {H:Hp}:∀{as:List Addr} {ks:List (List V)} {i:Nat},c_f H as ks->i < as.length->H (as.getD i 0)=some (.tup (ks.getD i []))/\ks.getD i []∈ks
 | _,_,0,.cons h _,_=>⟨h,by simp⟩
 | _::as,_::ks,i+1,.cons _ t,hi=>by
   have:=c_G (i:=i) t (by simpa using hi)
   simp only[List.getD_cons_succ]
   exact⟨this.1,r_f _ this.2⟩
section
variable {X:Cx}
theorem c_C {as:List Addr} {i:Nat} (h:i < as.length):(as.map Value.ref).getD i Value.none= .ref (as.getD i 0):=by
 rw[r_v,r_v,r_o,r_d h]
 rfl
theorem g_L:∀{as:List Addr},as.length < 2->(List.range as.length).map (λi=>V.ref (as.getD i 0))=as.map V.ref
 | [],_=>rfl
 | [a],_=>rfl
 | _::_::_,h=>by simp only[r_i] at h;omega
theorem g_R:d_a X (.builtin "sorted") (n_N X.K):=by
 intro pins s σ H xs us Q I rv h
 obtain⟨p,as,ks,rfl,hp,hT,h64,hne,hal,hO,q⟩:=h
 obtain⟨u,rfl,ru⟩:=rv.one
 cases ru
 obtain⟨its,r,pl,_⟩:=I.list hp
 have e1:=b_A r
 subst e1
 have hlk:as.length=ks.length:=Paired.length hT
 by_cases h2:as.length < 2
 ·refine f_M pl.isList (by simpa using h2) ?_
  have old:∀b o,s.heap.get? b=some o->(sortedAll s.heap (as.map Value.ref) (as.map Value.ref).toArray).get? b=some o:=λb o e=>sortedAll_old e
  obtain⟨e,he⟩:=sortedAll_at s.heap (as.map Value.ref) (as.map Value.ref).toArray
  have hn:s.heap.objs.size<=s.heap.objs.size+1:=Nat.le_succ _
  have I':Inv X pins σ (upd H (s.heap.objs.size+1) (.lst (as.map V.ref))) { s with heap:=sortedAll s.heap (as.map Value.ref) (as.map Value.ref).toArray }:=
   I.laid (t':=s.toks) old hn ⟨by rw[r_c];exact Nat.le_of_lt (a_G (by omega)),as.map Value.ref,e,c_E as,he⟩
  refine⟨.ref _,_,I',rfl,?_⟩
  have:=q (s.heap.objs.size+1) (List.range as.length) (I.hok.fresh hn) (List.Perm.refl _) (λa b h1 h3=>by omega)
  have e5:(List.range as.length).map (λi=>V.ref (as.getD i 0))=as.map V.ref:=g_L h2
  rw[e5] at this
  exact this
 ·obtain⟨m,F⟩:=I.fr
  have hm:s.heap.Ns X.env.locals m:=F.ns
  refine PySem.W.kat_sorted (A:=X.A) F (l_c (g:=X.base) (h:=s.heap) (L:=X.env.locals)) pl.isList (by simp;omega) (by simpa using h64) λD e1 h' F' N' hD=> ?_
  have hDn:s.heap.get? D=none:=by
   cases e:s.heap.get? D with
   | none=>rfl
   | some o=>
     have z:=N' (D,_) (r_g ..)
     exact absurd (hD (D,o) (c_U z.2.1 z.2.2 e)) (Nat.lt_irrefl _)
  -- the tuples stand in h' too
  have tup':∀a k,H a=some (.tup k)->∃its:List Value,Vals k its/\∃o n,h'.get? a=some o/\o.cls= .type "tuple"/\o.data= .seq its.toArray n:=λa k ha=>by
   obtain⟨_,its,rk,o,ho,hc,n,hd⟩:=I.hok a _ ha
   refine⟨its,rk,o,n,?_, hc,hd⟩
   have hL:a≠X.env.locals:=λz=>by rw[z,I.free] at ha;cases ha
   have hb:X.base.get? a=none:=by
    cases e:X.base.get? a with
    | none=>rfl
    | some v=>have:=(I.bs a v e).2;rw[ha] at this;cases this
   exact (N' (a,o) (r_f _ (c_U hL hb ho))).1
  have h0:0 < as.length:=by omega
  -- the kind of the first items
  have first:∃T:String,∃fs:List Value,PySem.W.KatTups h' (as.map Value.ref) fs/\fs.length=as.length/\(T="int"\/T="str")/\∀v∈fs,(∃i t,v= .int i t/\T="int")\/∃x t,v= .str x t/\T="str":=by
   obtain⟨k0,hk0⟩:∃k0,k0∈ks:=by
    cases ks with
    | nil=>rw[r_M] at hlk;omega
    | cons k r=>exact⟨k,r_g ..⟩
   obtain⟨x0,r0,e0⟩:=hne k0 hk0
   have key:∀k∈ks,∃x r,k=x::r/\b_g x x0=true:=λk hk=>by
    obtain⟨x,r,rfl⟩:=hne k hk
    have:=(hal _ hk _ hk0).1
    rw[e0] at this
    exact⟨x,r,rfl,this.1⟩
   have x0k:(∃i,x0= .int i)\/∃y,x0= .str y:=by
    have:=(hal _ hk0 _ hk0).1
    rw[e0] at this
    have z:=this.1
    cases x0 <;> first | exact .inl ⟨_,rfl⟩ | exact .inr ⟨_,rfl⟩ | cases z
   obtain⟨T,hTx⟩:∃T:String,((∃i,x0=V.int i)/\T="int")\/((∃y,x0=V.str y)/\T="str"):=by
    rcases x0k with c | c
    ·exact⟨"int",.inl ⟨c,rfl⟩⟩
    ·exact⟨"str",.inr ⟨c,rfl⟩⟩
   refine⟨T,?_⟩
   have go:∀{as':List Addr} {ks':List (List V)},c_f H as' ks'->(∀k∈ks',∃x r,k=x::r/\b_g x x0=true)->∃fs:List Value,PySem.W.KatTups h' (as'.map Value.ref) fs/\fs.length=as'.length/\
    ∀v∈fs,(∃i t,v=Value.int i t/\∃j,x0= .int j)\/∃y t,v=Value.str y t/\∃j,x0= .str j:=by
    intro as' ks' ht hk
    induction ht with
    | nil=>exact⟨[],trivial,rfl,λv hv=>by cases hv⟩
    | cons ha _ ih=>
      obtain⟨fs,h1,h2,h3⟩:=ih λk hk'=>hk k (r_f _ hk')
      obtain⟨x,r,rfl,hx⟩:=hk _ (r_g ..)
      obtain⟨its,rk,o,n,ho,hc,hd⟩:=tup' _ _ ha
      cases rk with
      | @cons _ v _ its' rx rt=>
        refine⟨v::fs,PySem.W.KatTups.cons ho hc hd (by simp) h1,by simp[h2],λu hu=> ?_⟩
        rcases r_n.mp hu with e | e
        ·subst e
         cases x with
         | int i=>obtain⟨t,rfl⟩:=rx;cases x0 <;> first | exact .inl ⟨i,t,rfl,_,rfl⟩ | cases hx
         | str y=>obtain⟨t,rfl⟩:=rx;cases x0 <;> first | exact .inr ⟨y,t,rfl,_,rfl⟩ | cases hx
         | _=>cases x0 <;> cases hx
        ·exact h3 u e
   obtain⟨fs,h1,h2,h3⟩:=go hT key
   refine⟨fs,h1,h2,?_, λv hv=> ?_⟩
   ·rcases hTx with c | c
    ·exact .inl c.2
    ·exact .inr c.2
   ·rcases h3 v hv with⟨i,t,e,j,c⟩ | ⟨y,t,e,j,c⟩
    ·refine .inl ⟨i,t,e,?_⟩
     rcases hTx with⟨_,z⟩ | ⟨⟨y,z⟩,_⟩
     ·exact z
     ·rw[c] at z;cases z
    ·refine .inr ⟨y,t,e,?_⟩
     rcases hTx with⟨⟨y,z⟩,_⟩ | ⟨_,z⟩
     ·rw[c] at z;cases z
     ·exact z
  obtain⟨T,fs,hk1,hk2,hTT,hk3⟩:=first
  refine PySem.W.kat_kind (T:= .type T) hk1 (by omega) (λv hv=> ?_) (by simp) ?_
  ·rcases hk3 v hv with⟨i,t,rfl,e⟩ | ⟨y,t,rfl,e⟩
   ·rw[e];exact PySem.W.Looks.of_pure rfl
   ·rw[e];exact PySem.W.Looks.of_pure rfl
  have hTb:(Value.type T != Value.type "tuple")=true:=by rcases hTT with e | e <;> rw[e] <;> rfl
  rw[hTb,r_c]
  refine k_f (n:=as.length) hO (λi j Cc hi hj hC=> ?_) (by omega) λpp R U=> ?_
  ·show wpAny _ _ (keyLt' (tuples' true) ((as.map Value.ref).getD i Value.none) ((as.map Value.ref).getD j Value.none)) _ _ _
   rw[c_C hi,c_C hj]
   obtain⟨gi,mi⟩:=c_G hT hi
   obtain⟨gj,mj⟩:=c_G hT hj
   obtain⟨vi,ri,oi,ni,hoi,_,hdi⟩:=tup' _ _ gi
   obtain⟨vj,rj,oj,nj,hoj,_,hdj⟩:=tup' _ _ gj
   have hl2:=(hal _ mi _ mj).2
   have li:=ri.length
   have lj:=rj.length
   refine PySem.W.kat_lt hoi hdi hoj hdj ?_
   have:decide (vi.toArray.size < vj.toArray.size)=false:=r_T (by rw[r_m,r_m];omega)
   rw[this]
   exact f_i 0 (by simpa using ri) (by simpa using rj) (hal _ mi _ mj).1 hl2 hC
  ·refine PySem.W.KasFin.intro F' N' (PySem.W.UpdF.head λq hq=>r_A (hD q hq)) λh'' c F'' N''=> ?_
   have hsz:=R.size
   have hD'':=(N'' (D,_) (r_g ..)).1
   have eout:(pp.toList.map λi=>(as.map Value.ref).getD i Value.none)=(pp.toList.map λi=>Value.ref (as.getD i 0)):=by
    apply List.map_congr_left
    intro i hi
    have:i∈pp:=by simpa using hi
    have:=R.perm.mem_iff.mp this
    exact c_C (by simpa using this)
   rw[eout] at hD''
   have I':=I.led (t':=s.toks) (D:=D) (c:=c) (ys:=(pp.toList.map λi=>V.ref (as.getD i 0))) (its:=pp.toList.map λi=>Value.ref (as.getD i 0)) hm F'' (λq hq=>N'' q (r_f _ hq)) hD'' hDn ?_ ?_
   ·refine⟨.ref D,_,I',rfl,q D pp.toList ?_ ?_ ?_⟩
    ·exact I.led_none hDn
    ·have:=Array.perm_iff_toList_perm.mp R.perm
     simpa using this
    ·intro a b h1 h3
     have:=U a b h1 h3
     rw[c_1,c_1] at this
     simpa[r_v] using this
   ·have:=c_E (pp.toList.map λi=>as.getD i 0)
    rw[List.map_map,List.map_map] at this
    exact this
   ·rw[r_c]
    have:pp.toList.length=as.length:=by simpa using hsz
    exact Nat.le_of_lt (a_G (by omega))
end
end TO
namespace TO
open PySem L2
inductive D where
 | int (i:Int)
 | str (x:Str)
 | lst (ds:List D)
 | tup (ds:List D)
mutual
inductive Bears (H:Hp):D->V->Prop
 | int (i:Int):Bears H (.int i) (.int i)
 | str (x:Str):Bears H (.str x) (.str x)
 | lst {a:Addr} {ds:List D} {vs:List V}:H a=some (.lst vs)->BearsL H ds vs->Bears H (.lst ds) (.ref a)
 | tup {a:Addr} {ds:List D} {vs:List V}:H a=some (.tup vs)->BearsL H ds vs->Bears H (.tup ds) (.ref a)
inductive BearsL (H:Hp):List D->List V->Prop
 | nil:BearsL H [] []
 | cons {d:D} {v:V} {ds:List D} {vs:List V}:Bears H d v->BearsL H ds vs->BearsL H (d::ds) (v::vs)
end
mutual
def D.wt:D->Nat
 | .int _=>1
 | .str _=>1
 | .lst ds=>1+D.wts ds
 | .tup ds=>1+D.wts ds
def D.wts:List D->Nat
 | []=>0
 | d::r=>D.wt d+D.wts r
end
theorem D.wt_pos:∀d:D,1<=d.wt
 | .int _=>r_l _
 | .str _=>r_l _
 | .lst ds=>by simp only[D.wt];omega
 | .tup ds=>by simp only[D.wt];omega
theorem D.wts_app:∀a b:List D,D.wts (a++b)=D.wts a+D.wts b
 | [],b=>by simp[D.wts]
 | d::r,b=>by simp only[List.cons_append,D.wts,D.wts_app r b];omega
theorem D.wts_len:∀a:List D,a.length<=D.wts a
 | []=>r_E _
 | d::r=>by
   have h1:=D.wt_pos d
   have h2:=D.wts_len r
   simp only[r_i,D.wts]
   omega
theorem BearsL.len {H:Hp}:∀{ds:List D} {vs:List V},BearsL H ds vs->ds.length=vs.length
 | _,_,.nil=>rfl
 | _,_,.cons _ t=>by simp[BearsL.len t]
theorem BearsL.app {H:Hp}:∀{ds es:List D} {vs us:List V},BearsL H ds vs->BearsL H es us->BearsL H (ds++es) (vs++us)
 | _,_,_,_,.nil,h=>h
 | _,_,_,_,.cons a t,h=> .cons a (BearsL.app t h)
theorem BearsL.snoc {H:Hp}:∀{ds:List D} {d:D} {vs:List V},BearsL H (ds++ [d]) vs->∃us v,vs=us++ [v]/\BearsL H ds us/\Bears H d v
 | [],d,_,.cons h .nil=>⟨[],_,rfl,.nil,h⟩
 | e::ds,d,_,.cons h t=>by
   obtain⟨us,v,rfl,h1,h2⟩:=BearsL.snoc (ds:=ds) t
   exact⟨_::us,v,rfl,.cons h h1,h2⟩
def i_n (ρ:Row):D:= .tup [.int ρ.n,.int ρ.r,.str ρ.t]
theorem RowAt.bears {H:Hp} {a:Addr} {ρ:Row} (h:RowAt H a ρ):Bears H (i_n ρ) (.ref a):= .tup h (.cons (.int _) (.cons (.int _) (.cons (.str _) .nil)))
theorem RowsAt.bears {H:Hp}:∀{as:List Addr} {ρs:List Row},RowsAt H as ρs->BearsL H (ρs.map i_n) (as.map .ref)
 | _,_,.nil=> .nil
 | _,_,.cons h t=> .cons (RowAt.bears h) (RowsAt.bears t)
theorem LstAt.bears {H:Hp} {l:Addr} {ρs:List Row} (h:LstAt H l ρs):Bears H (.lst (ρs.map i_n)) (.ref l):=by
 obtain⟨as,h1,h2⟩:=h
 exact .lst h1 (RowsAt.bears h2)
theorem i_1:∀ρs:List Row,D.wts (ρs.map i_n)=4 * ρs.length
 | []=>rfl
 | ρ::r=>by simp only[r_r,D.wts,i_1 r,i_n,D.wt,r_i];omega
end TO
namespace K1
open PySem L2 TO
structure Bt (mg:Str->Option Value):Prop where
 len:mg "len"=none
 min:mg "min"=none
 isi:mg "isinstance"=none
 int:mg "int"=none
 bool:mg "bool"=none
 list:mg "list"=none
 tuple:mg "tuple"=none
 str:mg "str"=none
 sorted:mg "sorted"=none
 range:mg "range"=none
theorem c_z {X:Cx} {x:Str} {n:String} {pos:Pos} (hm:X.mg x=none) (hv:bootBuiltins x=some (.type n)) (hg:Gl X x:=by rfl) (hn:x≠"__name__":=by decide) (hd:(x == ("__debug__":Str))=false:=by decide):PE X (.Name x pos) (tC (.ty n)):=m_L hg hm hv rfl hn hd
theorem f_m:bootBuiltins "int"=some (.type "int"):=by decide+kernel
theorem o_v:bootBuiltins "bool"=some (.type "bool"):=by decide+kernel
theorem d_A:bootBuiltins "list"=some (.type "list"):=by decide+kernel
theorem g_0:bootBuiltins "tuple"=some (.type "tuple"):=by decide+kernel
theorem p_c:bootBuiltins "str"=some (.type "str"):=by decide+kernel
theorem e_C:bootBuiltins "isinstance"=some (.builtin "isinstance"):=by decide+kernel
section
variable {P:Program} {w:World} {K:PySem.W.Frag} {mg:Str->Option Value} {base:Heap}
def j_3:Sp:=λvs H Q _=>∃i,vs= [.int i]/\Q (.bl true) H
theorem n_R:a_s ["_law_found"] ["_law_found"] (a_m j_r):=⟨rfl,rfl,rfl,by decide+kernel,rfl,by decide+kernel,by decide+kernel⟩
theorem k_T {f:Addr} {fd:FuncData} (F:Fun K "_law_whole" "_law_whole" j_r f fd) (B:Bt mg):FnOk P w K mg base CX0 1 f fd ["_law_found"] j_3:=by
 refine F.ok n_R (λvs H Q E h=> ?_) (λcdv A outer s H vs Q E hr h=> ?_)
 ·obtain⟨i,rfl,_⟩:=h
  rfl
 ·obtain⟨i,rfl,k⟩:=h
  refine⟨_,a_g (a_n (j_u (a_y b_E (by rfl) B.isi e_C (a_a (pv 0) (a_a (c_z B.int f_m) a_d))) (i_P (o_1 (a_y b_E (by rfl) B.isi e_C (a_a (pv 0) (a_a (c_z B.bool o_v) a_d))))))),?_⟩
  refine⟨_,rfl,_,_,_,_,rfl,.int i,rfl,_,rfl,?_⟩
  exact⟨_,rfl,_,_,_,_,rfl,.int i,rfl,_,rfl,k⟩
theorem q_H:a_s ["_law_script","_law_k"] ["_law_script","_law_k"] (a_m sAt):=⟨rfl,rfl,rfl,by decide+kernel,rfl,by decide+kernel,by decide+kernel⟩
theorem i_D {α:Type} (us:List α) (v:α):(us++ [v])[(us++ [v]).length - 1]? =some v:=by simp
def l_8:Sp:=λvs H Q _=>∃(t:D) (f d:V),vs= [f,d]/\Bears H t f/\Bears H t d/\t.wt < 100000/\∀H',Same H H'->Q (.bl true) H'
theorem g_e:a_s ["_law_found","_law_due","_law_left","_law_right","_law_one","_law_two"] ["_law_found","_law_due"] (a_m n_L):=⟨rfl,rfl,rfl,by decide+kernel,rfl,by decide+kernel,by decide+kernel⟩
theorem m_U {f fW:Addr} {fd fdW:FuncData} (F:Fun K "_law_same" "_law_same" n_L f fd) (B:Bt mg) (gW:Gf K mg "_law_whole" fW fdW ["_law_found"]) (GW:FnOk P w K mg base CX0 1 fW fdW ["_law_found"] j_3):
 FnOk P w K mg base CX0 2 f fd ["_law_found","_law_due"] l_8:=by
 refine F.ok g_e (λvs H Q E h=> ?_) (λcdv A outer s H vs Q E hr h=> ?_)
 ·obtain⟨t,f,d,rfl,_⟩:=h
  rfl
 ·obtain⟨t,x,y,rfl,hx,hy,hw,fin⟩:=h
  refine⟨_,a_c (a_w (i:=2) g_e.nd rfl (Or.inl rfl) (a_U (a_a (pv 0) a_d)))
   (a_c (a_w (i:=3) g_e.nd rfl (Or.inl rfl) (a_U (a_a (pv 1) a_d)))
   (a_c (d_g PassesOwn.never (a_k (l_p hr.units0) (pv 3) (a_U a_d) (a_o _))
     (a_c (a_w (i:=4) g_e.nd rfl (Or.inl rfl) (e_p r_W PySem.F.slot_list_pop PySem.F.type_list_pop f_S (pv 2)))
     (a_c (a_w (i:=5) g_e.nd rfl (Or.inl rfl) (e_p r_W PySem.F.slot_list_pop PySem.F.type_list_pop f_S (pv 3)))
     (a_g (a_C (c_M (a_y j_7 (by rfl) B.isi e_C (a_a (pv 5) (a_a (a_J (a_a (c_z B.list d_A) (a_a (c_z B.tuple g_0) a_d))) a_d))))
       (a_c (a_C (a_k d_D (a_y b_E (by rfl) B.isi e_C (a_a (pv 4) (a_a (c_z B.list d_A) a_d))) (a_y b_E (by rfl) B.isi e_C (a_a (pv 5) (a_a (c_z B.list d_A) a_d))) (a_o _)) (a_g (a_n g_H)) a_q)
       (a_c (a_C (PW.pt (e_c (a_k d_D (a_y b_E (by rfl) B.isi e_C (a_a (pv 4) (a_a (c_z B.tuple g_0) a_d))) (a_y b_E (by rfl) B.isi e_C (a_a (pv 5) (a_a (c_z B.tuple g_0) a_d))) (a_o _))
         (c_y (a_k d_D (a_y a_v (by rfl) B.len r_V (a_a (pv 4) a_d)) (a_y a_v (by rfl) B.len r_V (a_a (pv 5) a_d)) (a_o _))))) (a_g (a_n g_H)) a_q)
       (a_c (a_z (b_C r_W PySem.F.slot_list_extend PySem.F.type_list_extend (MtR.or d_b e_2) (pv 2) (a_a (pv 4) a_d)))
       (a_g (a_z (b_C r_W PySem.F.slot_list_extend PySem.F.type_list_extend (MtR.or d_b e_2) (pv 3) (a_a (pv 5) a_d)))))))
       (a_g (a_C (c_M (a_y b_E (by rfl) B.isi e_C (a_a (pv 5) (a_a (c_z B.str p_c) a_d))))
         (a_g (a_C (PW.pt (e_c (g_d (c_M (a_y b_E (by rfl) B.isi e_C (a_a (pv 4) (a_a (c_z B.str p_c) a_d))))) (c_y (a_k d_D (pv 4) (pv 5) (a_o _))))) (a_g (a_n g_H)) a_q))
         (a_g (a_C (PW.pt (e_c (g_d (c_M (a_j GW hr rfl gW.mg gW.kp gW.b .nil a_u (a_a (pv 4) a_d)))) (c_y (a_k d_D (pv 4) (pv 5) (a_o _))))) (a_g (a_n g_H)) a_q)))))))))
   (a_g (a_n g_H)))),?_⟩
  refine⟨_,rfl,by show 1<=sizeLine;decide,λl hl=> ?_⟩
  refine⟨_,rfl,by show 1<=sizeLine;decide,λr hr'=> ?_⟩
  have hlr:l≠r:=a_h a_b hr'
  have hr0:H r=none:=by rw[a_i hlr.symm] at hr';exact hr'
  refine⟨λm σ H2=>∃(ts:List D) (ls rs:List V) (v1 v2:Option V),σ= [some x,some y,some (.ref l),some (.ref r),v1,v2]/\Same H H2/\H2 l=some (.lst ls)/\H2 r=some (.lst rs)/\BearsL H ts ls/\BearsL H ts rs/\m=D.wts ts/\D.wts ts < 100000,
   ⟨_, [t], [x], [y],none,none,rfl,(Same.upd_new hl).trans (Same.upd_new hr'),by rw[a_i hlr];exact a_b,a_b,.cons hx .nil,.cons hy .nil,rfl,by simp only[D.wts];omega⟩,?_⟩
  rintro m σ H2 ⟨ts,ls,rs,v1,v2,rfl,s2,hl2,hr2,b1,b2,rfl,hwt⟩
  refine⟨_,rfl,by show 0<=sizeLine;decide,λn hn=> ?_⟩
  have s3:Same H2 (upd H2 n (.lst [])):=Same.upd_new hn
  refine⟨r,n,rs,rfl,rfl,SqL.of (s3 _ _ hr2),a_b,_,rfl,?_⟩
  rcases List.eq_nil_or_concat ts with e | ⟨ts',t',e⟩
  ·subst e
   cases b2
   exact fin _ (s2.trans s3)
  ·rw[List.concat_eq_append] at e
   subst e
   obtain⟨ls',one,rfl,c1,c2⟩:=b1.snoc
   obtain⟨rs',two,rfl,d1,d2⟩:=b2.snoc
   have hne:(!(rs'++ [two]).isEmpty)=true:=by simp
   rw[show (if true=true then !(rs'++ [two]).isEmpty else (rs'++ [two]).isEmpty)=true from hne]
   refine k_w ?_
   have hnl:l≠n:=a_h hl2 hn
   have hnr:r≠n:=a_h hr2 hn
   rw[D.wts_app] at hwt
   have hwe:D.wts [t']=t'.wt:=by simp[D.wts]
   rw[hwe] at hwt
   have hwp:=t'.wt_pos
   -- what a turn has to reach
   refine⟨λσ' H'=>∃(ts:List D) (ls rs:List V) (v1 v2:Option V),σ'= [some x,some y,some (.ref l),some (.ref r),v1,v2]/\Same H H'/\H' l=some (.lst ls)/\H' r=some (.lst rs)/\BearsL H ts ls/\BearsL H ts rs/\D.wts ts < D.wts (ts'++ [t']),?_, ?_⟩
   ·rintro σ' H' ⟨us,ls,rs,v1,v2,e1,e2,e3,e4,e5,e6,e7⟩
    have:=e7
    rw[D.wts_app,hwe] at this
    exact⟨D.wts us,e7,us,ls,rs,v1,v2,e1,e2,e3,e4,e5,e6,rfl,by omega⟩
   refine⟨_,rfl,.inl ⟨rfl,_,SqL.of (s3 _ _ hl2)⟩,l,_,_,rfl,rfl,s3 _ _ hl2,i_D _ _,?_⟩
   rw[List.dropLast_concat]
   refine⟨_,rfl,.inl ⟨rfl,_,SqL.of (by rw[a_i hlr.symm];exact s3 _ _ hr2)⟩,r,_,_,rfl,rfl,(by rw[a_i hlr.symm];exact s3 _ _ hr2),i_D _ _,?_⟩
   rw[List.dropLast_concat]
   generalize hH4:upd (upd (upd H2 n (.lst [])) l (.lst ls')) r (.lst rs')=H4
   have s4:Same H H4:=λb u hb=>by
    rw[<-hH4,a_i (a_h hb hr0),a_i (a_h hb hl)]
    exact s3 _ _ (s2 _ _ hb)
   have hl4:H4 l=some (.lst ls'):=by rw[<-hH4,a_i hlr];exact a_b
   have hr4:H4 r=some (.lst rs'):=by rw[<-hH4];exact a_b
   have hlz:ls'.length < 100000:=by have:=D.wts_len ts';rw[<-c1.len];omega
   have hrz:rs'.length < 100000:=by have:=D.wts_len ts';rw[<-d1.len];omega
   refine⟨_,rfl,by show 2<=sizeLine;decide,λk hk=> ?_⟩
   have s5:Same H4 (upd H4 k (.tup [.ty "list",.ty "tuple"])):=Same.upd_new hk
   generalize hH5:upd H4 k (.tup [.ty "list",.ty "tuple"])=H5 at s5
   have hk5:H5 k=some (.tup [.ty "list",.ty "tuple"]):=by rw[<-hH5];exact a_b
   have s45:Same H H5:=s4.trans s5
   have hl5:=s5 _ _ hl4
   have hr5:=s5 _ _ hr4
   cases c2 with
   | int i=>
     cases d2
     refine⟨_,k, ["list","tuple"],"int",false,rfl,.int i,.inl rfl,hk5,rfl,_,rfl,?_⟩
     refine⟨_,rfl,_,_,_,_,rfl,.int i,rfl,_,rfl,?_⟩
     refine⟨_,rfl,i,rfl,_,rfl,?_⟩
     refine⟨_,rfl,_,rfl,rfl,_,rfl,?_⟩
     refine a_x (λc=>absurd c (by simp)) (λc=> ?_)
     exact⟨ts',ls',rs',_,_,rfl,s45,hl5,hr5,c1,d1,by rw[D.wts_app,hwe];omega⟩
   | str z=>
     cases d2
     refine⟨_,k, ["list","tuple"],"str",false,rfl,.str z,.inr (.inl rfl),hk5,rfl,_,rfl,?_⟩
     refine⟨_,rfl,_,_,_,_,rfl,.str z,rfl,_,rfl,?_⟩
     refine⟨_,rfl,_,_,_,_,rfl,.str z,rfl,_,rfl,?_⟩
     refine⟨_,rfl,_,rfl,rfl,_,rfl,?_⟩
     refine a_x (λc=>absurd c (by simp)) (λc=> ?_)
     exact⟨ts',ls',rs',_,_,rfl,s45,hl5,hr5,c1,d1,by rw[D.wts_app,hwe];omega⟩
   | @lst a1 ds vs1 ha1 hv1=>
     cases d2 with
     | @lst a2 _ vs2 ha2 hv2=>
     have e1:=hv1.len
     have e2:=hv2.len
     have hdw:(D.lst ds).wt=1+D.wts ds:=rfl
     have hds:=D.wts_len ds
     have n1:a1≠l:=a_h ha1 hl
     have n2:a2≠l:=a_h ha2 hl
     have n3:a1≠r:=a_h ha1 hr0
     refine⟨_,k, ["list","tuple"],"list",true,rfl,.lst (s45 _ _ ha2),.inr (.inr (.inl rfl)),hk5,rfl,_,rfl,?_⟩
     refine⟨_,rfl,_,_,_,_,rfl,.lst (s45 _ _ ha1),rfl,_,rfl,_,_,_,_,rfl,.lst (s45 _ _ ha2),rfl,rfl,_,rfl,?_⟩
     refine a_x (λc=>absurd c (by simp)) (λ_=> ?_)
     refine⟨_,rfl,_,_,_,_,rfl,.lst (s45 _ _ ha1),rfl,_,rfl,_,_,_,_,rfl,.lst (s45 _ _ ha2),rfl,rfl,_,rfl,?_⟩
     refine a_x (λc=>absurd c (by simp)) (λ_=> ?_)
     refine⟨_,rfl,a1,_,rfl,.inl (SqL.of (s45 _ _ ha1)),_,rfl,a2,_,rfl,.inl (SqL.of (s45 _ _ ha2)),rfl,_,rfl,?_⟩
     refine a_x (λc=>absurd c (by simp[<-e1,<-e2])) (λ_=> ?_)
     have z1:ls'.length+vs1.length<=sizeLine:=r_x (m:=200000) (by omega) (by decide)
     have z2:rs'.length+vs2.length<=sizeLine:=r_x (m:=200000) (by omega) (by decide)
     refine⟨_,rfl,.inl ⟨rfl,_,SqL.of hl5⟩,_,rfl,.inl ⟨l,a1,ls',vs1,rfl,rfl,hl5,s45 _ _ ha1,z1,?_⟩⟩
     have hr6:(upd H5 l (.lst (ls'++vs1))) r=some (.lst rs'):=by rw[a_i hlr.symm];exact hr5
     refine⟨_,rfl,.inl ⟨rfl,_,SqL.of hr6⟩,_,rfl,.inl ⟨r,a2,rs',vs2,rfl,rfl,hr6,by rw[a_i n2];exact s45 _ _ ha2,z2,?_⟩⟩
     refine⟨ts'++ds,ls'++vs1,rs'++vs2,_,_,rfl,λb u hb=> ?_, by rw[a_i hlr];exact a_b,a_b,c1.app hv1,d1.app hv2,?_⟩
     ·rw[a_i (a_h hb hr0),a_i (a_h hb hl)]
      exact s45 _ _ hb
     ·rw[D.wts_app,D.wts_app,hwe,hdw]
      omega
   | @tup a1 ds vs1 ha1 hv1=>
     cases d2 with
     | @tup a2 _ vs2 ha2 hv2=>
     have e1:=hv1.len
     have e2:=hv2.len
     have hdw:(D.tup ds).wt=1+D.wts ds:=rfl
     have hds:=D.wts_len ds
     have n1:a1≠l:=a_h ha1 hl
     have n2:a2≠l:=a_h ha2 hl
     have n3:a1≠r:=a_h ha1 hr0
     refine⟨_,k, ["list","tuple"],"tuple",true,rfl,.tup (s45 _ _ ha2),.inr (.inr (.inr rfl)),hk5,rfl,_,rfl,?_⟩
     refine⟨_,rfl,_,_,_,_,rfl,.tup (s45 _ _ ha1),rfl,_,rfl,_,_,_,_,rfl,.tup (s45 _ _ ha2),rfl,rfl,_,rfl,?_⟩
     refine a_x (λc=>absurd c (by simp)) (λ_=> ?_)
     refine⟨_,rfl,_,_,_,_,rfl,.tup (s45 _ _ ha1),rfl,_,rfl,_,_,_,_,rfl,.tup (s45 _ _ ha2),rfl,rfl,_,rfl,?_⟩
     refine a_x (λc=>absurd c (by simp)) (λ_=> ?_)
     refine⟨_,rfl,a1,_,rfl,.inr (SqT.of (s45 _ _ ha1)),_,rfl,a2,_,rfl,.inr (SqT.of (s45 _ _ ha2)),rfl,_,rfl,?_⟩
     refine a_x (λc=>absurd c (by simp[<-e1,<-e2])) (λ_=> ?_)
     have z1:ls'.length+vs1.length<=sizeLine:=r_x (m:=200000) (by omega) (by decide)
     have z2:rs'.length+vs2.length<=sizeLine:=r_x (m:=200000) (by omega) (by decide)
     refine⟨_,rfl,.inl ⟨rfl,_,SqL.of hl5⟩,_,rfl,.inr ⟨l,a1,ls',vs1,rfl,rfl,hl5,s45 _ _ ha1,z1,?_⟩⟩
     have hr6:(upd H5 l (.lst (ls'++vs1))) r=some (.lst rs'):=by rw[a_i hlr.symm];exact hr5
     refine⟨_,rfl,.inl ⟨rfl,_,SqL.of hr6⟩,_,rfl,.inr ⟨r,a2,rs',vs2,rfl,rfl,hr6,by rw[a_i n2];exact s45 _ _ ha2,z2,?_⟩⟩
     refine⟨ts'++ds,ls'++vs1,rs'++vs2,_,_,rfl,λb u hb=> ?_, by rw[a_i hlr];exact a_b,a_b,c1.app hv1,d1.app hv2,?_⟩
     ·rw[a_i (a_h hb hr0),a_i (a_h hb hl)]
      exact s45 _ _ hb
     ·rw[D.wts_app,D.wts_app,hwe,hdw]
      omega
end
def n_T:List Str:= ["","a","ab","b","B","~"]
theorem k_a:∀{i:Nat} {t:Str},n_T[i]? =some t->t.length<=2
 | 0,t,h=>by obtain rfl:=r_j h;decide
 | 1,t,h=>by obtain rfl:=r_j h;decide
 | 2,t,h=>by obtain rfl:=r_j h;decide
 | 3,t,h=>by obtain rfl:=r_j h;decide
 | 4,t,h=>by obtain rfl:=r_j h;decide
 | 5,t,h=>by obtain rfl:=r_j h;decide
 | n+6,t,h=>by simp[n_T] at h
theorem h_Q (z:Int):∃t:Str,atI (n_T.map V.str) (z % 6)=some (.str t)/\t.length<=2:=by
 have h1:=Int.emod_nonneg z (show (6:Int)≠0 by decide)
 have h2:=Int.emod_lt_of_pos z (show (0:Int) < 6 by decide)
 obtain⟨j,hj⟩:∃j:Nat,z % 6=(j:Int):=⟨(z % 6).toNat,by omega⟩
 have hjl:j < n_T.length:=by show _ < 6;omega
 refine⟨n_T[j],?_, k_a (r_d hjl)⟩
 rw[hj]
 refine a_e ?_
 rw[r_o,r_d hjl]
 rfl
def i1 (b:Bool):Int:=if b=true then 1 else 0
theorem h_t (b:Bool): -(2 ^ 64) < i1 b/\i1 b < 2 ^ 64:=by cases b <;> decide
def far (n:Int):Int:=if n=25 then 10 ^ 20 else if n=24 then 0 - 10 ^ 20 else n
def e_V (s:Int):Int:=1000 * (s / 7 % 10 ^ 27) * i1 (decide (V.int (s % 3)=V.int 1))
def b_u (n s:Int):Int:=n+e_V s * i1 (decide (9 < n))
theorem o_d (n:Int):atI [V.int n,V.int (10 ^ (20:Int).toNat),V.int (0 - 10 ^ (20:Int).toNat)] (i1 (decide (V.int n=V.int 25))+2 * i1 (decide (V.int n=V.int 24)))=some (V.int (far n)):=by
 unfold far
 by_cases h1:n=25
 ·subst h1
  exact a_e (j:=1) rfl
 ·by_cases h2:n=24
  ·subst h2
   exact a_e (j:=2) rfl
  ·have e1:decide (V.int n=V.int 25)=false:=r_T λq=>h1 (by injection q)
   have e2:decide (V.int n=V.int 24)=false:=r_T λq=>h2 (by injection q)
   rw[e1,e2,if_neg h1,if_neg h2]
   exact a_e (j:=0) rfl
section
variable {P:Program} {w:World} {K:PySem.W.Frag} {mg:Str->Option Value} {base:Heap}
def g_M:Sp:=λvs H Q _=>vs= []/\∀(l:Addr) (H':Hp),H l=none->Same H H'->H' l=some (.lst (n_T.map V.str))->Q (.ref l) H'
theorem n_G:a_s [] [] (a_m j_0):=⟨rfl,rfl,rfl,by decide+kernel,rfl,by decide+kernel,by decide+kernel⟩
theorem l_g {f:Addr} {fd:FuncData} (F:Fun K "_law_texts" "_law_texts" j_0 f fd):FnOk P w K mg base CX0 1 f fd [] g_M:=by
 refine F.ok n_G (λvs H Q E h=> ?_) (λcdv A outer s H vs Q E hr h=> ?_)
 ·obtain⟨rfl,_⟩:=h
  rfl
 ·obtain⟨rfl,k⟩:=h
  refine⟨_,a_g (a_n (a_U (a_a a_l (a_a a_l (a_a a_l (a_a a_l (a_a a_l (a_a a_l a_d)))))))),?_⟩
  exact⟨by show 6<=sizeLine;decide,λl hl=>k l _ hl (Same.upd_new hl) a_b⟩
def f_l:Sp:=λvs H Q _=>∃(n c:Int),vs= [.int n,.int c]/\∀(a:Addr) (ρ:Row) (H':Hp),H a=none->Same H H'->RowAt H' a ρ->ρ.n=n->ρ.t.length<=2->Q (.ref a) H'
theorem g_G:a_s ["_law_number","_law_cell","_law_rank"] ["_law_number","_law_cell"] (a_m j_V):=⟨rfl,rfl,rfl,by decide+kernel,rfl,by decide+kernel,by decide+kernel⟩
theorem k_P {f fT:Addr} {fd fdT:FuncData} (F:Fun K "_law_drawn_row" "_law_drawn_row" j_V f fd) (gT:Gf K mg "_law_texts" fT fdT []) (GT:FnOk P w K mg base CX0 1 fT fdT [] g_M):FnOk P w K mg base CX0 2 f fd ["_law_number","_law_cell"] f_l:=by
 refine F.ok g_G (λvs H Q E h=> ?_) (λcdv A outer s H vs Q E hr h=> ?_)
 ·obtain⟨n,c,rfl,_⟩:=h
  rfl
 ·obtain⟨n,c,rfl,k⟩:=h
  refine⟨_,a_c (a_w (i:=2) g_G.nd rfl (Or.inl rfl) (a_t b_R (a_t a_P (pv 1) a_f) a_f))
   (a_c (a_C (a_k a_H (pv 2) a_f (a_o _)) (a_g (a_w (i:=2) g_G.nd rfl (Or.inl rfl) a_f)) a_q)
   (a_g (a_n (a_J (a_a (pv 0) (a_a (pv 2) (a_a (a_r a_M (d_F GT hr rfl gT.mg gT.kp gT.b .nil a_u) (a_t a_P (a_t a_2 (pv 1) a_f) a_f) (λ_ _=>rfl)) a_d))))))),?_⟩
  obtain⟨t,ht,htl⟩:=h_Q (c / 8)
  refine⟨_,rfl,_,_,rfl,rfl,(show (0:Int) < 8 by decide),_,_,rfl,rfl,_,rfl,rfl,_,rfl,?_⟩
  refine a_x (λq=> ?_) (λq=> ?_)
  ·refine⟨_,rfl,_,rfl,rfl,λl H1 hl s1 hl1=>⟨_,rfl,_,_,rfl,rfl,⟨by decide,by decide⟩,_,_,rfl,rfl,(show (0:Int) < 6 by decide),l,_,_,_,rfl,rfl,SqL.of hl1,ht,by show 3<=sizeLine;decide,λa ha=> ?_⟩⟩
   exact k a ⟨n,1000000000000,t⟩ _ (s1.free ha) (s1.trans (Same.upd_new ha)) a_b rfl htl
  ·refine⟨_,rfl,_,rfl,rfl,λl H1 hl s1 hl1=>⟨_,rfl,_,_,rfl,rfl,⟨by decide,by decide⟩,_,_,rfl,rfl,(show (0:Int) < 6 by decide),l,_,_,_,rfl,rfl,SqL.of hl1,ht,by show 3<=sizeLine;decide,λa ha=> ?_⟩⟩
   exact k a ⟨n,c % 8 - 3,t⟩ _ (s1.free ha) (s1.trans (Same.upd_new ha)) a_b rfl htl
def i_L:Sp:=λvs H Q _=>∃n,vs= [.int n]/\∀H',Same H H'->Q (.int (far n)) H'
theorem p_P:a_s ["_law_number"] ["_law_number"] (a_m q_a):=⟨rfl,rfl,rfl,by decide+kernel,rfl,by decide+kernel,by decide+kernel⟩
theorem o_W {f:Addr} {fd:FuncData} (F:Fun K "_law_far" "_law_far" q_a f fd) (B:Bt mg):FnOk P w K mg base CX0 1 f fd ["_law_number"] i_L:=by
 refine F.ok p_P (λvs H Q E h=> ?_) (λcdv A outer s H vs Q E hr h=> ?_)
 ·obtain⟨n,rfl,_⟩:=h
  rfl
 ·obtain⟨n,rfl,k⟩:=h
  refine⟨_,a_g (a_n (a_r a_M (a_U (a_a (pv 0) (a_a (a_t h_p a_f a_f) (a_a (a_t b_R a_f (a_t h_p a_f a_f)) a_d))))
   (a_t a_S (a_9 b_z (by rfl) B.int f_m (a_a (b_W a_H (pv 0) a_f (a_o _)) a_d)) (a_t b_M a_f (a_9 b_z (by rfl) B.int f_m (a_a (b_W a_H (pv 0) a_f (a_o _)) a_d)))) (λ_ _=>rfl))),?_⟩
  refine⟨_,rfl,_,_,rfl,rfl,⟨by decide,by decide,by decide⟩,_,_,rfl,rfl,⟨by decide,by decide,by decide⟩,_,_,rfl,rfl,by show 3<=sizeLine;decide,λl hl=> ?_⟩
  refine⟨_,rfl,rfl,.inr ⟨_,rfl,_,rfl,rfl,.inr ⟨_,rfl,_,_,rfl,rfl,.inr (h_t _),_,_,rfl,rfl,l,_,_,_,rfl,rfl,SqL.of a_b,o_d n,k _ (Same.upd_new hl)⟩⟩⟩
def j_C:Sp:=λvs H Q _=>∃n,vs= [.int n]/\Q (.int (e_V n)) H
theorem n_V:a_s ["_law_seed"] ["_law_seed"] (a_m m_P):=⟨rfl,rfl,rfl,by decide+kernel,rfl,by decide+kernel,by decide+kernel⟩
theorem m_4 {f:Addr} {fd:FuncData} (F:Fun K "_law_step_by" "_law_step_by" m_P f fd) (B:Bt mg):FnOk P w K mg base CX0 1 f fd ["_law_seed"] j_C:=by
 refine F.ok n_V (λvs H Q E h=> ?_) (λcdv A outer s H vs Q E hr h=> ?_)
 ·obtain⟨n,rfl,_⟩:=h
  rfl
 ·obtain⟨n,rfl,k⟩:=h
  refine⟨_,a_g (a_n (a_t b_M (a_t b_M a_f (a_t a_P (a_t a_2 (pv 0) a_f) (a_t h_p a_f a_f))) (a_9 b_z (by rfl) B.int f_m (a_a (b_W a_H (a_t a_P (pv 0) a_f) a_f (a_o _)) a_d)))),?_⟩
  refine⟨_,rfl,_,_,rfl,rfl,⟨by decide,by decide⟩,_,_,rfl,rfl,⟨by decide,by decide,by decide⟩,_,_,rfl,rfl,(show (0:Int) < 10 ^ 27 by decide),_,_,rfl,rfl,.inl ⟨by decide,by decide⟩,?_⟩
  exact⟨_,rfl,_,_,rfl,rfl,(show (0:Int) < 3 by decide),rfl,.inr ⟨_,rfl,_,_,rfl,rfl,.inr (h_t _),k⟩⟩
def d_Q:Sp:=λvs H Q _=>∃n s,vs= [.int n,.int s]/\Q (.int (b_u n s)) H
theorem l_o:a_s ["_law_number","_law_seed"] ["_law_number","_law_seed"] (a_m g_U):=⟨rfl,rfl,rfl,by decide+kernel,rfl,by decide+kernel,by decide+kernel⟩
theorem k_l {f fS:Addr} {fd fdS:FuncData} (F:Fun K "_law_raised" "_law_raised" g_U f fd) (B:Bt mg) (gS:Gf K mg "_law_step_by" fS fdS ["_law_seed"]) (GS:FnOk P w K mg base CX0 1 fS fdS ["_law_seed"] j_C):FnOk P w K mg base CX0 2 f fd ["_law_number","_law_seed"] d_Q:=by
 refine F.ok l_o (λvs H Q E h=> ?_) (λcdv A outer s H vs Q E hr h=> ?_)
 ·obtain⟨n,s,rfl,_⟩:=h
  rfl
 ·obtain⟨n,sd,rfl,k⟩:=h
  refine⟨_,a_g (a_n (a_t a_S (pv 0) (a_t b_M (a_j GS hr rfl gS.mg gS.kp gS.b .nil a_u (a_a (pv 1) a_d)) (a_9 b_z (by rfl) B.int f_m (a_a (b_W h_0 (pv 0) a_f (a_o _)) a_d))))),?_⟩
  exact⟨_,rfl,_,rfl,_,rfl,_,rfl,_,_,rfl,rfl,.inr ⟨_,rfl,_,_,rfl,rfl,.inr (h_t _),_,_,rfl,rfl,k⟩⟩
def d_K:Sp:=λvs H Q _=>∃n s,vs= [.int n,.int s]/\∀r,Q (.int r) H
theorem l_m:a_s ["_law_rank","_law_seed"] ["_law_rank","_law_seed"] (a_m g_N):=⟨rfl,rfl,rfl,by decide+kernel,rfl,by decide+kernel,by decide+kernel⟩
theorem j_I {f fS:Addr} {fd fdS:FuncData} (F:Fun K "_law_ranked" "_law_ranked" g_N f fd) (B:Bt mg) (gS:Gf K mg "_law_step_by" fS fdS ["_law_seed"]) (GS:FnOk P w K mg base CX0 1 fS fdS ["_law_seed"] j_C):FnOk P w K mg base CX0 2 f fd ["_law_rank","_law_seed"] d_K:=by
 refine F.ok l_m (λvs H Q E h=> ?_) (λcdv A outer s H vs Q E hr h=> ?_)
 ·obtain⟨n,s,rfl,_⟩:=h
  rfl
 ·obtain⟨n,sd,rfl,k⟩:=h
  refine⟨_,a_g (a_n (a_t a_S (pv 0) (a_t b_M (a_j GS hr rfl gS.mg gS.kp gS.b .nil a_u (a_a (a_t a_2 (pv 1) a_f) a_d)) (a_9 b_z (by rfl) B.int f_m (a_a (b_W h_0 (pv 0) a_f (a_o _)) a_d))))),?_⟩
  exact⟨_,rfl,_,rfl,_,_,rfl,rfl,⟨by decide,by decide⟩,_,rfl,_,rfl,_,_,rfl,rfl,.inr ⟨_,rfl,_,_,rfl,rfl,.inr (h_t _),_,_,rfl,rfl,k _⟩⟩
end
end K1
namespace L2
open PySem PySem.Spec PyProof.Rows
section
variable {X:Cx}
theorem tk {α:Type} {M:Model} {A:Around} {t:Sem α} {Q:α->Shared->Prop} {E:Value->Shared->Prop} {s:Shared} (h:wpAny M A t Q E s):wpAny M A t (λa s'=>s.toks<=s'.toks/\Q a s') E s:=wpAny_mono (wpAny_toks h) (λ_ _ x=>x) λ_ _ x=>x.2
def p_i (X:Cx) (st:List Stmt) (t:TS):Prop:=∀(pins:List (Addr×Obj)) (s:Shared) (σ:St) (H:Hp) (D:i_y),Inv X pins σ H s->0 < s.toks->t D σ H->wpAny (model X.prog X.w) X.A (execs st X.env) (SP X pins D) X.xe s
def PS1 (X:Cx) (st:Stmt) (t:TS):Prop:=∀(pins:List (Addr×Obj)) (s:Shared) (σ:St) (H:Hp) (D:i_y),Inv X pins σ H s->0 < s.toks->t D σ H->wpAny (model X.prog X.w) X.A (exec st X.env) (SP X pins D) X.xe s
def PE1 (X:Cx) (e:Expr) (t:TE):Prop:=∀(pins:List (Addr×Obj)) (s:Shared) (σ:St) (H:Hp) (Q:VK),Inv X pins σ H s->0 < s.toks->t σ H Q->wpAny (model X.prog X.w) X.A (eval e X.env) (EP X pins σ Q) X.xe s
def h_x (n:Nat) (u:Value):Prop:=∀x t,u= .str x t->n<=t
def PEF (X:Cx) (e:Expr) (t:TE):Prop:=∀(pins:List (Addr×Obj)) (s:Shared) (σ:St) (H:Hp) (Q:VK),Inv X pins σ H s->t σ H Q->wpAny (model X.prog X.w) X.A (eval e X.env) (λu s'=>h_x s.toks u/\EP X pins σ Q u s') X.xe s
theorem PSs.one {st:List Stmt} {t:TS} (h:PSs X st t):p_i X st t:=λpins s σ H D I _ q=>h pins s σ H D I q
theorem g_p {st:Stmt} {e_B:List Stmt} {t u:TS} (h1:PS1 X st t) (h2:p_i X e_B u):p_i X (st::e_B) (p_q t u):=by
 intro pins s σ H D I h0 h
 refine wpAny_execs_cons (thn (tk (h1 pins s σ H { D with nx:=u D } I h0 h)) λf s1 ⟨le,q⟩=> ?_)
 cases f with
 | next=>
   obtain⟨σ',H',I',q⟩:=q
   exact h2 pins s1 σ' H' D I' (r_s h0 le) q
 | ret v=>exact q
 | brk=>exact q
 | cont=>exact q
theorem j_c {i:Nat} {x c:Str} {k:Nat} {pos pos' pc:Pos} {e_B:List Stmt} {u:TS} (hN:X.N.Nodup) (hi:X.N[i]? =some x) (hx:Loc X.env.scope x) (h2:p_i X e_B u)
 (hs:swapsWith (.Constant (.str c) k pc) (some (.Name x pos')) pos.line X.env=pure false:=by rfl) (hf:X.fn x=true\/X.env.scope.names.lookup x=some .local:=by first | exact .inl rfl | exact .inr rfl | assumption):
 PSs X (.Assign [.Name x pos'] (.Constant (.str c) k pc) pos::e_B) (p_q (p_g (tC (.str c)) (k_F i)) u):=by
 intro pins s σ H D I h
 refine wpAny_execs_cons (wpAny_Assign_Name (Calls.Constant_str ?_) hs)
 refine thn (tk (d_P (v:= .str c) (Q:=λ_ s'=>∃σ' H',Inv X pins σ' H' s'/\u D σ' H') (I.tok (s.toks+1)) hN hi hx ⟨_,rfl⟩ (λs2 I2=>⟨_,H,I2,h⟩) hf)) λ_ s2 ⟨le,σ',H',I',q⟩=> ?_
 exact h2 pins s2 σ' H' D I' (r_s (Nat.succ_pos _) le) q
theorem j_k {i:Nat} {x:Str} {e:Expr} {te:TE} {pos pos':Pos} (hN:X.N.Nodup) (hi:X.N[i]? =some x) (hx:Loc X.env.scope x) (he:PE1 X e te) (hs:swapsWith e (some (.Name x pos')) pos.line X.env=pure false:=by rfl) (hf:X.fn x=true\/X.env.scope.names.lookup x=some .local:=by first | exact .inl rfl | exact .inr rfl | assumption):
 PS1 X (.Assign [.Name x pos'] e pos) (p_g te (k_F i)):=by
 intro pins s σ H D I h0 h
 refine wpAny_Assign_Name (thn (he pins s σ H _ I h0 h) λv s1 ⟨y,H1,I1,r1,q1⟩=> ?_) hs
 exact d_P I1 hN hi hx r1 (λs2 I2=>⟨_,H1,I2,q1⟩) hf
theorem n_l {a b:Expr} {ta tb:TE} {pos:Pos} (ha:PE X a ta) (hb:PE X b tb) (hs:g_I b):PEF X (.Subscript a b pos) (tOp q_L ta tb):=by
 intro pins s σ H Q I h
 refine Subscript_ (thn (tk (ha pins s σ H _ I h)) λv s1 ⟨l1,x,H1,I1,r1,q1⟩=>thn (tk (hb pins s1 σ H1 _ I1 q1)) λu s2 ⟨l2,y,H2,I2,r2,q2⟩=> ?_)
 obtain⟨z,i,c,rfl,rfl,hz,he,q⟩:=q2
 obtain⟨t,rfl⟩:=r1
 obtain⟨t',rfl⟩:=r2
 obtain⟨j,h1,h2,h3,h4,h5⟩:=g_P he
 have hl:z.cps.toList.length=z.length:=by simp[Str.length]
 rw[hl] at h1 h4 h5
 have hn:=e_s
 exact tail_any (typeIs_str s2 z t) slot_str_getitem.lookup (getItem_str (c:=c) (by
  have e1:decide (i < -(2 ^ 63:Int))=false:=r_T (by omega)
  have e2:decide (i ≥ 2 ^ 63)=false:=r_T (by omega)
  rw[e1,e2,Bool.or_false]) (by rw[h1];simpa using h2) ⟨λx t e=>by cases e;omega,.str ⟨#[c]⟩,H2,I2.tok _,⟨_,rfl⟩,q⟩) (hs _ _)
theorem k_j (x:Str):∀(n:Nat) (acc:Array Nat),((List.replicate n x.cps).foldl (·++·) acc).size=acc.size+x.length * n
 | 0,acc=>by simp
 | n+1,acc=>by
   rw[List.replicate_succ,List.foldl_cons,k_j x n]
   have e:x.length=x.cps.size:=rfl
   simp only[Array.size_append,Nat.mul_succ]
   omega
def p_V:R2:=λx y H Q=>∃z n,x= .str z/\y= .int n/\1<=n/\n<=1000/\z.length<=1000/\∀z':Str,z'.length<=z.length * n.toNat->Q (.str z') H
theorem n_i {a b:Expr} {ta tb:TE} {pos:Pos} (ha:PEF X a ta) (hb:PE X b tb):PEF X (.BinOp a .Mult b pos) (tOp p_V ta tb):=by
 intro pins s σ H Q I h
 refine wpAny_BinOp (thn (tk (ha pins s σ H _ I h)) λv s1 ⟨l1,n1,x,H1,I1,r1,q1⟩=>thn (tk (hb pins s1 σ H1 _ I1 q1)) λu s2 ⟨l2,y,H2,I2,r2,q2⟩=> ?_)
 obtain⟨z,n,rfl,rfl,hn1,hn2,hz,q⟩:=q2
 obtain⟨t,rfl⟩:=r1
 obtain⟨t',rfl⟩:=r2
 have hm:z.length * n.toNat<=1000 * 1000:=Nat.mul_le_mul hz (by omega)
 refine PySem.P.mul_str ?_ (λ_ _=> ?_) (λ_ _=> ?_) ?_
 ·have e1:decide (n < -(2 ^ 63:Int))=false:=r_T (by omega)
  have e2:decide (n ≥ 2 ^ 63)=false:=r_T (by omega)
  rw[e1,e2,Bool.or_false]
 ·intro c
  have h1:(z.length:Int) * n < 2 ^ 63 - 1:=by
   have:((z.length * n.toNat:Nat):Int)<=1000 * 1000:=by exact_mod_cast hm
   rw[Int.natCast_mul] at this
   have e:((n.toNat:Nat):Int)=n:=by omega
   rw[e] at this
   omega
  have h2:(z.length:Int)<=(2 ^ 63 - 1) / n:=(Int.le_ediv_iff_mul_le (by omega)).mpr (by omega)
  omega
 ·unfold PySem.Builtin.Str.tooLong
  refine r_T ?_
  have:(1000 * 1000:Nat) < sizeLine:=by decide
  omega
 ·rw[if_neg (by omega)]
  by_cases c:(n == 1||z.length == 0)=true
  ·rw[if_pos c]
   refine⟨λx t e=>by cases e;exact n1 _ _ rfl,.str z,H2,I2,⟨_,rfl⟩,q z ?_⟩
   exact Nat.le_mul_of_pos_right _ (by omega)
  ·rw[if_neg c]
   have hl:(⟨(List.replicate n.toNat z.cps).foldl (·++·) #[]⟩:Str).length=z.length * n.toNat:=by
    show ((List.replicate n.toNat z.cps).foldl (·++·) #[]).size=_
    rw[k_j];simp
   refine⟨?_, λx t e=>by cases e;omega,.str _,H2,I2.tok _,⟨_,rfl⟩,q _ (Nat.le_of_eq hl)⟩
   rw[hl]
   exact r_x hm (by decide)
def o_C (z1 z2 z3:Str) (tb:TE):TE:=λσ H Q=>tb σ H λy H1=>∃i,y= .int i/\0<=i/\i < 3/\Q (.str z1) H1/\Q (.str z2) H1/\Q (.str z3) H1
theorem j_n {z1 z2 z3:Str} {k1 k2 k3:Nat} {p1 p2 p3 pl pos:Pos} {b:Expr} {tb:TE} (hb:PE X b tb) (hs:g_I b):
 PEF X (.Subscript (.List [.Constant (.str z1) k1 p1,.Constant (.str z2) k2 p2,.Constant (.str z3) k3 p3] pl) b pos) (o_C z1 z2 z3 tb):=by
 intro pins s σ H Q I h
 refine Subscript_ (wpAny_List_spliced ?_)
 refine Calls.spliced_cons (Calls.Constant_str (k:=k1) (pos:=p1) (Calls.spliced_cons (Calls.Constant_str (k:=k2) (pos:=p2) (Calls.spliced_cons (Calls.Constant_str (k:=k3) (pos:=p3) (Calls.spliced_nil ⟨by show 3<=sizeLine;decide,?_⟩))))))
 let o:Obj:={ cls:= .type "list",data:= .seq [Value.str z1 s.toks,Value.str z2 (s.toks+1),Value.str z3 (s.toks+1+1)].toArray }
 have I1:Inv X pins σ H { s with heap:=s.heap.push o,toks:=s.toks+1+1+1 }:=I.kept λb u e=>Heap.get?_push_of_some _ e
 have hg:(s.heap.push o).get? s.heap.objs.size=some o:=Heap.get?_push_size _ rfl
 have I2:Inv X (pins++ [(s.heap.objs.size,o)]) σ H { s with heap:=s.heap.push o,toks:=s.toks+1+1+1 }:=I1.pins_of λp hp=>(r_u.mp hp).elim (λz=>I1.pin p (r_p _ z)) λz=>by
  obtain rfl:p=(s.heap.objs.size,o):=by simpa using z
  exact⟨hg,I.hok.fresh (r_l _),Nat.ne_of_gt I.lt,I.nofs (r_l _),λv e=>nomatch e⟩
 refine thn (hb _ _ σ H _ I2 h) λu s2 ⟨y,H2,I3,r2,q2⟩=> ?_
 obtain⟨i,rfl,h0,h3,qa,qb,qc⟩:=q2
 obtain⟨t',rfl⟩:=r2
 have pO:=(I3.pin (s.heap.objs.size,o) (by simp)).1
 have hL:s2.heap.IsList s.heap.objs.size [Value.str z1 s.toks,Value.str z2 (s.toks+1),Value.str z3 (s.toks+1+1)].toArray:=⟨o,pO,rfl,_,rfl⟩
 have I4:=I3.unpinned
 rcases (show i=0\/i=1\/i=2 by omega) with rfl | rfl | rfl
 ·exact item_listR (Q:=λu s'=>h_x s.toks u/\EP X pins σ Q u s') hL (by decide) (by decide) rfl ⟨λx t e=>by cases e;omega,.str z1,H2,I4,⟨_,rfl⟩,qa⟩ (hs _ _)
 ·exact item_listR (Q:=λu s'=>h_x s.toks u/\EP X pins σ Q u s') hL (by decide) (by decide) rfl ⟨λx t e=>by cases e;omega,.str z2,H2,I4,⟨_,rfl⟩,qb⟩ (hs _ _)
 ·exact item_listR (Q:=λu s'=>h_x s.toks u/\EP X pins σ Q u s') hL (by decide) (by decide) rfl ⟨λx t e=>by cases e;omega,.str z3,H2,I4,⟨_,rfl⟩,qc⟩ (hs _ _)
def q_b (m:Nat) (to te:TE):TE:=λσ H Q=>to σ H λx H1=>∃xs,x= .str xs/\te σ H1 λz H2=>∃zs,z= .str zs/\xs.length+(xs.length+1) * zs.length<=m/\m<=16777216/\∀r:Str,r.length<=m->Q (.str r) H2
theorem k_Y {x y z:Str} {m:Nat} (h:x.length+(x.length+1) * z.length<=m):(Txt.replace x y z).length<=m:=by
 unfold Txt.replace
 split
 ·omega
 ·have h1:=StrLaws.occ_length_le x y 0 x.length (x.length+1)
  have hy:(Builtin.Str.glued y (Builtin.Str.partsBetween x (Builtin.Str.occurrences x y 0 x.length (x.length+1)) y.length)).length=x.length:=by rw[StrLaws.glued_between_self]
  rw[size_glued,length_partsBetween,Nat.add_sub_cancel] at hy
  rw[size_glued,length_partsBetween,Nat.add_sub_cancel]
  have h2:(Builtin.Str.occurrences x y 0 x.length (x.length+1)).length * z.length<=(x.length+1) * z.length:=Nat.mul_le_mul_right _ h1
  omega
theorem d_W {m:Nat} {o e:Expr} {to te:TE} {c:Str} {k:Nat} {apos cpos pc:Pos} (nb:PySem.W.nsIn X.K cStatics sharingNotToldKey=some none) (ho:PE X o to) (he:PEF X e te)
 (hbase:attributeBase o "replace" X.env (eval o X.env)=eval o X.env:=by rfl)
 (hfew:((backTo cpos (starEach [.Constant (.str c) k pc,e] X.env)).all (fun x=> !x.1)&&(backToKw cpos (keywordEach [] X.env)).all (fun x=>x.1.isSome)
   &&decide (([.Constant (.str c) k pc,e]:List Expr).length+([]:List Keyword).length+(if ([]:List Keyword).isEmpty then 0 else 1) < 30))=true:=by rfl)
 (hline:(apos.endLine == cpos.line)=true:=by rfl) (hs:starEach [.Constant (.str c) k pc,e] X.env= [(false,eval (.Constant (.str c) k pc) X.env),(false,eval e X.env)]:=by rfl):
 PE1 X (.Call (.Attribute o "replace" apos) [.Constant (.str c) k pc,e] [] cpos) (q_b m to te):=by
 intro pins s σ H Q I h0 h
 refine wpAny_Call_method_late hbase hfew hline rfl (thn (tk (ho pins s σ H _ I h)) λv s1 ⟨l1,x,H1,I1,r1,xs,ex,q1⟩=> ?_)
 subst ex
 obtain⟨t,rfl⟩:=r1
 refine⟨"str",_,F.plainAttrs_str,F.slot_str_replace,F.type_str_replace,typeIs_str _ _ _,(λ_ e=>nomatch e),?_⟩
 rw[hs]
 refine Calls.callWith_builtin rfl (Calls.evalArgs_plain (Calls.spliced_cons (Calls.Constant_str (k:=k) (pos:=pc) (Calls.spliced_cons ?_))))
 refine thn (he pins _ σ H1 _ (I1.tok _) q1) λu s2 ⟨n2,z,H2,I2,r2,zs,ez,hb,hm,q2⟩=> ?_
 subst ez
 obtain⟨t2,rfl⟩:=r2
 have hn:=n2 _ _ rfl
 refine Calls.spliced_nil ?_
 have NB:NoneBooked s2.heap:=by
  obtain⟨mc,h1,_⟩:=I2.nolimit
  exact⟨mc,h1,PySem.W.ns_none_of I2.kIn h1 nb⟩
 have a1:0 < s1.toks:=r_s h0 l1
 have a2:s1.toks < t2:=hn
 exact SC.replaceA (Nat.ne_of_gt a1) (Nat.ne_of_gt (Nat.lt_trans a1 a2)) (r_A a2) (r_x hb hm) (λt' k=>⟨.str _,H2,I2.tok _,⟨_,rfl⟩,q2 _ (k_Y hb)⟩) NB
def r_a:V->Option Int->Option Int->Hp->VK->Prop:=λx lo hi H Q=>∃z j,x= .str z/\lo=none/\hi=some j/\z.length<=sizeLine/\∀r:Str,r.length<=z.length->Q (.str r) H
theorem l_X:SlR X r_a:=by
 intro pins s σ H x v vl vu lo hi sl Q I rx hs pl pu h
 obtain⟨z,j,rfl,rfl,rfl,hz,q⟩:=h
 obtain⟨t,rfl⟩:=rx
 cases pl
 cases pu with
 | int _ u=>
   obtain⟨o,ho,h1,h2⟩:=hs
   refine⟨"str",_,F.slot_str_getitem.lookup,typeIs_str _ _ _,wpAny_getItem_str_slice (l:=none) (u:=some (j,u)) (st:=none) ⟨o,ho,h1,h2⟩ rfl (post_val_or_str ⟨r_x (Txt.slice_le z _ _) hz,λt' k=> ?_⟩)⟩
   exact⟨.str _,H,I.tok _,⟨_,rfl⟩,q _ (Txt.slice_le z _ _)⟩
end
end L2
namespace K1
open PySem L2 TO
theorem n_y (z:Str) (h:0 < z.length) (i:Int):∃c,atI z.cps.toList (i % (z.length:Int))=some c:=by
 have h1:=Int.emod_nonneg i (show (z.length:Int)≠0 by omega)
 have h2:=Int.emod_lt_of_pos i (show (0:Int) < (z.length:Int) by omega)
 obtain⟨j,hj⟩:∃j:Nat,i % (z.length:Int)=(j:Int):=⟨(i % (z.length:Int)).toNat,by omega⟩
 have hl:z.cps.toList.length=z.length:=by simp[Str.length]
 rw[hj]
 exact⟨_,a_e (r_d (by omega))⟩
section
variable {P:Program} {w:World} {K:PySem.W.Frag} {mg:Str->Option Value} {base:Heap}
def d_S:Sp:=λvs H Q _=>∃(t:Str) (s:Int),vs= [.str t,.int s]/\t.length<=2/\∀(t':Str) (H':Hp),Same H H'->Q (.str t') H'
theorem d_J:a_s ["_law_letters","_law_seed","_law_signs","_law_made"] ["_law_letters","_law_seed"] (a_m g_O):=⟨rfl,rfl,rfl,by decide+kernel,rfl,by decide+kernel,by decide+kernel⟩
theorem i_0 {f:Addr} {fd:FuncData} (F:Fun K "_law_signed" "_law_signed" g_O f fd) (B:Bt mg) (nb:PySem.W.nsIn K cStatics sharingNotToldKey=some none):FnOk P w K mg base CX0 1 f fd ["_law_letters","_law_seed"] d_S:=by
 refine F.ok d_J (λvs H Q E h=> ?_) (λcdv A outer s H vs Q E hr h=> ?_)
 ·obtain⟨t,s,rfl,_⟩:=h
  rfl
 ·obtain⟨t,sd,rfl,ht,k⟩:=h
  refine⟨_,j_c (i:=2) d_J.nd rfl (Or.inl rfl)
   (g_p (j_k (i:=3) d_J.nd rfl (Or.inl rfl) (d_W (m:=29) nb (pv 0) (n_i (n_l (pv 2) (a_t a_P (pv 1) (a_y f_R (by rfl) B.len r_V (a_a (pv 2) a_d))) (λ_ _=>rfl)) (a_t a_S a_f (a_t a_P (a_t a_2 (pv 1) a_f) a_f)))))
   (g_p (j_k (i:=3) d_J.nd rfl (Or.inl rfl) (d_W (m:=119) nb (pv 3) (j_n (a_t a_P (a_t a_2 (pv 1) a_f) a_f) (λ_ _=>rfl))))
   (PSs.one (a_c (a_C (PW.pt (e_c (a_k a_H (pv 3) a_l (a_o _)) (c_y (a_k a_H (a_t a_P (a_t a_2 (pv 1) a_f) a_f) a_f (a_o _))))) (a_g (a_n (pv 3))) a_q)
   (a_g (a_n (a_t e_3 (a_t e_3 (b_8 l_X a_l d_w (c_v (a_t a_P (a_t a_2 (pv 1) a_f) a_f))) (pv 3)) (b_8 l_X a_l d_w (c_v (a_t a_P (a_t a_2 (pv 1) a_f) a_f)))))))))),?_⟩
  have e9:=Int.emod_nonneg (sd / 100) (show (9:Int)≠0 by decide)
  have l9:=Int.emod_lt_of_pos (sd / 100) (show (0:Int) < 9 by decide)
  have e3:=Int.emod_nonneg (sd / 900) (show (3:Int)≠0 by decide)
  have l3:=Int.emod_lt_of_pos (sd / 900) (show (0:Int) < 3 by decide)
  refine⟨_,rfl,t,rfl,_,rfl,_,rfl,_,rfl,_,rfl,by decide+kernel,_,_,rfl,rfl,(by show (0:Int) < _;decide+kernel),?_⟩
  refine⟨_,_,_,rfl,rfl,by decide+kernel,Classical.choose_spec (n_y _ (by decide+kernel) sd),_,rfl,_,_,rfl,rfl,⟨by decide,by decide⟩,_,_,rfl,rfl,(show (0:Int) < 9 by decide),_,_,rfl,rfl,_,_,rfl,rfl,by omega,by omega,(show 1<=1000 by decide),λz' hz'=>⟨z',rfl,?_, by decide,λr hr2=> ?_⟩⟩
  ·have hz9:z'.length≤9:=by
    have:z'.length<=1 * (1+sd / 100 % 9).toNat:=hz'
    omega
   have:(t.length+1) * z'.length<=3 * 9:=Nat.mul_le_mul (by omega) hz9
   omega
  have fin3:∀z3:Str,z3.length<=3->r.length+(r.length+1) * z3.length<=119:=λz3 h3=>by
   have:(r.length+1) * z3.length<=30 * 3:=Nat.mul_le_mul (by omega) h3
   omega
  have hm:∀m:Str,m.length<=119->m.length<=119:=λ_ h=>h
  refine⟨_,rfl,r,rfl,_,rfl,_,_,rfl,rfl,⟨by decide,by decide⟩,_,_,rfl,rfl,(show (0:Int) < 3 by decide),_,rfl,e3,l3,⟨_,rfl,fin3 _ (by decide+kernel),by decide,?_⟩,⟨_,rfl,fin3 _ (by decide+kernel),by decide,?_⟩,⟨_,rfl,fin3 _ (by decide+kernel),by decide,?_⟩⟩
  all_goals
   intro m hm
   refine⟨_,rfl,rfl,_,rfl,?_⟩
   refine a_x (λq=>⟨_,rfl,k m H (Same.refl H)⟩) (λq=> ?_)
   refine⟨_,rfl,_,_,rfl,rfl,⟨by decide,by decide⟩,_,_,rfl,rfl,(show (0:Int) < 2 by decide),rfl,_,rfl,?_⟩
   refine a_x (λq=>⟨_,rfl,k m H (Same.refl H)⟩) (λq=> ?_)
   refine⟨_,rfl,_,_,rfl,rfl,⟨by decide,by decide⟩,_,_,rfl,rfl,(show (0:Int) < 5 by decide),_,rfl,_,_,rfl,rfl,rfl,by decide+kernel,λr1 h1=> ?_⟩
   have h1':r1.length<=1000:=r_x h1 (by decide+kernel)
   refine⟨_,rfl,_,_,rfl,rfl,r_x (Nat.add_le_add h1' hm) (by decide),?_⟩
   refine⟨_,rfl,_,_,rfl,rfl,⟨by decide,by decide⟩,_,_,rfl,rfl,(show (0:Int) < 4 by decide),_,rfl,_,_,rfl,rfl,rfl,by decide+kernel,λr2 h2=>⟨_,_,rfl,rfl,?_, k _ H (Same.refl H)⟩⟩
   have h2':r2.length<=1000:=r_x h2 (by decide+kernel)
   have e12:(r1++m).length=r1.length+m.length:=by
    show (r1.cps++m.cps).size=_
    rw[Array.size_append];rfl
   rw[e12]
   have:(1000+119+1000:Nat)<=sizeLine:=by decide
   omega
def g_T:Sp:=λvs H Q _=>∃(a:Addr) (ρ:Row) (s:Int),vs= [.ref a,.int s]/\RowAt H a ρ/\ρ.t.length<=2/\∀(b:Addr) (ρ':Row) (H':Hp),H b=none->Same H H'->RowAt H' b ρ'->ρ'.n=b_u ρ.n s->Q (.ref b) H'
theorem j_v:a_s ["_law_row","_law_seed","_law_number"] ["_law_row","_law_seed"] (a_m i_X):=⟨rfl,rfl,rfl,by decide+kernel,rfl,by decide+kernel,by decide+kernel⟩
theorem k_8 {f fR fK fS:Addr} {fd fdR fdK fdS:FuncData} (F:Fun K "_law_row_moved" "_law_row_moved" i_X f fd) (gR:Gf K mg "_law_raised" fR fdR ["_law_number","_law_seed"]) (GR:FnOk P w K mg base CX0 2 fR fdR ["_law_number","_law_seed"] d_Q)
 (gK:Gf K mg "_law_ranked" fK fdK ["_law_rank","_law_seed"]) (GK:FnOk P w K mg base CX0 2 fK fdK ["_law_rank","_law_seed"] d_K) (gS:Gf K mg "_law_signed" fS fdS ["_law_letters","_law_seed"]) (GS:FnOk P w K mg base CX0 1 fS fdS ["_law_letters","_law_seed"] d_S):
 FnOk P w K mg base CX0 3 f fd ["_law_row","_law_seed"] g_T:=by
 refine F.ok j_v (λvs H Q E h=> ?_) (λcdv A outer s H vs Q E hr h=> ?_)
 ·obtain⟨a,ρ,s,rfl,_⟩:=h
  rfl
 ·obtain⟨a,ρ,sd,rfl,ha,ht,k⟩:=h
  have hr1:Room 1 _:=hr.mono (by decide)
  refine⟨_,a_c (a_w (i:=2) j_v.nd rfl (Or.inl rfl) (a_j GR hr rfl gR.mg gR.kp gR.b .nil a_u (a_a (a_r a_p (pv 0) a_f (λ_ _=>rfl)) (a_a (pv 1) a_d))))
   (a_g (a_n (a_J (a_a (pv 2) (a_a (a_j GK hr rfl gK.mg gK.kp gK.b .nil a_u (a_a (a_r a_p (pv 0) a_f (fun _ _=>rfl)) (a_a (pv 1) a_d)))
     (a_a (a_j GS hr1 rfl gS.mg gS.kp gS.b .nil a_u (a_a (a_r a_p (pv 0) a_f (λ_ _=>rfl)) (a_a (pv 1) a_d))) a_d)))))),?_⟩
  refine⟨_,rfl,a,_,_,_,rfl,rfl,SqT.of ha,a_e (j:=0) rfl,_,rfl,_,_,rfl,?_⟩
  refine⟨_,rfl,_,rfl,a,_,_,_,rfl,rfl,SqT.of ha,a_e (j:=1) rfl,_,rfl,_,_,rfl,λrk=> ?_⟩
  refine⟨_,rfl,a,_,_,_,rfl,rfl,SqT.of ha,a_e (j:=2) rfl,_,rfl,_,_,rfl,ht,λt' H1 s1=> ?_⟩
  refine⟨by show 3<=sizeLine;decide,λb hb=> ?_⟩
  exact k b ⟨b_u ρ.n sd,rk,t'⟩ _ (s1.free hb) (s1.trans (Same.upd_new hb)) a_b rfl
end
structure Mov (H H':Hp) (f:List Addr):Prop where
 keep:∀b u,H b=some u->b∉f->H' b=some u
 lst:∀b∈f,∀u,H b=some u->∃xs,u= .lst xs
theorem Mov.upd {H:Hp} {a:Addr} {xs ys:List V} (h:H a=some (.lst xs)):Mov H (upd H a (.lst ys)) [a]:=⟨λb u hb hn=>by
 rw[a_i (λe=>hn (by rw[e];exact r_h.mpr rfl))];exact hb,λb hb u hu=>by
 rw[r_h.mp hb,h] at hu;exact⟨xs,(r_j hu).symm⟩⟩
section
variable {H H' H0:Hp} {f:List Addr}
theorem Mov.tup (m:Mov H H' f) {b:Addr} {xs:List V} (h:H b=some (.tup xs)):H' b=some (.tup xs):=m.keep b _ h λhb=>by
 obtain⟨ys,e⟩:=m.lst b hb _ h
 cases e
theorem Mov.same (m:Mov H H' f) (s:Same H0 H) (hf:∀b∈f,H0 b=none):Same H0 H':=λb u hb=>m.keep b u (s b u hb) λhm=>by
 rw[hf b hm] at hb;cases hb
end
section
variable {C:Addr} {w:Bool} {H0 H H':Hp} {o bl o2 bl2 th hf ol ke:Addr} {bas bas2 ls ks:List Addr} {B B2:List (List Row)} {ρs κs:List Row}
end
end K1
namespace TO
open PySem L2
inductive Chg where
 | bring (ρ:Row)
 | alter (ρ:Row)
 | cut (n:Int)
inductive Deed where
 | chg (c:Chg)
 | all (cs:List Chg)
 | begin
 | keep
 | brk
 | row (n:Int)
 | within (w:Str) (lo hi:V)
 | both (lo hi:Int) (t:Str)
 | from (w:Str) (k m:Int)
 | spot (w:Str) (n:Int)
def b_s (l:List Row) (n:Int):Bool:=l.any λx=>decide (x.n=n)
def c_V (l:List Row) (n:Int):Option Row:=l.find? λx=>decide (x.n=n)
def c_e (l:List Row) (ρ:Row):List Row:=if b_s l ρ.n=true then l.map λx=>if x.n=ρ.n then ρ else x else l++ [ρ]
def b_a (l:List Row) (n:Int):List Row:=l.filter λx=>decide (x.n≠n)
def b_f (room:Int) (l:List Row):Chg->List Row×Str
 | .bring ρ=>if b_s l ρ.n=true then (l,"taken") else if room<=(l.length:Int) then (l,"full") else (c_e l ρ,"done")
 | .alter ρ=>if b_s l ρ.n=true then (c_e l ρ,"done") else (l,"missing")
 | .cut n=>if b_s l n=true then (b_a l n,"done") else (l,"missing")
def c_i (room:Int) (l0:List Row):Nat->List Row->List Chg->List Row×D
 | _,l, []=>(l,.str "done")
 | i,l,c::r=>let p:=b_f room l c;if p.2="done" then c_i room l0 (i+1) p.1 r else (l0,.tup [.int (i:Int),.str p.2])
def m_7 (w:Bool) (ρ:Row):List Row->List Row
 | []=> [ρ]
 | x::r=>if ltR w x ρ=true then x::m_7 w ρ r else ρ::x::r
def a_3 (w:Bool):List Row->List Row
 | []=> []
 | x::r=>m_7 w x (a_3 w r)
theorem e_w (w:Bool) (ρ:Row):∀l,(m_7 w ρ l).Perm (ρ::l)
 | []=> .refl _
 | x::r=>by
   unfold m_7
   split
   ·exact ((e_w w ρ r).cons x).trans (.swap ρ x r)
   ·exact .refl _
theorem a_4 (w:Bool):∀l,(a_3 w l).Perm l
 | []=> .refl _
 | x::r=>(e_w w x _).trans ((a_4 w r).cons x)
theorem h_D (w:Bool) (ρ:Row):∀{l:List Row},Srt (ltR w) l->(∀x∈l,x.n≠ρ.n)->Srt (ltR w) (m_7 w ρ l)
 | [],_,_=>by simp[m_7]
 | x::r,h,hn=>by
   have h':=r_Q.mp h
   unfold m_7
   split
   ·rename_i c
    refine r_Q.mpr ⟨λy hy=> ?_, h_D w ρ h'.2 λy hy=>hn y (r_f _ hy)⟩
    rcases r_n.mp ((e_w w ρ r).mem_iff.mp hy) with e | e
    ·rw[e];exact c
    ·exact h'.1 y e
   ·rename_i c
    have c':ltR w ρ x=true:=by
     rcases g_E (w:=w) (hn x (r_g ..)) with q | q
     ·exact absurd q c
     ·exact q
    refine r_Q.mpr ⟨λy hy=> ?_, h⟩
    rcases r_n.mp hy with e | e
    ·rw[e];exact c'
    ·exact c_r w _ _ _ c' (h'.1 y e)
theorem c_q (w:Bool):∀{l:List Row},(l.map (·.n)).Nodup->Srt (ltR w) (a_3 w l)
 | [],_=> .nil
 | x::r,h=>by
   rw[r_r,r_G] at h
   refine h_D w x (c_q w h.2) λy hy e=>h.1 ?_
   rw[<-e]
   exact r_H.mpr ⟨y,(a_4 w r).mem_iff.mp hy,rfl⟩
theorem d_T {w:Bool} {l s:List Row} (hn:(l.map (·.n)).Nodup) (hs:Srt (ltR w) s) (hp:s.Perm l):s=a_3 w l:=
 Srt.one (b_G w) (c_r w) hs (c_q w hn) (hp.trans (a_4 w l).symm)
def b_4 (x:Str):Option Bool:=if x="rank" then some false else if x="text" then some true else none
def i_3 (w:Bool) (lo hi:V) (x:Row):Bool:= !ltV (c_k w x) lo&& !ltV hi (c_k w x)
def e_A (l:List Row):D:= .lst (l.map i_n)
def c_s (l:List Row):Deed->D
 | .row n=>match c_V l n with
   | some ρ=>i_n ρ
   | none=> .str "missing"
 | .both lo hi t=>e_A (((a_3 false l).filter λx=>decide (x.t=t)).filter (i_3 false (.int lo) (.int hi)))
 | .within x lo hi=>match b_4 x with
   | some w=>e_A ((a_3 w l).filter (i_3 w lo hi))
   | none=> .str "no order"
 | .from x k m=>match b_4 x with
   | some w=>e_A ((a_3 w l).zipIdx.filterMap λp=>if k<=(p.2:Int)/\(p.2:Int)<=k+m - 1 then some p.1 else none)
   | none=> .str "no order"
 | .spot x n=>match b_4 x with
   | some w=>(match c_V l n with
     | some ρ=> .int ((l.filter λy=>ltR w y ρ).length:Nat)
     | none=> .str "missing")
   | none=> .str "no order"
 | _=> .str "nothing"
structure Sto where
 kept:List Row
 marks:List (List Row)
def Sto.step (room:Int) (s:Sto):Deed->Sto×D
 | .chg c=>({ s with kept:=(b_f room s.kept c).1 },.str (b_f room s.kept c).2)
 | .all cs=>({ s with kept:=(c_i room s.kept 0 s.kept cs).1 },(c_i room s.kept 0 s.kept cs).2)
 | .begin=>({ s with marks:=s.kept::s.marks },.str "done")
 | .keep=>match s.marks with
   | []=>(s,.str "not begun")
   | _::r=>({ s with marks:=r },.str "done")
 | .brk=>match s.marks with
   | []=>(s,.str "not begun")
   | m::r=>(⟨m,r⟩,.str "done")
 | d=>(s,c_s s.kept d)
def Sto.run (room:Int) (s:Sto):List Deed->Sto×List D
 | []=>(s, [])
 | d::r=>let p:=s.step room d;let q:=p.1.run room r;(q.1,p.2::q.2)
theorem b_v {l:List Row} {n:Int}:b_s l n=true↔∃x∈l,x.n=n:=by simp[b_s]
theorem f_Y {l:List Row} {ρ:Row} (h:(l.map (·.n)).Nodup):((c_e l ρ).map (·.n)).Nodup:=by
 unfold c_e
 split
 ·have e:(l.map fun x=>if x.n=ρ.n then ρ else x).map (·.n)=l.map (·.n):=by
   rw[List.map_map]
   apply List.map_congr_left
   intro x _
   show (if x.n=ρ.n then ρ else x).n=x.n
   split
   ·rename_i c;exact c.symm
   ·rfl
  rw[e]
  exact h
 ·rename_i c
  rw[r_k,List.nodup_append]
  refine⟨h,by simp,λa ha b hb e=>c ?_⟩
  simp at hb
  obtain⟨x,hx,ex⟩:=r_H.mp ha
  exact b_v.mpr ⟨x,hx,ex.trans (e.trans hb)⟩
theorem e_R {l:List Row} {n:Int} (h:(l.map (·.n)).Nodup):((b_a l n).map (·.n)).Nodup:=((List.filter_sublist.map _).nodup h)
theorem f_U {room:Int} {l:List Row} {c:Chg} (h:(l.map (·.n)).Nodup):((b_f room l c).1.map (·.n)).Nodup:=by
 cases c <;> unfold b_f <;> (repeat' split) <;> first | exact h | exact f_Y h | exact e_R h
def ChgAt (H:Hp) (a:Addr):Chg->Prop
 | .bring ρ=>∃r,H a=some (.tup [.str "bring",.ref r])/\RowAt H r ρ
 | .alter ρ=>∃r,H a=some (.tup [.str "alter",.ref r])/\RowAt H r ρ
 | .cut n=>H a=some (.tup [.str "cut",.int n])
def DeedAt (H:Hp) (a:Addr):Deed->Prop
 | .chg c=>ChgAt H a c
 | .all cs=>∃l,∃as:List Addr,H a=some (.tup [.str "all",.ref l])/\H l=some (.lst (as.map V.ref))/\Paired (ChgAt H) as cs
 | .begin=>H a=some (.tup [.str "begin"])
 | .keep=>H a=some (.tup [.str "keep"])
 | .brk=>H a=some (.tup [.str "break"])
 | .row n=>H a=some (.tup [.str "row",.int n])
 | .within x lo hi=>H a=some (.tup [.str "within",.str x,lo,hi])
 | .both lo hi t=>H a=some (.tup [.str "both",.int lo,.int hi,.str t])
 | .from x k m=>H a=some (.tup [.str "from",.str x,.int k,.int m])
 | .spot x n=>H a=some (.tup [.str "spot",.str x,.int n])
abbrev k_v (n:Int):Prop:=n.natAbs.log2 < 1920
abbrev Sm (n:Int):Prop:= -10000000000000000000000000<=n/\n<=10000000000000000000000000
theorem n_M {n:Int} (h1: -100000000000000000000000000000000<=n) (h2:n<=100000000000000000000000000000000):k_v n:=by
 have h:n.natAbs < 2 ^ 1920:=r_R (show n.natAbs<=100000000000000000000000000000000 by omega) (by decide+kernel)
 by_cases e:n.natAbs=0
 ·show n.natAbs.log2 < 1920
  rw[e];decide
 ·exact (Nat.log2_lt e).mpr h
def c_u (x:Str):Prop:=x="rank"\/x="text"\/x="ranks"
def BL:List Int:=(List.range 27).map (λi:Nat=>K1.far ((i:Int) - 1))++(List.range 13).map λi:Nat=>100+(i:Int)
def ML (sd:Int):List Int:=BL.map λb=>K1.b_u b sd
theorem f_F {n:Int} (h1: -1<=n) (h2:n<=25):K1.far n∈BL:=by
 refine r_L _ (r_H.mpr ⟨(n+1).toNat,List.mem_range.mpr (by omega),?_⟩)
 congr 1
 omega
theorem g_o (n:Int):K1.far n=n\/K1.far n=10 ^ 20\/K1.far n=0 - 10 ^ 20:=by
 unfold K1.far
 repeat' split
 all_goals simp
theorem p_E {n:Int} (h:n∈BL):Sm n:=by
 rcases r_u.mp h with q | q
 ·obtain⟨i,hi,e⟩:=r_H.mp q
  have:=List.mem_range.mp hi
  rcases g_o ((i:Int) - 1) with z | z | z <;> rw[z] at e <;> constructor <;> omega
 ·obtain⟨i,hi,e⟩:=r_H.mp q
  have:=List.mem_range.mp hi
  constructor <;> omega
theorem l_Y {n:Int} (h1: -1000<=n) (h2:n<=1000):Sm (K1.far n):=by
 rcases g_o n with z | z | z <;> rw[z] <;> constructor <;> omega
theorem c_W {n sd:Int} (h:Sm n):k_v (K1.b_u n sd):=by
 obtain⟨h1,h2⟩:=h
 have hs:0<=K1.e_V sd/\K1.e_V sd<=1000000000000000000000000000000:=by
  unfold K1.e_V K1.i1
  split <;> omega
 obtain⟨h3,h4⟩:=hs
 have:K1.b_u n sd=n\/K1.b_u n sd=n+K1.e_V sd:=by
  unfold K1.b_u K1.i1
  split
  ·right;omega
  ·left;omega
 rcases this with e | e <;> rw[e] <;> exact n_M (by omega) (by omega)
theorem g_9 {n sd:Int} (h:n∈ML sd):k_v n:=by
 obtain⟨b,hb,e⟩:=r_H.mp h
 rw[<-e]
 exact c_W (p_E hb)
theorem i_A {b sd:Int} (h:b∈BL):K1.b_u b sd∈ML sd:=r_H.mpr ⟨b,h,rfl⟩
theorem o_o (sd:Int):(ML sd).length=40:=by simp[ML,BL]
def Chg.short:Chg->Prop
 | .bring ρ=>ρ.t.length<=2/\ρ.n∈BL
 | .alter ρ=>ρ.t.length<=2/\ρ.n∈BL
 | .cut n=>n∈BL
def Chg.tell (sd:Int):Chg->Prop
 | .bring ρ=>ρ.n∈ML sd
 | .alter ρ=>ρ.n∈ML sd
 | .cut n=>n∈ML sd
def Deed.tell (sd:Int):Deed->Prop
 | .chg c=>c.tell sd
 | .all cs=>∀c∈cs,c.tell sd
 | .row n=>k_v n
 | .spot _ n=>k_v n
 | _=>True
def b_D (x:Str) (lo hi:V):Prop:=if x="text" then ∃s t,lo= .str s/\hi= .str t else ∃i j,lo= .int i/\hi= .int j
def Deed.form:Deed->Prop
 | .all cs=>cs.length<=24
 | .within x lo hi=>b_D x lo hi/\c_u x
 | .from x _ m=>c_u x/\0<=m
 | .spot x _=>c_u x
 | _=>True
def Deed.plain:Deed->Prop
 | .chg _=>True
 | .begin=>True
 | .keep=>True
 | .brk=>True
 | _=>False
def Deed.asks:Deed->Prop
 | .row _=>True
 | .within .. =>True
 | .both .. =>True
 | .from .. =>True
 | .spot .. =>True
 | _=>False
def Deed.short:Deed->Prop
 | .chg c=>c.short
 | .all cs=>∀c∈cs,c.short
 | .within _ lo hi=>(∀s,lo= .str s->s.length<=2)/\∀s,hi= .str s->s.length<=2
 | .both _ _ t=>t.length<=2
 | .row n=>Sm n
 | .spot _ n=>Sm n
 | _=>True
theorem ChgAt.mono {H H':Hp} (s:∀b xs,H b=some (.tup xs)->H' b=some (.tup xs)) {a:Addr} {c:Chg} (h:ChgAt H a c):ChgAt H' a c:=by
 cases c with
 | bring ρ=>obtain⟨r,h1,h2⟩:=h;exact⟨r,s _ _ h1,s _ _ h2⟩
 | alter ρ=>obtain⟨r,h1,h2⟩:=h;exact⟨r,s _ _ h1,s _ _ h2⟩
 | cut n=>exact s _ _ h
theorem a_E {H H':Hp} (s:∀b xs,H b=some (.tup xs)->H' b=some (.tup xs)):∀{as:List Addr} {cs:List Chg},Paired (ChgAt H) as cs->Paired (ChgAt H') as cs
 | _,_,.nil=> .nil
 | _,_,.cons h t=> .cons (h.mono s) (a_E s t)
theorem DeedAt.same {H H':Hp} (s:Same H H') {a:Addr} {d:Deed} (h:DeedAt H a d):DeedAt H' a d:=by
 cases d with
 | chg c=>exact ChgAt.mono (H:=H) (H':=H') (λb xs q=>s _ _ q) h
 | all cs=>obtain⟨l,as,h1,h2,h3⟩:=h;exact⟨l,as,s _ _ h1,s _ _ h2,a_E (λb xs q=>s _ _ q) h3⟩
 | _=>exact s _ _ h
theorem a_Z {H H':Hp} (s:Same H H'):∀{as:List Addr} {ds:List Deed},Paired (DeedAt H) as ds->Paired (DeedAt H') as ds
 | _,_,.nil=> .nil
 | _,_,.cons h t=> .cons (DeedAt.same s h) (a_Z s t)
theorem DeedAt.mov {H H':Hp} {f:List Addr} (m:K1.Mov H H' f) {a:Addr} {d:Deed} (h:DeedAt H a d) (hl:∀l,H a=some (.tup [.str "all",.ref l])->l∉f):DeedAt H' a d:=by
 cases d with
 | chg c=>exact ChgAt.mono (H:=H) (H':=H') (λb xs q=>m.tup q) h
 | all cs=>obtain⟨l,as,h1,h2,h3⟩:=h;exact⟨l,as,m.tup h1,m.keep _ _ h2 (hl l h1),a_E (λb xs q=>m.tup q) h3⟩
 | _=>exact m.tup h
def m_f (H:Hp) (l:Addr) (ds:List Deed):Prop:=∃as:List Addr,H l=some (.lst (as.map V.ref))/\Paired (DeedAt H) as ds
def DeedBy (l:Addr) (H:Hp) (a:Addr) (d:Deed):Prop:=DeedAt H a d/\∀l',H a=some (.tup [.str "all",.ref l'])->l'≠l
theorem DeedAt.head {H:Hp} {a:Addr} {d:Deed} (h:DeedAt H a d):∃xs,H a=some (.tup xs):=by
 cases d with
 | chg c=>cases c with
   | bring ρ=>obtain⟨r,h1,_⟩:=h;exact⟨_,h1⟩
   | alter ρ=>obtain⟨r,h1,_⟩:=h;exact⟨_,h1⟩
   | cut n=>exact⟨_,h⟩
 | all cs=>obtain⟨l,as,h1,_⟩:=h;exact⟨_,h1⟩
 | _=>exact⟨_,h⟩
theorem DeedBy.same {l:Addr} {H H':Hp} (s:Same H H') {a:Addr} {d:Deed} (h:DeedBy l H a d):DeedBy l H' a d:=by
 obtain⟨xs,e⟩:=h.1.head
 exact⟨DeedAt.same s h.1,λl' e'=>h.2 l' (by rw[s _ _ e] at e';rw[e];exact e')⟩
theorem DeedBy.upd {l:Addr} {H:Hp} {xs ys:List V} (hl:H l=some (.lst xs)) {a:Addr} {d:Deed} (h:DeedBy l H a d):DeedBy l (upd H l (.lst ys)) a d:=by
 obtain⟨zs,e⟩:=h.1.head
 have m:K1.Mov H (L2.upd H l (.lst ys)) [l]:=K1.Mov.upd hl
 exact⟨DeedAt.mov m h.1 λl' e' q=>h.2 l' e' (r_h.mp q),λl' e'=>h.2 l' (by rw[m.tup e] at e';rw[e];exact e')⟩
theorem d_4 {l:Addr} {H H':Hp} (s:Same H H'):∀{as:List Addr} {ds:List Deed},Paired (DeedBy l H) as ds->Paired (DeedBy l H') as ds
 | _,_,.nil=> .nil
 | _,_,.cons h t=> .cons (h.same s) (d_4 s t)
theorem j_z {l:Addr} {H:Hp} {xs ys:List V} (hl:H l=some (.lst xs)):∀{as:List Addr} {ds:List Deed},Paired (DeedBy l H) as ds->Paired (DeedBy l (L2.upd H l (.lst ys))) as ds
 | _,_,.nil=> .nil
 | _,_,.cons h t=> .cons (h.upd hl) (j_z hl t)
theorem f_7 {l:Addr} {H:Hp}:∀{as:List Addr} {ds:List Deed},Paired (DeedBy l H) as ds->Paired (DeedAt H) as ds
 | _,_,.nil=> .nil
 | _,_,.cons h t=> .cons h.1 (f_7 t)
end TO
namespace L2
open PySem PySem.Spec PyProof.Rows
theorem ObjOk.there {P:Program} {w:World} {H:Hp} {h:Heap} {a:Addr} {o:HO} (x:ObjOk P w H h a o):∃ob,h.get? a=some ob:=by
 cases o with
 | lst xs=>obtain⟨_,_,_,_,e⟩:=x;exact⟨_,e⟩
 | tup xs=>obtain⟨_,_,_,ob,e,_⟩:=x;exact⟨_,e⟩
 | dK kvs=>obtain⟨_,_,_,_,ob,_,_,e,_⟩:=x;exact⟨_,e⟩
 | dT kvs=>obtain⟨_,_,_,_,ob,_,_,e,_⟩:=x;exact⟨_,e⟩
 | set S n=>obtain⟨ob,_,_,_,e,_⟩:=x;exact⟨_,e⟩
 | ins C dx fs=>obtain⟨_,_,_,e,_⟩:=x;exact⟨_,e⟩
 | own y=>exact x
 | xd fs=>obtain⟨_,⟨_,_,_,e,_⟩,_⟩:=x;exact⟨_,e⟩
 | rng lo hi=>obtain⟨_,_,_,e⟩:=x;exact⟨_,e⟩
 | frz ob u=>obtain⟨e,_⟩:=x;exact⟨_,e⟩
 | tbl ps=>exact⟨_,show h.get? a=some _ from x⟩
 | met f y=>exact⟨_,show h.get? a=some _ from x⟩
 | ext φ=>exact x.2.1
def e_Y (fs:List Addr) (H':Hp) (h h' B:Heap):Prop:=∀b o,h'.get? b=some o->b∉fs->(H' b≠none\/∃o0,h.get? b=some o0)->B.get? b=some o
theorem o_b {fs:List Addr} {H H':Hp} {h h' h2 B:Heap} (u:Un fs [] H H' h h') (hB:e_Y fs H' h h' B) (st:B.StaysIn h2) (sl:∀b o,b∈fs->h'.get? b=some o->∃q,h2.get? b=some { o with slots:=q }):Un fs [] H H' h h2 where
 keep:=λb o q n hb hx=>st b o (hB b o (u.keep b o q n hb hx) hb (.inr ⟨o,q⟩))
 slot:=λb o q n hb hx=>by
  obtain⟨s1,e1⟩:=u.slot b o q n hb hx
  obtain⟨s2,e2⟩:=sl b _ hb e1
  exact⟨s2,e2⟩
 free:=u.free
 there:=λb o q hx=>by
  obtain⟨o',e⟩:=u.there b o q hx
  by_cases hb:b∈fs
  ·obtain⟨s2,e2⟩:=sl b _ hb e
   exact⟨_,e2⟩
  ·exact⟨o',st b o' (hB b o' e hb (.inr ⟨o,q⟩))⟩
 tups:=u.tups
 frzs:=u.frzs
 tbls:=u.tbls
theorem m_a {P:Program} {w:World} {fs:List Addr} {H':Hp} {h h' h2 B:Heap} (ok:HOk P w H' h') (hB:e_Y fs H' h h' B) (st:B.StaysIn h2) (hf:∀b∈fs,H' b=none):HOk P w H' h2:=λa o e=>by
 have go:∀b u,H' b≠none->h'.get? b=some u->h2.get? b=some u:=λb u n q=>st b u (hB b u q (λz=>n (hf b z)) (.inl n))
 refine (ok a o e).stay (λb u hb q=>go b u ?_ q) (λ_ q=>q) λ_ _ q=>q
 rcases hb with rfl | hb
 ·rw[e];simp
 ·rw[hb];simp
theorem h_F {h h' B:Heap} {l:List Env} (ff:h.FunFrames B l) (up:h.UpToSlots h'):∀b o,b∈frs l->h.get? b=some o->∃q,h'.get? b=some { o with slots:=q }:=λb o hb e=>by
 obtain⟨_,o',ho',hd⟩:=ff.mem (show b∈l.filterMap (·.frame) from hb)
 rw[e] at ho'
 cases ho'
 exact up b o e hd
structure Fly (P:Program) (w:World) (outer:List Env) (H:Hp) (h:Heap) (a:Addr) (C:Value) (H':Hp) (h':Heap):Prop where
 fly:∃B a0,Heap.FlyingW B outer a C a0 h'/\e_Y (frs outer) H' h h' B
 un:Un (frs outer) [] H H' h h'
 hok:HOk P w H' h'
def CXR (P:Program) (w:World):CXT:=λouter H s E e s'=>∃a C H',e=Value.ref a/\s'.os=s.os/\AllBare s'.gens/\Fly P w outer H s.heap a (.ref C) H' s'.heap/\E (.ref C) none H'
def l_U (X:Cx) (E:XK):Prop:=∀(pins:List (Addr×Obj)) (σ:St) (H:Hp) (s:Shared) (h':Heap) (e C:Addr) (args:List Value),Inv X pins σ H s->Heap.MadeExcOf s.heap h' e (.ref C) args->E (.ref C) none H->X.xe (.ref e) { s with heap:=h' }
theorem o_P {X:Cx} {pins:List (Addr×Obj)}:∀b∈([]:List Addr),(b∈X.ex\/X.s₀.heap.objs.size<=b)/\b≠X.env.locals/\(∀x c,X.env.cells.lookup x=some c->c≠b)/\∀p∈X.pn++pins,p.1≠b:=λb z=>by simp at z
section
variable {P:Program} {w:World} {K:PySem.W.Frag} {mg:Str->Option Value} {base:Heap} {N:List Str} {qual:Str} {scope:Scope} {f:Addr} {cd:Value} {A:Around} {outer:List Env} {s:Shared} {H:Hp} {E E':XK}
theorem j_D {pins:List (Addr×Obj)} {σ:St} {H1 H':Hp} {s1 s':Shared} {a:Addr} {C:Value} {h2 B:Heap} {a0:Value}
 (I:Inv (i_z (CXR P w) P w K mg base N qual scope f cd A outer s H E) pins σ H1 s1) (os:s'.os=s1.os) (bare:AllBare s'.gens)
 (un:Un (frs (envOfC qual scope s.heap.objs.size f cd::outer)) [] H1 H' s1.heap s'.heap) (hok:HOk P w H' s'.heap) (hB:e_Y (frs (envOfC qual scope s.heap.objs.size f cd::outer)) H' s1.heap s'.heap B)
 (ff:s'.heap.FunFrames B (envOfC qual scope s.heap.objs.size f cd::outer)) (fl:Heap.FlyingW B outer a C a0 h2) (up:s'.heap.UpToSlots h2):
 s'.os=s.os/\Fly P w outer H s.heap a C H' h2:=by
 have J:=I.call' os un hok bare o_P
 have sl:=h_F ff up
 have ok2:HOk P w H' h2:=m_a hok hB fl.1 J.stkFree
 have u2:=o_b un hB fl.1 sl
 have J2:Inv (i_z (CXR P w) P w K mg base N qual scope f cd A outer s H E) pins σ H' { s' with heap:=h2 }:=I.call' (s':={ s' with heap:=h2 }) os u2 ok2 bare o_P
 refine⟨J.os,⟨B,a0,fl,λb o e hb hc=> ?_⟩,J2.base,ok2⟩
 have hL:b≠s.heap.objs.size:=by
  rintro rfl
  rcases hc with hc | ⟨o0,hc⟩
  ·exact hc J.free
  ·exact absurd (Heap.lt_size hc) (Nat.lt_irrefl _)
 have hb':b∉frs (envOfC qual scope s.heap.objs.size f cd::outer):=λz=>by
  rcases r_n.mp (show b∈s.heap.objs.size::frs outer from z) with q | q
  ·exact hL q
  ·exact hb q
 have hin:∃o',s'.heap.get? b=some o':=by
  rcases hc with hc | ⟨o0,hc⟩
  ·cases q:H' b with
   | none=>exact absurd q hc
   | some u=>exact (hok b u q).there
  ·exact J.base.there b o0 hc (by simp[i_z])
 obtain⟨o',e'⟩:=hin
 have e2:=hB b o' e' hb' (by
  rcases hc with hc | ⟨o0,hc⟩
  ·exact .inl hc
  ·exact .inr (I.base.there b o0 hc (by simp[i_z])))
 rw[fl.1 b o' e2] at e
 cases e
 exact e2
theorem c_h (hE:∀c d H',E' c d H'->E c d H'):c_m (CXR P w) (i_z (CXR P w) P w K mg base N qual scope f cd A outer s H E) E':=by
 rintro pins σ H1 s1 e s' I ⟨a,C,H',rfl,os,bare,F,q⟩
 obtain⟨B,a0,fl,hB⟩:=F.fly
 show wpAny (model P w) (A.deeper (envOfC qual scope s.heap.objs.size f cd)) (leaving (envOfC qual scope s.heap.objs.size f cd) (.ref a)) _ _ s'
 refine wpAny_leaves_onW (outer:=outer) I.ok.frames rfl fl λh2 fl2 up=> ?_
 obtain⟨o2,F2⟩:=j_D I os bare F.un F.hok hB fl.2.2.1 fl2 up
 exact⟨a,C,H',rfl,o2,bare,F2,hE _ _ _ q⟩
theorem e_e:l_U (i_z (CXR P w) P w K mg base N qual scope f cd A outer s H E) E:=by
 intro pins σ H1 s1 h' e C args I hx q
 show wpAny (model P w) (A.deeper (envOfC qual scope s.heap.objs.size f cd)) (leaving (envOfC qual scope s.heap.objs.size f cd) (.ref e)) _ _ { s1 with heap:=h' }
 have ff1:=I.stack
 have ff:h'.FunFrames (PySem.W.hideAll s1.heap (frs (envOfC qual scope s.heap.objs.size f cd::outer))) (envOfC qual scope s.heap.objs.size f cd::outer):=
  Heap.FunFrames.of_keeps (λb o hb _=>⟨o,hx.keeps b o hb,rfl⟩) (PySem.W.funFrames_hide ff1 λen he b hb=>List.mem_filterMap.mpr ⟨en,he,hb⟩)
 refine wpAny_leaves_madeW (base:=PySem.W.hideAll s1.heap (frs (envOfC qual scope s.heap.objs.size f cd::outer))) (h:=s1.heap) (outer:=outer) I.ok.frames rfl (λb o z=>PySem.W.of_hideAll _ z)
  (PySem.W.funFrames_hide ff1 λen he b hb=>List.mem_filterMap.mpr ⟨en,he,hb⟩) hx λh2 t fl tp nt up=> ?_
 have hB:e_Y (frs (envOfC qual scope s.heap.objs.size f cd::outer)) H1 s1.heap h' (PySem.W.hideAll s1.heap (frs (envOfC qual scope s.heap.objs.size f cd::outer))):=λb o e hb hc=>by
  have:∃o1,s1.heap.get? b=some o1:=by
   rcases hc with hc | hc
   ·cases z:H1 b with
    | none=>exact absurd z hc
    | some u=>exact (I.hok b u z).there
   ·exact hc
  obtain⟨o1,e1⟩:=this
  rw[hx.keeps b o1 e1] at e
  cases e
  exact PySem.W.hideAll_get _ e1 hb
 obtain⟨o2,F2⟩:=j_D (s':={ s1 with heap:=h' }) I rfl I.bare (Un.kept hx.keeps) (I.hok.kept hx.keeps) hB ff fl up
 exact⟨e,C,H1,rfl,o2,I.bare,F2,q⟩
end
section
variable {P:Program} {w:World} {K:PySem.W.Frag} {mg:Str->Option Value} {base:Heap}
theorem Fun.okX {x qual:Str} {st:Stmt} {f:Addr} {fd:FuncData} {N ps:List Str} {k:Nat} {sp:Sp} (F:Fun K x qual st f fd) (S:a_s N ps (a_m st)) (len:∀vs H Q E,sp vs H Q E->vs.length=ps.length)
 (hbody:∀(cdv:Value) (A:Around) (outer:List Env) (s:Shared) (H:Hp) (vs:List V) (Q:VK) (E:XK),Room k (A.deeper (envOfC qual (a_m st) s.heap.objs.size f cdv))→sp vs H Q E→
   ∃t,PSs (i_z (CXR P w) P w K mg base N qual (a_m st) f cdv A outer s H E) (c_X st) t/\t { nx:=λ_ H'=>Q .non H',rt:=Q } (start N vs) H):FnOk P w K mg base (CXR P w) (k+1) f fd ps sp:=by
 obtain⟨oc,od,kV,doc,pm,an,cdv,ct,osl,rfl,lk,hcd⟩:=F.ex
 exact o_X lk hcd S len λA outer s H vs Q E hr hsp=>hbody cdv A outer s H vs Q E hr hsp
end
abbrev i_p:List Value:= [.type "ValueError",.type "Exception",.type "BaseException",.type "object"]
structure Exc (K:PySem.W.Frag) (mg:Str->Option Value) (x:Str) (C:Addr):Prop where
 at_:mg x=some (.ref C)
 ok:PySem.W.excIn K C i_p "ValueError.__new__"=true
theorem m_p {K:PySem.W.Frag} {g:Heap} {C:Addr} {tl:List Value} {nid:String} (kin:K.In g) (is:PySem.W.excIn K C tl nid=true):
 ∃(bm:List Value) (N:Addr) (nm qn:Str) (bs:List Value) (hd:Bool) (sn:List Str) (sub:List Value) (ab:Bool) (col:Option Bool) (dd:Option Addr) (k0 k1 k2 k3 k5:Option Value) (mN:Str->Option Value),
  g.get? C=some (excClassObj nm qn C N bs bm hd sn sub ab col dd k0 k1 k2 k3 k5 nid)/\g.Ns N mN/\mN "__init__"=none/\OwnTail g tl bm:=by
 unfold PySem.W.excIn at is
 split at is
 rotate_left
 ·cases is
 rename_i dd cd sl look
 split at is
 rotate_left
 ·cases is
 rename_i C1 bm k0 k1 k2 k3 n k5 em es
 simp only[Bool.and_eq_true,beq_iff_eq,Bool.not_eq_true'] at is
 obtain⟨⟨⟨⟨⟨i1,i2⟩,i3⟩,i4⟩,i5⟩,i6⟩:=is
 subst i1 i2
 cases cd with
 | mk nm bs mro ns qn hd sn sub ab col del=>
   dsimp only at em i3 i5 i6
   subst em i3
   have e:sl= #[k0,k1,k2,k3,some (.builtin n),k5]:=by
    cases sl
    simp only at es
    rw[es]
   subst e
   exact⟨bm,ns,nm,qn,bs,hd,sn,sub,ab,col,dd,k0,k1,k2,k3,k5,_,kin _ _ look,.of_isNs (PySem.W.isNs_of_in kin i5),PySem.W.nsMap_none_of_in kin i5 i6,PySem.W.tail_of_in kin i4⟩
section
variable {X:Cx} {E:XK} {x:Str} {C:Addr} {e0:Expr} {es:List Expr} {np cpos pos:Pos} {t:TA}
def o_N (C:Addr) (E:XK) (t:TA):TS:=λ_ σ H=>t σ H λvs H1=>vs.length<=sizeLine/\E (.ref C) none H1
theorem c_5 (hx:Exc X.K X.mg x C) (hr:l_U X E) (ha:PA X (e0::es) t) (hg:Gl X x:=by rfl) (hc:X.calm=true:=by rfl) (he:starEach (e0::es) X.env=(false,eval e0 X.env)::starEach es X.env:=by rfl)
 (hpl:(backTo cpos (starEach es X.env)).any (·.1)=false:=by rfl) (hd:(x == ("__debug__":Str))=false:=by decide):PS X (.Raise (some (.Call (.Name x np) (e0::es) [] cpos)) none pos) (o_N C E t):=by
 intro pins s σ H D I h
 obtain⟨bm,N,nm,qn,bs,hdc,sn,sub,ab,col,dd,k0,k1,k2,k3,k5,mN,hC,hN,hni,T⟩:=m_p I.ok.mod.kin hx.ok
 refine wpAny_Raise_call_subT (C:=C) (nm:=nm) (q:=qn) (N:=N) (bs:=bs) (bm:=bm) (hdct:=hdc) (sn:=sn) (sub:=sub) (ab:=ab) (col:=col) (dd:=dd) (k0:=k0) (k1:=k1) (k2:=k2) (k3:=k3) (k5:=k5)
  F.excBase_ValueError (mN:=mN) (T.hasType F.excBase_ValueError.hasBase) (I.ok.hd hc) (by rw[he];exact hpl) hni (c_P I hg hx.at_ ⟨rfl,?_⟩ hd)
 have h2:=ha cpos pins s σ H _ I h
 rw[he] at h2 ⊢
 refine Calls.evalArgs_plain (thn h2 λus s2 ⟨vs,H1,I1,r,z,q⟩=> ?_)
 exact⟨rfl,by rw[<-r.length];exact z,I1.bk _ _ hC,hN.keeps I1.bk,T.keeps I1.bk,λh' e hm=>hr pins σ H1 s2 h' e C us I1 hm q⟩
end
section
variable {X:Cx} {a b v:Expr} {c1 c2:Str} {tv:TE} {p pos:Pos}
def tFs (tv:TE):TE:=λσ H Q=>tv σ H λx H1=>∃n:Int,x= .int n/\n.natAbs.log2 < 1920/\∀y:Str,Q (.str y) H1
def tFr (tv:TE):TE:=λσ H Q=>tv σ H λx H1=>∃n:Str,x= .str n/\(PySem.reprText n).length<=1000/\∀y:Str,Q (.str y) H1
theorem i_Z {n:Int} (h:n.natAbs.log2 < 1920):(Str.ofString (toString n)).length<=1921:=by
 rw[PySem.ofString_length]
 exact int_text_length_le (by decide) h
theorem e_n {n:Nat} (h:n<=10000):n<=sizeLine:=r_x h (by decide)
theorem o_5 (ha:PE X a (tC (.str c1))) (hv:PE X v tv) (hb:PE X b (tC (.str c2))) (h1:c1.length<=1000) (h2:c2.length<=1000):PE X (.JoinedStr [a,.FormattedValue v (-1) none p,b] pos) (tFs tv):=by
 intro pins s σ H Q I h
 refine JoinedStr_many (joinParts_cons (thn (ha pins s σ H (λx H1=>x= .str c1/\H1=H) I ⟨rfl,rfl⟩) λu s1 ⟨x,H1,I1,r,ex,eH⟩=> ?_))
 subst ex eH
 obtain⟨t,rfl⟩:=r
 refine⟨e_n (by rw[strLen_append];show 0+_<=_;omega),joinParts_cons (FormattedValue_plain (thn (hv pins s1 σ H1 _ I1 h) λu s2 ⟨x,H2,I2,r,n,ex,hn,k⟩=> ?_))⟩
 subst ex
 obtain⟨t2,rfl⟩:=r
 have hl:=i_Z hn
 refine formatField_int_small hn ⟨e_n (by rw[strLen_append,strLen_append];show 0+_+_<=_;omega),joinParts_cons (thn (hb pins _ σ H2 (λx H1=>x= .str c2/\H1=H2) (I2.tok _) ⟨rfl,rfl⟩) λu s3 ⟨x,H3,I3,r,ex,eH⟩=> ?_)⟩
 subst ex eH
 obtain⟨t3,rfl⟩:=r
 have hz:∀z:Str,z.length<=10000->z.length<=sizeLine:=λz q=>e_n q
 refine⟨hz _ (by rw[strLen_append,strLen_append,strLen_append];show 0+_+_+_<=_;omega),joinParts_nil ⟨.str _,H3,I3.tok _,⟨_,rfl⟩,k _⟩ (hz _ (by rw[strLen_append,strLen_append,strLen_append];show 0+_+_+_<=_;omega))⟩
theorem o_7 (ha:PE X a (tC (.str c1))) (hv:PE X v tv) (h1:c1.length<=1000):PE X (.JoinedStr [a,.FormattedValue v (-1) none p] pos) (tFs tv):=by
 intro pins s σ H Q I h
 refine JoinedStr_many (joinParts_cons (thn (ha pins s σ H (λx H1=>x= .str c1/\H1=H) I ⟨rfl,rfl⟩) λu s1 ⟨x,H1,I1,r,ex,eH⟩=> ?_))
 subst ex eH
 obtain⟨t,rfl⟩:=r
 refine⟨e_n (by rw[strLen_append];show 0+_<=_;omega),joinParts_cons (FormattedValue_plain (thn (hv pins s1 σ H1 _ I1 h) λu s2 ⟨x,H2,I2,r,n,ex,hn,k⟩=> ?_))⟩
 subst ex
 obtain⟨t2,rfl⟩:=r
 have hl:=i_Z hn
 have hz:∀z:Str,z.length<=10000->z.length<=sizeLine:=λz q=>e_n q
 refine formatField_int_small hn ⟨hz _ (by rw[strLen_append,strLen_append];show 0+_+_<=_;omega),joinParts_nil ⟨.str _,H2,I2.tok _,⟨_,rfl⟩,k _⟩ (hz _ (by rw[strLen_append,strLen_append];show 0+_+_<=_;omega))⟩
theorem n_Z (ha:PE X a (tC (.str c1))) (hv:PE X v tv) (h1:c1.length<=1000):PE X (.JoinedStr [a,.FormattedValue v 114 none p] pos) (tFr tv):=by
 intro pins s σ H Q I h
 refine JoinedStr_many (joinParts_cons (thn (ha pins s σ H (λx H1=>x= .str c1/\H1=H) I ⟨rfl,rfl⟩) λu s1 ⟨x,H1,I1,r,ex,eH⟩=> ?_))
 subst ex eH
 obtain⟨t,rfl⟩:=r
 refine⟨e_n (by rw[strLen_append];show 0+_<=_;omega),joinParts_cons (wpAny_FormattedValue_repr (thn (hv pins s1 σ H1 _ I1 h) λu s2 ⟨x,H2,I2,r,n,ex,hn,k⟩=> ?_))⟩
 subst ex
 obtain⟨t2,rfl⟩:=r
 have hz:∀z:Str,z.length<=10000->z.length<=sizeLine:=λz q=>e_n q
 refine wpAny_pyReprObj_str (formatField_str (λt' tk=>⟨hz _ (by rw[strLen_append,strLen_append];show 0+_+_<=_;omega),joinParts_nil ⟨.str _,H2,I2.tok _,⟨_,rfl⟩,k _⟩ (hz _ (by rw[strLen_append,strLen_append];show 0+_+_<=_;omega))⟩) (hz _ (by omega))) (hz _ (by omega))
end
structure FlyB (P:Program) (w:World) (l:List Env) (H:Hp) (h:Heap) (a:Addr) (C:Value) (H':Hp) (h' B:Heap) (a0:Value):Prop where
 fl:Heap.FlyingW B l a C a0 h'
 hB:e_Y (frs l) H' h h' B
 un:Un (frs l) [] H H' h h'
 hok:HOk P w H' h'
theorem FlyB.on {P:Program} {w:World} {l:List Env} {H H':Hp} {h h' h2 B:Heap} {a:Addr} {C a0:Value} (F:FlyB P w l H h a C H' h' B a0) (f2:Heap.FlyingW B l a C a0 h2) (up:h'.UpToSlots h2) (hf:∀b∈frs l,H' b=none):
 FlyB P w l H h a C H' h2 B a0 where
 fl:=f2
 un:=o_b F.un F.hB f2.1 (h_F F.fl.2.2.1 up)
 hok:=m_a F.hok F.hB f2.1 hf
 hB:=λb o e hb hc=>by
  have hin:∃o',h'.get? b=some o':=by
   rcases hc with hc | ⟨o0,hc⟩
   ·cases q:H' b with
    | none=>exact absurd q hc
    | some u=>exact (F.hok b u q).there
   ·exact F.un.there b o0 hc (by simp)
  obtain⟨o',e'⟩:=hin
  have e2:=F.hB b o' e' hb hc
  rw[f2.1 b o' e2] at e
  cases e
  exact e2
def bot (X:Cx):St:=List.replicate X.N.length none
theorem Inv.dim {X:Cx} {pins:List (Addr×Obj)} {σ:St} {H:Hp} {s:Shared} (I:Inv X pins σ H s):Inv X pins (bot X) H s:=by
 obtain⟨m,hn,_⟩:=I.loc
 refine⟨I.ok,I.os,I.bare,I.base,⟨m,hn,λi x v _ h2 _=> ?_⟩,I.cell,I.free,I.freeC,I.pin,I.hok,by simp[bot]⟩
 unfold bot at h2
 rw[List.getElem?_replicate] at h2
 split at h2 <;> cases h2
abbrev Cx.pw (X:Cx) (pn:List (Addr×Obj)) (xe:Value->Shared->Prop):Cx:={ X with pn:=pn,xe:=xe }
theorem Cx.Ok.pw {X:Cx} (ok:X.Ok) (pn:List (Addr×Obj)) (xe:Value->Shared->Prop):(X.pw pn xe).Ok:=
 ⟨ok.mod,ok.kind,ok.glob,ok.blt,ok.above,ok.inj,ok.has,ok.cab,ok.hd,ok.frames,ok.stk,ok.exf,ok.bs,ok.bsz,ok.noex,ok.exfs,ok.funs,ok.frf⟩
theorem Cx.Ok.unpw {X:Cx} {pn:List (Addr×Obj)} {xe:Value->Shared->Prop} (ok:(X.pw pn xe).Ok):X.Ok:=
 ⟨ok.mod,ok.kind,ok.glob,ok.blt,ok.above,ok.inj,ok.has,ok.cab,ok.hd,ok.frames,ok.stk,ok.exf,ok.bs,ok.bsz,ok.noex,ok.exfs,ok.funs,ok.frf⟩
section
variable {X:Cx} {pins:List (Addr×Obj)} {σ:St} {H:Hp} {s:Shared} {xe:Value->Shared->Prop}
theorem Inv.pnIn (I:Inv X pins σ H s) (xe:Value->Shared->Prop):Inv (X.pw (X.pn++pins) xe) [] σ H s:=
 ⟨I.ok.pw _ _,I.os,I.bare,I.base,I.loc,I.cell,I.free,I.freeC,λp hp=>I.pin p (by simpa using hp),I.hok,I.len⟩
theorem Inv.pnOut {p2:List (Addr×Obj)} (I:Inv (X.pw (X.pn++pins) xe) p2 σ H s):Inv X pins σ H s:=
 ⟨I.ok.unpw,I.os,I.bare,I.base,I.loc,I.cell,I.free,I.freeC,λp hp=>I.pin p (r_L _ hp),I.hok,I.len⟩
theorem SP.pnOut {D:i_y} {f:Flow} {s':Shared} (h:SP (X.pw (X.pn++pins) xe) [] D f s'):SP X pins D f s':=by
 cases f with
 | next=>obtain⟨σ',H',I,q⟩:=h;exact⟨σ',H',I.pnOut,q⟩
 | brk=>obtain⟨σ',H',I,q⟩:=h;exact⟨σ',H',I.pnOut,q⟩
 | cont=>obtain⟨σ',H',I,q⟩:=h;exact⟨σ',H',I.pnOut,q⟩
 | ret u=>obtain⟨v,σ',H',I,r,q⟩:=h;exact⟨v,σ',H',I.pnOut,r,q⟩
abbrev Cx.hand (X:Cx) (e:Value):Cx:={ X with A:=X.A.mark (some e),calm:=false,xe:=λ_ _=>False }
theorem Inv.hand (I:Inv X pins σ H s) (e:Value):Inv (X.hand e) pins σ H s:=
 ⟨⟨I.ok.mod,I.ok.kind,I.ok.glob,I.ok.blt,I.ok.above,I.ok.inj,I.ok.has,I.ok.cab,λz=>(by cases z),I.ok.frames,I.ok.stk,I.ok.exf,I.ok.bs,I.ok.bsz,I.ok.noex,I.ok.exfs,I.ok.funs,I.ok.frf⟩,I.os,I.bare,I.base,I.loc,I.cell,I.free,I.freeC,I.pin,I.hok,I.len⟩
theorem Inv.unhand (ok:X.Ok) {e:Value} (I:Inv (X.hand e) pins σ H s):Inv X pins σ H s:=
 ⟨ok,I.os,I.bare,I.base,I.loc,I.cell,I.free,I.freeC,I.pin,I.hok,I.len⟩
theorem SP.unhand (ok:X.Ok) {e:Value} {D:i_y} {f:Flow} {s':Shared} (h:SP (X.hand e) pins D f s'):SP X pins D f s':=by
 cases f with
 | next=>obtain⟨σ',H',I,q⟩:=h;exact⟨σ',H',I.unhand ok,q⟩
 | brk=>obtain⟨σ',H',I,q⟩:=h;exact⟨σ',H',I.unhand ok,q⟩
 | cont=>obtain⟨σ',H',I,q⟩:=h;exact⟨σ',H',I.unhand ok,q⟩
 | ret u=>obtain⟨v,σ',H',I,r,q⟩:=h;exact⟨v,σ',H',I.unhand ok,r,q⟩
end
inductive PH (X:Cx):List ExceptHandler->List (Addr×TS)->Prop
 | nil:PH X [] []
 | cons {x:Str} {C:Addr} {np pos:Pos} {b0:Stmt} {suite:List Stmt} {e_B:List ExceptHandler} {t:TS} {cl:List (Addr×TS)}:Gl X x→X.mg x=some (.ref C)→(x == ("__debug__":Str))=false→
    (∀e,PSs (X.hand e) (b0::suite) t)->PH X e_B cl->PH X (.ExceptHandler (some (.Name x np)) none (b0::suite) pos::e_B) ((C,t)::cl)
def k_6 (K:PySem.W.Frag) (c:Value) (D:i_y) (σ:St) (H:Hp):List (Addr×TS)->Prop
 | []=>False
 | (C,t)::r=>(PySem.W.exmOne K c (.ref C)=some true/\t D σ H)\/(PySem.W.exmOne K c (.ref C)=some false/\k_6 K c D σ H r)
theorem h_l {X:Cx} {pins:List (Addr×Obj)} {σ:St} {H1 H:Hp} {s1:Shared} {a:Addr} {C a0:Value} {B:Heap} {D:i_y} (I1:Inv X pins σ H1 s1):
 ∀{hs:List ExceptHandler} {cl:List (Addr×TS)},PH X hs cl->∀{s:Shared},s.os=s1.os->AllBare s.gens->FlyB X.prog X.w X.stack H1 s1.heap a C H s.heap B a0->k_6 X.K C D σ H cl->
  wpAny (model X.prog X.w) X.A (handleBy (.ref a) X.env hs) (SP X pins D) X.xe s
 | _,_,.nil,s,_,_,_,h=>False.elim h
 | _,_,.cons (C:=C') hg hm hd hs hr,s,os,bare,F,h=>by
   have J:=I1.call' os F.un F.hok bare o_P
   obtain⟨oe,he,hc⟩:=F.fl.there
   have LT:PySem.W.Looks (model X.prog X.w) s.heap (typeOf (.ref a)) C:=by
    rw[<-hc]
    exact (PySem.W.Looks.ld he).andThen .now
   refine wpAny_handleBy_cons (codeAny_handlers_test (c_P (X:=X.hand (.ref a)) (J.hand _) hg hm ?_ hd)) (by intro q;cases q)
   rcases h with⟨hx,h⟩ | ⟨hx,h⟩
   ·refine (PySem.W.exm_one J.kIn LT hx).here ?_
    refine codeAny_handlers_suite (wpAny_setFlight_noneW F.fl.1 F.fl.2.2.1 F.fl.2.2.2.at λh2 k1 k2 k3 k4=> ?_)
    have F2:=F.on ⟨k1,F.fl.2.1,k2,k3⟩ (λb o hb hn=>⟨o.slots,k4 b o hb hn⟩) J.stkFree
    have J2:Inv X pins σ H { s with heap:=h2 }:=I1.call' (s':={ s with heap:=h2 }) os F2.un F2.hok bare o_P
    exact wpAny_mono (hs (.ref a) pins _ σ H D (J2.hand _) h) (λf s2 q=>q.unhand I1.ok) λ_ _ z=>False.elim z
   ·refine (PySem.W.exm_one J.kIn LT hx).here ?_
    exact h_l I1 hr os bare F h
def q_4 (tb:XK->TS) (K:PySem.W.Frag) (X:Cx) (cl:List (Addr×TS)):TS:=λD σ H=>tb (λc _ H'=>k_6 K c D (bot X) H' cl) D σ H
theorem o_q {X:Cx} {body:List Stmt} {h0:ExceptHandler} {hs:List ExceptHandler} {pos:Pos} {tb:XK->TS} {cl:List (Addr×TS)} (hp:PH X (h0::hs) cl)
 (hb:∀(pn:List (Addr×Obj)) (xe:Value->Shared->Prop) (E:XK),c_m (CXR X.prog X.w) (X.pw pn xe) E->PSs (X.pw pn xe) body (tb E)) (hst:X.stack=X.env::X.outer:=by rfl) (hfr:X.env.frame=some X.env.locals:=by rfl):
 PS X (.Try body (h0::hs) [] [] pos) (q_4 tb X.K X cl):=by
 intro pins s σ H D I h
 refine wpAny_Try_except ?_
 refine wpAny_mono (hb (X.pn++pins) (λe s₁=>wpAny (model X.prog X.w) X.A (noteFrame e X.env) (λ_ s₂=>wpAny (model X.prog X.w) X.A (setFlight e none) (λ_ s₃=>wpAny (model X.prog X.w) X.A (handleBy e X.env (h0::hs)) (SP X pins D) X.xe s₃) X.xe s₂) X.xe s₁)
  (λc _ H'=>k_6 X.K c D (bot X) H' cl) ?_ [] s σ H D (I.pnIn _) h) (λf s1 q=> ?_) λ_ _ z=>z
 ·rintro p2 σ' H1 s1 e s' I1 ⟨a,C,H',rfl,os,bare,F,q⟩
  have I2:Inv X pins (bot X) H1 s1:=Inv.dim (Inv.pnOut I1)
  obtain⟨B,a0,fl,hB⟩:=F.fly
  have F1:FlyB X.prog X.w X.stack H1 s1.heap a (.ref C) H' s'.heap B a0:=⟨fl,hB,F.un,F.hok⟩
  have J:=I2.call' os F1.un F1.hok bare o_P
  have fl1:=F1.fl
  rw[hst] at fl1
  refine wpAny_looks_onW (outer:=X.outer) (by rw[<-hst];exact I2.ok.frames) hfr fl1 λh2 held up=> ?_
  refine wpAny_landsW held λh3 fl3 up3=> ?_
  rw[<-hst] at fl3
  exact h_l (s:={ s' with heap:=h3 }) I2 hp os bare (F1.on fl3 (up.trans up3) J.stkFree) q
 ·have q2:=q.pnOut
  cases f with
  | next=>exact wpAny_execs_nil q2
  | brk=>exact q2
  | cont=>exact q2
  | ret u=>exact q2
end L2
namespace TO
open PySem L2
def a_L:List Addr->List Row->List (Key×V)
 | r::rs,ρ::l=>(Sum.inl ρ.n,V.ref r)::a_L rs l
 | _,_=> []
def KeptAt (H:Hp) (d:Addr) (l:List Row):Prop:=∃rs:List Addr,H d=some (.dK (a_L rs l))/\RowsAt H rs l
theorem c_O {H:Hp}:∀{rs:List Addr} {l:List Row},RowsAt H rs l->(a_L rs l).length=l.length
 | _,_,.nil=>rfl
 | _,_,.cons _ t=>by simp only[a_L,r_i,c_O t]
theorem b_U {H:Hp} {n:Int}:∀{rs:List Addr} {l:List Row},RowsAt H rs l->(d_u (a_L rs l) (Sum.inl n)).isSome=b_s l n/\(b_s l n=true->∃r ρ,d_u (a_L rs l) (Sum.inl n)=some (V.ref r)/\c_V l n=some ρ/\RowAt H r ρ/\r∈rs)
 | _,_,.nil=>⟨rfl,λh=>by cases h⟩
 | r::rs,ρ::l,.cons h t=>by
   obtain⟨i1,i2⟩:=b_U (n:=n) t
   by_cases e:ρ.n=n
   ·have ek:((Sum.inl ρ.n,V.ref r):Key×V).1=Sum.inl n:=by rw[e]
    refine⟨?_, λ_=>⟨r,ρ,?_, ?_, h,r_g ..⟩⟩
    ·simp only[a_L];rw[b_O ek];simp[b_s,e]
    ·simp only[a_L];rw[b_O ek]
    ·simp[c_V,e]
   ·have ek:¬ ((Sum.inl ρ.n,V.ref r):Key×V).1=Sum.inl n:=λq=>e (by injection q)
    have eh:b_s (ρ::l) n=b_s l n:=by simp[b_s,e]
    refine⟨?_, λq=> ?_⟩
    ·simp only[a_L];rw[b_q ek,i1,eh]
    ·rw[eh] at q
     obtain⟨r',ρ',h1,h2,h3,h4⟩:=i2 q
     refine⟨r',ρ',?_, ?_, h3,r_f _ h4⟩
     ·simp only[a_L];rw[b_q ek];exact h1
     ·simp only[c_V,List.find?_cons,r_T e];exact h2
theorem g_1 {H:Hp} {r:Addr} {ρ:Row} (hr:RowAt H r ρ) {rs:List Addr} {l:List Row} (h:RowsAt H rs l):∃rs',d_k (a_L rs l) (Sum.inl ρ.n) (V.ref r)=a_L rs' (c_e l ρ)/\RowsAt H rs' (c_e l ρ):=by
 have hv:=(b_U (n:=ρ.n) h).1
 unfold c_e
 by_cases c:b_s l ρ.n=true
 ·rw[if_pos c]
  have hany:((a_L rs l).any λkv=>decide (kv.1=Sum.inl ρ.n))=true:=by rw[d_G,hv,c]
  have aux:∀{rs:List Addr} {l:List Row},RowsAt H rs l->∃rs',((a_L rs l).map λkv=>if kv.1=Sum.inl ρ.n then (kv.1,V.ref r) else kv)=a_L rs' (l.map λx=>if x.n=ρ.n then ρ else x)/\RowsAt H rs' (l.map λx=>if x.n=ρ.n then ρ else x):=by
   intro rs l h
   induction h with
   | nil=>exact⟨[],rfl,.nil⟩
   | cons h t ih=>
     rename_i r0 ρ0 rs l
     obtain⟨rs',e1,e2⟩:=ih
     by_cases e:ρ0.n=ρ.n
     ·refine⟨r::rs',?_, ?_⟩
      ·simp only[a_L,r_r,e,if_true,e1]
      ·simp only[r_r,e,if_true];exact .cons hr e2
     ·have ek:¬ ((Sum.inl ρ0.n:Key)=Sum.inl ρ.n):=λq=>e (by injection q)
      refine⟨r0::rs',?_, ?_⟩
      ·simp only[a_L,r_r,if_neg ek,if_neg e,e1]
      ·simp only[r_r,if_neg e];exact .cons h e2
  obtain⟨rs',e1,e2⟩:=aux h
  refine⟨rs',?_, e2⟩
  unfold d_k
  rw[if_pos hany]
  exact e1
 ·rw[if_neg c]
  have hn:d_u (a_L rs l) (Sum.inl ρ.n)=none:=by
   cases e:d_u (a_L rs l) (Sum.inl ρ.n) with
   | none=>rfl
   | some u=>rw[e] at hv;exact absurd hv.symm c
  have aux:∀{rs:List Addr} {l:List Row},RowsAt H rs l->a_L rs l++ [(Sum.inl ρ.n,V.ref r)]=a_L (rs++ [r]) (l++ [ρ]):=by
   intro rs l h
   induction h with
   | nil=>rfl
   | cons h t ih=>simp only[a_L,List.cons_append,ih]
  exact⟨rs++ [r],(d_O _ hn).trans (aux h),RowsAt.app h (.cons hr .nil)⟩
theorem f_d {H:Hp} {n:Int}:∀{rs:List Addr} {l:List Row},RowsAt H rs l->∃rs',d_s (a_L rs l) (Sum.inl n)=a_L rs' (b_a l n)/\RowsAt H rs' (b_a l n)
 | _,_,.nil=>⟨[],rfl,.nil⟩
 | r::rs,ρ::l,.cons h t=>by
   obtain⟨rs',e1,e2⟩:=f_d (n:=n) t
   by_cases e:ρ.n=n
   ·refine⟨rs',?_, ?_⟩
    ·simp only[a_L,d_s,b_a,r_B,e] at e1 ⊢;simpa using e1
    ·simp only[b_a,r_B,e] at e2 ⊢;simpa using e2
   ·have ek:¬ ((Sum.inl ρ.n:Key)=Sum.inl n):=λq=>e (by injection q)
    refine⟨r::rs',?_, ?_⟩
    ·simp only[a_L,d_s,b_a,r_B] at e1 ⊢
     simp only[ek,e,ne_eq,not_false_eq_true,decide_true,if_true,a_L,e1]
    ·simp only[b_a,r_B,e,ne_eq,not_false_eq_true,decide_true,if_true] at e2 ⊢
     exact .cons h e2
theorem _root_.K1.KeptAt.same {H H':Hp} {d:Addr} {l:List Row} (h:KeptAt H d l) (s:Same H H'):KeptAt H' d l:=by
 obtain⟨rs,h1,h2⟩:=h
 exact⟨rs,s _ _ h1,h2.same λb xs q=>s _ _ q⟩
theorem _root_.K1.KeptAt.but {H H':Hp} {d kd:Addr} {l:List Row} {kvs:List (Key×V)} (h:KeptAt H d l) (hk:H kd=some (.dK kvs)) (hn:d≠kd) (s:∀b u,H b=some u->b≠kd->H' b=some u):KeptAt H' d l:=by
 obtain⟨rs,h1,h2⟩:=h
 exact⟨rs,s _ _ h1 hn,h2.same λb xs q=>s _ _ q λe=>by rw[e,hk] at q;cases q⟩
abbrev a_Y:=Option Row×Option Row
def b_y (l:List Row):Option Row->List Row
 | some ρ=>b_a l ρ.n
 | none=>l
def p_R (l:List Row):Option Row->List Row
 | some ρ=>c_e l ρ
 | none=>l
def d_1 (l:List Row) (p:a_Y):List Row:=p_R (b_y l p.1) p.2
structure StepOk (l:List Row) (p:a_Y):Prop where
 out:∀ρ,p.1=some ρ->ρ∈l
 inn:∀ρ,p.2=some ρ->b_s (b_y l p.1) ρ.n=false
abbrev b_7 (l:List Row):Prop:=(l.map (·.n)).Nodup
theorem b_H {l:List Row} {n:Int}:b_s l n=false↔∀x∈l,x.n≠n:=by
 constructor
 ·intro h x hx e
  have:b_s l n=true:=b_v.mpr ⟨x,hx,e⟩
  rw[h] at this;cases this
 ·intro h
  cases e:b_s l n with
  | false=>rfl
  | true=>
    obtain⟨x,hx,ex⟩:=b_v.mp e
    exact absurd ex (h x hx)
theorem b_B {l l':List Row} (p:l.Perm l') (n:Int):b_s l n=b_s l' n:=by
 cases e:b_s l' n with
 | true=>obtain⟨x,hx,ex⟩:=b_v.mp e;exact b_v.mpr ⟨x,p.mem_iff.mpr hx,ex⟩
 | false=>exact b_H.mpr λx hx=>b_H.mp e x (p.mem_iff.mp hx)
theorem b_S {l:List Row} {ρ:Row} (h:b_s l ρ.n=false):c_e l ρ=l++ [ρ]:=by
 unfold c_e
 rw[if_neg (by rw[h];simp)]
theorem e_I {l l':List Row} (p:l.Perm l') (n:Int):(b_a l n).Perm (b_a l' n):=p.filter _
theorem e_O {l l':List Row} (p:l.Perm l') (o:Option Row):(b_y l o).Perm (b_y l' o):=by
 cases o with
 | none=>exact p
 | some ρ=>exact e_I p _
theorem j_o {l l':List Row} {p:a_Y} (h:StepOk l p) (q:l.Perm l'):(d_1 l p).Perm (d_1 l' p):=by
 have q1:=e_O q p.1
 unfold d_1
 cases e:p.2 with
 | none=>exact q1
 | some ρ=>
   have h1:=h.inn ρ e
   have h2:=h1
   rw[b_B q1] at h2
   show (c_e _ ρ).Perm (c_e _ ρ)
   rw[b_S h1,b_S h2]
   exact q1.append_right _
theorem StepOk.perm {l l':List Row} {p:a_Y} (h:StepOk l p) (q:l.Perm l'):StepOk l' p:=
 ⟨λρ e=>q.mem_iff.mp (h.out ρ e),λρ e=>by rw[<-b_B (e_O q p.1)];exact h.inn ρ e⟩
theorem b_K {l l':List Row} (q:l.Perm l') (h:b_7 l):b_7 l':=(q.map _).nodup_iff.mp h
theorem c_D {l:List Row} (h:b_7 l) (o:Option Row):b_7 (b_y l o):=by
 cases o with
 | none=>exact h
 | some ρ=>exact e_R h
theorem g_i {l:List Row} (h:b_7 l) (p:a_Y):b_7 (d_1 l p):=by
 unfold d_1 p_R
 cases p.2 with
 | none=>exact c_D h _
 | some ρ=>exact f_Y (c_D h _)
theorem i_G {l:List Row} (h:b_7 l) {x y:Row} (hx:x∈l) (hy:y∈l) (e:x.n=y.n):x=y:=by
 induction l with
 | nil=>cases hx
 | cons a r ih=>
   rw[b_7,r_r,r_G] at h
   rcases r_n.mp hx with ex | ex <;> rcases r_n.mp hy with ey | ey
   ·rw[ex,ey]
   ·exact absurd (r_H.mpr ⟨y,ey,by rw[<-e,ex]⟩) h.1
   ·exact absurd (r_H.mpr ⟨x,ex,by rw[e,ey]⟩) h.1
   ·exact ih h.2 ex ey
theorem d_n {l:List Row} (h:b_7 l) {ρ:Row} (hm:ρ∈l):l.Perm (ρ::b_a l ρ.n):=by
 induction l with
 | nil=>cases hm
 | cons a r ih=>
   rw[b_7,r_r,r_G] at h
   by_cases e:a.n=ρ.n
   ·have ea:a=ρ:=i_G (l:=a::r) (by rw[b_7,r_r,r_G];exact h) (r_g ..) hm e
    subst ea
    have:b_a (a::r) a.n=r:=by
     unfold b_a
     rw[r_B,if_neg (by simp)]
     exact List.filter_eq_self.mpr λx hx=>r_S λq=>h.1 (r_H.mpr ⟨x,hx,q⟩)
    rw[this]
   ·have hm':ρ∈r:=by
     rcases r_n.mp hm with q | q
     ·exact absurd (by rw[q]) e
     ·exact q
    have:b_a (a::r) ρ.n=a::b_a r ρ.n:=by
     unfold b_a
     rw[r_B,if_pos (r_S e)]
    rw[this]
    exact ((ih h.2 hm').cons a).trans (.swap ρ a _)
theorem l_B {l:List Row} {n:Int} (h:b_s l n=false):b_a l n=l:=List.filter_eq_self.mpr λx hx=>r_S (b_H.mp h x hx)
theorem e_i (l:List Row) (n:Int):b_s (b_a l n) n=false:=b_H.mpr λx hx=>by
 have:=(List.mem_filter.mp hx).2
 exact r_U this
theorem j_G {l:List Row} {p:a_Y} (h:b_7 l) (k:StepOk l p):StepOk (d_1 l p) (p.2,p.1)/\(d_1 (d_1 l p) (p.2,p.1)).Perm l:=by
 obtain⟨a,b⟩:=p
 have h1:b_7 (b_y l a):=c_D h a
 have hb:∀ρ,b=some ρ->b_s (b_y l a) ρ.n=false:=k.inn
 have e1:(b_y (d_1 l (a,b)) b).Perm (b_y l a):=by
  unfold d_1
  cases b with
  | none=>exact .refl _
  | some ρ=>
    have q:=hb ρ rfl
    show (b_a (c_e (b_y l a) ρ) ρ.n).Perm _
    rw[b_S q]
    have:b_a (b_y l a++ [ρ]) ρ.n=b_a (b_y l a) ρ.n:=by
     unfold b_a
     rw[List.filter_append]
     simp
    rw[this,l_B q]
 have e2:∀ρ,a=some ρ->b_s (b_y (d_1 l (a,b)) b) ρ.n=false:=λρ e=>by
  rw[b_B e1]
  subst e
  exact e_i _ _
 refine⟨⟨λρ e=> ?_, e2⟩,?_⟩
 ·have e':b=some ρ:=e
  subst e'
  unfold d_1
  show ρ∈c_e (b_y l a) ρ
  rw[b_S (hb ρ rfl)]
  simp
 ·show (p_R (b_y (d_1 l (a,b)) b) a).Perm l
  cases a with
  | none=>exact e1
  | some ρ=>
    show (c_e _ ρ).Perm l
    rw[b_S (e2 ρ rfl)]
    refine (e1.append_right [ρ]).trans ?_
    refine (List.perm_append_singleton ρ _).trans ?_
    exact (d_n h (k.out ρ rfl)).symm
theorem h_I (l:List Row) (o:Option Row):(b_y l o).length<=l.length:=by
 cases o with
 | none=>exact r_l _
 | some ρ=>exact r_N _ _
theorem n_Q {l:List Row} {p:a_Y} (k:StepOk l p):(d_1 l p).length<=l.length+1:=by
 have h:=h_I l p.1
 unfold d_1
 cases e:p.2 with
 | none=>exact r_x h (Nat.le_succ _)
 | some ρ=>
   show (c_e _ ρ).length<=_
   rw[b_S (k.inn ρ e),r_e]
   simp only[r_i,r_M]
   omega
inductive Hs (N:Nat):List Row->List a_Y->List Nat->List (List Row)->Prop
 | nil {l:List Row}:l.length<=N->b_7 l->Hs N l [] [] []
 | mark {l k:List Row} {st:List a_Y} {ms:List Nat} {ks:List (List Row)}:k.Perm l->Hs N l st ms ks->Hs N l st (st.length::ms) (k::ks)
 | step {l l':List Row} {p:a_Y} {st:List a_Y} {ms:List Nat} {ks:List (List Row)}:ms≠ []->StepOk l p->l'.Perm (d_1 l p)->l'.length<=N->Hs N l st ms ks->Hs N l' (p::st) ms ks
theorem Hs.nums {N:Nat} {l:List Row} {st:List a_Y} {ms:List Nat} {ks:List (List Row)} (h:Hs N l st ms ks):b_7 l:=by
 induction h with
 | nil _ q=>exact q
 | mark _ _ ih=>exact ih
 | step _ k q _ _ ih=>exact b_K q.symm (g_i ih _)
theorem Hs.le {N:Nat} {l:List Row} {st:List a_Y} {ms:List Nat} {ks:List (List Row)} (h:Hs N l st ms ks):l.length<=N:=by
 induction h with
 | nil q _=>exact q
 | mark _ _ ih=>exact ih
 | step _ _ _ q _ _=>exact q
theorem Hs.mono {N M:Nat} (hM:N<=M) {l:List Row} {st:List a_Y} {ms:List Nat} {ks:List (List Row)} (h:Hs N l st ms ks):Hs M l st ms ks:=by
 induction h with
 | nil q n=>exact .nil (r_x q hM) n
 | mark p _ ih=>exact .mark p ih
 | step a b c d _ ih=>exact .step a b c (r_x d hM) ih
theorem Hs.perm {N:Nat} {l l':List Row} {st:List a_Y} {ms:List Nat} {ks:List (List Row)} (h:Hs N l st ms ks) (q:l.Perm l'):Hs N l' st ms ks:=by
 induction h generalizing l' with
 | nil a n=>exact .nil (by rw[<-q.length_eq];exact a) (b_K q n)
 | mark p _ ih=>exact .mark (p.trans q) (ih q)
 | step a b c d e _=>exact .step a b (q.symm.trans c) (by rw[<-q.length_eq];exact d) e
theorem Hs.lens {N:Nat} {l:List Row} {st:List a_Y} {ms:List Nat} {ks:List (List Row)} (h:Hs N l st ms ks):ms.length=ks.length:=by
 induction h with
 | nil _ _=>rfl
 | mark _ _ ih=>simp[ih]
 | step _ _ _ _ _ ih=>exact ih
theorem Hs.none {N:Nat} {l:List Row} {st:List a_Y} {ks:List (List Row)} (h:Hs N l st [] ks):st= []/\ks= []:=by
 cases h with
 | nil _ _=>exact⟨rfl,rfl⟩
 | step a _ _ _ _=>exact absurd rfl a
theorem Hs.mle {N:Nat}:∀{l:List Row} {st:List a_Y} {ms:List Nat} {ks:List (List Row)},Hs N l st ms ks->∀m∈ms,m<=st.length
 | _,_,_,_,.nil _ _,m,hm=>by cases hm
 | _,_,_,_,.mark _ h,m,hm=>by
   rcases r_n.mp hm with e | e
   ·rw[e];exact r_l _
   ·exact h.mle m e
 | _,_,_,_,.step _ _ _ _ h,m,hm=>Nat.le_succ_of_le (h.mle m hm)
theorem Hs.keep {N:Nat} {m:Nat} {k:List Row} {ms:List Nat} {ks:List (List Row)} (hn:ms≠ []):∀{l:List Row} {st:List a_Y},Hs N l st (m::ms) (k::ks)->Hs N l st ms ks
 | _,_,.mark _ h=>h
 | _,_,.step a b c d h=> .step hn b c d (Hs.keep hn h)
theorem Hs.back {N:Nat} {m:Nat} {k l:List Row} {p:a_Y} {st:List a_Y} {ms:List Nat} {ks:List (List Row)} (h:Hs N l (p::st) (m::ms) (k::ks)) (hm:m<=st.length):
 StepOk l (p.2,p.1)/\Hs N (d_1 l (p.2,p.1)) st (m::ms) (k::ks):=by
 cases h with
 | mark p2 h2=>exact absurd hm (by simp)
 | step a b c d h2=>
   obtain⟨q1,q2⟩:=j_G h2.nums b
   have q3:=q1.perm c.symm
   exact⟨q3,h2.perm (q2.symm.trans (j_o q1 c.symm))⟩
theorem Hs.at {N:Nat} {m:Nat} {k l:List Row} {st:List a_Y} {ms:List Nat} {ks:List (List Row)} (h:Hs N l st (m::ms) (k::ks)) (hm:st.length<=m):k.Perm l/\Hs N l st ms ks:=by
 cases h with
 | mark p h2=>exact⟨p,h2⟩
 | step a b c d h2=>
   have:=h2.mle m (r_g ..)
   simp only[r_i] at hm
   omega
theorem c_I {l:List Row} {n:Int} (h:b_s l n=true):∃ρ,c_V l n=some ρ/\ρ∈l/\ρ.n=n:=by
 unfold c_V
 cases e:l.find? λx=>decide (x.n=n) with
 | none=>
   obtain⟨x,hx,ex⟩:=b_v.mp h
   exact absurd (List.find?_eq_none.mp e x hx) (by simp[ex])
 | some ρ=>
   have h1:=List.find?_some e
   exact⟨ρ,rfl,List.mem_of_find?_eq_some e,by simpa using h1⟩
theorem b_I {l:List Row} {n:Int} (h:b_s l n=false):c_V l n=none:=by
 unfold c_V
 exact List.find?_eq_none.mpr λx hx=>by simpa using b_H.mp h x hx
theorem h_w {l:List Row} (hl:b_7 l) {ρ:Row} (hm:ρ∈l):c_V l ρ.n=some ρ:=by
 obtain⟨x,h1,h2,h3⟩:=c_I (b_v.mpr ⟨ρ,hm,rfl⟩)
 rw[h1,i_G hl h2 hm h3]
theorem e_W {l l':List Row} (hl:b_7 l) (p:l.Perm l') (n:Int):c_V l n=c_V l' n:=by
 cases e:b_s l n with
 | true=>
   obtain⟨x,h1,h2,h3⟩:=c_I e
   rw[h1,<-h3]
   exact (h_w (b_K p hl) (p.mem_iff.mp h2)).symm
 | false=>
   rw[b_I e,b_I (by rw[<-b_B p];exact e)]
theorem k_C {l:List Row} {ρ:Row} (h:b_s l ρ.n=false):StepOk l (none,some ρ):=⟨λ_ e=>(by cases e),λx e=>(by cases e;exact h)⟩
theorem l_y {l:List Row} {ρ κ:Row} (h:κ∈l) (e:κ.n=ρ.n):StepOk l (some κ,some ρ):=⟨λ_ q=>(by cases q;exact h),λx q=>by cases q;show b_s (b_a l κ.n) ρ.n=false;rw[<-e];exact e_i _ _⟩
theorem p_b {l:List Row} {κ:Row} (h:κ∈l):StepOk l (some κ,none):=⟨λ_ q=>(by cases q;exact h),λx q=>by cases q⟩
theorem k_1 {l:List Row} (hl:b_7 l) {ρ κ:Row} (h:κ∈l) (e:κ.n=ρ.n):(d_1 l (some κ,some ρ)).Perm (c_e l ρ):=by
 show (c_e (b_a l κ.n) ρ).Perm _
 rw[b_S (by rw[<-e];exact e_i _ _)]
 refine (List.perm_append_singleton ρ _).trans ?_
 have hh:b_s l ρ.n=true:=b_v.mpr ⟨κ,h,e⟩
 unfold c_e
 rw[if_pos hh,e]
 clear hh
 induction l with
 | nil=>cases h
 | cons a r ih=>
   have hl':=hl
   rw[b_7,r_r,r_G] at hl
   by_cases q:a.n=ρ.n
   ·have hr:∀x∈r,x.n≠ρ.n:=λx hx z=>hl.1 (r_H.mpr ⟨x,hx,z.trans q.symm⟩)
    have e1:b_a (a::r) ρ.n=r:=by
     unfold b_a
     rw[r_B,if_neg (by simp[q])]
     exact List.filter_eq_self.mpr λx hx=>r_S (hr x hx)
    have e2:(r.map λx=>if x.n=ρ.n then ρ else x)=r:=by
     conv=>rhs;rw[<-List.map_id r]
     exact List.map_congr_left λx hx=>by rw[if_neg (hr x hx)];rfl
    rw[e1,r_r,if_pos q,e2]
   ·have hm:κ∈r:=by
     rcases r_n.mp h with z | z
     ·exact absurd (by rw[<-z];exact e) q
     ·exact z
    have e1:b_a (a::r) ρ.n=a::b_a r ρ.n:=by
     unfold b_a
     rw[r_B,if_pos (r_S q)]
    rw[e1,r_r,if_neg q]
    exact (List.Perm.swap a ρ _).trans ((ih hl.2 hm).cons a)
theorem f_C {l l':List Row} (p:l.Perm l') (ρ:Row):(c_e l ρ).Perm (c_e l' ρ):=by
 unfold c_e
 rw[b_B p]
 split
 ·exact p.map _
 ·exact p.append_right _
end TO
namespace K1
open PySem L2 TO
theorem n_e {X:Cx} {st:Stmt} {t t':TS} (h:PS X st t) (hw:∀D σ H,t' D σ H->t D σ H):PS X st t':=λpins s σ H D I q=>h pins s σ H D I (hw D σ H q)
def b_6 (room:Int) (nb o1 o2 sl ml:Addr):List (Str×V):= [("room",.int room),("by_number",.ref nb),("by_rank",.ref o1),("by_text",.ref o2),("steps",.ref sl),("marks",.ref ml)]
theorem e_Q {k:Str} {v:V} {r:List (Str×V)}:((k,v)::r).lookup k=some v:=by simp[List.lookup]
theorem a_0 {m k:Str} {v:V} {r:List (Str×V)} (h:¬ m=k):((k,v)::r).lookup m=r.lookup m:=by
 simp only[List.lookup,beq_eq_false_iff_ne.mpr h]
section
variable {room:Int} {nb o1 o2 sl ml:Addr}
theorem n_H:(b_6 room nb o1 o2 sl ml).lookup ("room":Str)=some (.int room):=e_Q
theorem e_H:(b_6 room nb o1 o2 sl ml).lookup ("by_number":Str)=some (.ref nb):=(a_0 (by decide+kernel)).trans e_Q
theorem f_s:(b_6 room nb o1 o2 sl ml).lookup ("by_rank":Str)=some (.ref o1):=(a_0 (by decide+kernel)).trans ((a_0 (by decide+kernel)).trans e_Q)
theorem e_b:(b_6 room nb o1 o2 sl ml).lookup ("by_text":Str)=some (.ref o2):=(a_0 (by decide+kernel)).trans ((a_0 (by decide+kernel)).trans ((a_0 (by decide+kernel)).trans e_Q))
theorem d_N:(b_6 room nb o1 o2 sl ml).lookup ("steps":Str)=some (.ref sl):=(a_0 (by decide+kernel)).trans ((a_0 (by decide+kernel)).trans ((a_0 (by decide+kernel)).trans ((a_0 (by decide+kernel)).trans e_Q)))
theorem d_j:(b_6 room nb o1 o2 sl ml).lookup ("marks":Str)=some (.ref ml):=(a_0 (by decide+kernel)).trans ((a_0 (by decide+kernel)).trans ((a_0 (by decide+kernel)).trans ((a_0 (by decide+kernel)).trans ((a_0 (by decide+kernel)).trans e_Q))))
theorem d_o {m:Str} (h1:¬ m="room") (h2:¬ m="by_number") (h3:¬ m="by_rank") (h4:¬ m="by_text") (h5:¬ m="steps") (h6:¬ m="marks"):(b_6 room nb o1 o2 sl ml).lookup m=none:=
 (a_0 h1).trans ((a_0 h2).trans ((a_0 h3).trans ((a_0 h4).trans ((a_0 h5).trans (a_0 h6)))))
theorem a_5 {f g:Str} {v x:V} {r:List (Str×V)} (h:¬ g=f):d_m f v ((g,x)::r)=(g,x)::d_m f v r:=if_neg h
theorem m_u {f:Str} {v x:V} {r:List (Str×V)}:d_m f v ((f,x)::r)=(f,v)::r:=if_pos rfl
theorem o_l (sl':Addr):d_m ("steps":Str) (.ref sl') (b_6 room nb o1 o2 sl ml)=b_6 room nb o1 o2 sl' ml:=by
 unfold b_6
 rw[a_5 (by decide+kernel),a_5 (by decide+kernel),a_5 (by decide+kernel),a_5 (by decide+kernel),m_u]
end
structure Ads where
 o:Addr
 dx:Addr
 nb:Addr
 o1:Addr
 o2:Addr
 sl:Addr
 ml:Addr
 bl1:Addr
 bl2:Addr
 bas1:List Addr
 bas2:List Addr
 sas:List Addr
def Ads.ls (A:Ads):List Addr:=A.sl::A.ml::(A.bl1::A.bas1++A.bl2::A.bas2)
def Ads.fp (A:Ads):List Addr:=A.o::A.nb::A.ls
def OptAt (H:Hp) (v:V):Option Row->Prop
 | none=>v= .non
 | some ρ=>∃r,v= .ref r/\RowAt H r ρ
def StepAt (H:Hp) (a:Addr) (p:a_Y):Prop:=∃u v,H a=some (.tup [u,v])/\OptAt H u p.1/\OptAt H v p.2
abbrev a_R (H H':Hp):Prop:=∀b xs,H b=some (.tup xs)->H' b=some (.tup xs)
theorem OptAt.tk {H H':Hp} (t:a_R H H') {v:V} {o:Option Row} (h:OptAt H v o):OptAt H' v o:=by
 cases o with
 | none=>exact h
 | some ρ=>obtain⟨r,h1,h2⟩:=h;exact⟨r,h1,t _ _ h2⟩
theorem StepAt.tk {H H':Hp} (t:a_R H H') {a:Addr} {p:a_Y} (h:StepAt H a p):StepAt H' a p:=by
 obtain⟨u,v,h1,h2,h3⟩:=h
 exact⟨u,v,t _ _ h1,h2.tk t,h3.tk t⟩
theorem b_9 {H H':Hp} (t:a_R H H'):∀{as:List Addr} {ps:List a_Y},Paired (StepAt H) as ps->Paired (StepAt H') as ps
 | _,_,.nil=> .nil
 | _,_,.cons h r=> .cons (h.tk t) (b_9 t r)
structure StrC (CS CO:Addr) (H:Hp) (A:Ads) (room:Int) (ln l1 l2:List Row) (st:List a_Y) (ms:List Nat):Prop where
 ob:H A.o=some (.ins CS A.dx (b_6 room A.nb A.o1 A.o2 A.sl A.ml))
 nb:KeptAt H A.nb ln
 O1:∃B,OrdAt CO false H A.o1 A.bl1 A.bas1 B/\GoodB false B/\B.flatten.Perm l1
 O2:∃B,OrdAt CO true H A.o2 A.bl2 A.bas2 B/\GoodB true B/\B.flatten.Perm l2
 sls:H A.sl=some (.lst (A.sas.map V.ref))
 sts:Paired (StepAt H) A.sas st.reverse
 mls:H A.ml=some (.lst (ms.reverse.map λm:Nat=>V.int m))
 nd:A.ls.Nodup
structure Mvd (H H':Hp) (f:List Addr):Prop where
 keep:∀b u,H b=some u->b∉f->H' b=some u
 kind:∀b∈f,∀u,H b=some u->(∃xs,u= .lst xs)\/∃kvs,u= .dK kvs
section
variable {H H':Hp} {f:List Addr}
theorem Mvd.tup (m:Mvd H H' f):a_R H H':=λb xs h=>m.keep b _ h λhb=>by
 rcases m.kind b hb _ h with⟨ys,e⟩ | ⟨ys,e⟩ <;> cases e
theorem Mvd.ins (m:Mvd H H' f) {b C d:Addr} {fl:List (Str×V)} (h:H b=some (.ins C d fl)):H' b=some (.ins C d fl):=m.keep b _ h λhb=>by
 rcases m.kind b hb _ h with⟨ys,e⟩ | ⟨ys,e⟩ <;> cases e
theorem Mvd.lstAt (m:Mvd H H' f) {l:Addr} {ρs:List Row} (h:LstAt H l ρs) (hl:l∉f):LstAt H' l ρs:=by
 obtain⟨as,h1,h2⟩:=h
 exact⟨as,m.keep l _ h1 hl,h2.same m.tup⟩
theorem Mvd.lsts (m:Mvd H H' f):∀{bas:List Addr} {B:List (List Row)},Paired (LstAt H) bas B->(∀b∈bas,b∉f)->Paired (LstAt H') bas B
 | _,_,.nil,_=> .nil
 | _,_,.cons h t,hn=> .cons (m.lstAt h (hn _ (r_g ..))) (m.lsts t λb hb=>hn b (r_f _ hb))
theorem Mvd.ord (m:Mvd H H' f) {C:Addr} {w:Bool} {o bl:Addr} {bas:List Addr} {B:List (List Row)} (h:OrdAt C w H o bl bas B) (hn:∀b∈bl::bas,b∉f):OrdAt C w H' o bl bas B:=by
 obtain⟨⟨dx,h1⟩,h2,h3,h4⟩:=h
 exact⟨⟨dx,m.ins h1⟩,m.keep _ _ h2 (hn _ (r_g ..)),m.lsts h3 λb hb=>hn b (r_f _ hb),h4⟩
theorem Mvd.kept (m:Mvd H H' f) {d:Addr} {l:List Row} (h:KeptAt H d l) (hd:d∉f):KeptAt H' d l:=by
 obtain⟨rs,h1,h2⟩:=h
 exact⟨rs,m.keep _ _ h1 hd,h2.same m.tup⟩
theorem Stp.refl (f:List Addr):Stp H H f f:=⟨λ_ _ h _=>h,λ_ h=> .inl h⟩
theorem Stp.wide {g g' f f':List Addr} (s:Stp H H' g g') (h1:∀b∈g,b∈f) (h2:∀b∈f',b∈f\/b∈g'):Stp H H' f f':=⟨λb u h hn=>s.keep b u h λq=>hn (h1 b q),λb hb=>by
 rcases h2 b hb with q | q
 ·exact .inl q
 ·rcases s.new b q with z | z
  ·exact .inl (h1 b z)
  ·exact .inr z⟩
end
section
variable {CS CO:Addr} {H H':Hp} {A:Ads} {room:Int} {ln l1 l2:List Row} {st:List a_Y} {ms:List Nat}
theorem StrC.list (h:StrC CS CO H A room ln l1 l2 st ms):∀b∈A.ls,∃xs,H b=some (.lst xs):=λb hb=>by
 obtain⟨B1,O1,_⟩:=h.O1
 obtain⟨B2,O2,_⟩:=h.O2
 have hl:∀{w:Bool} {o bl:Addr} {bas:List Addr} {B:List (List Row)},OrdAt CO w H o bl bas B->∀b∈bl::bas,∃xs,H b=some (.lst xs):=λO b hb=>by
  rcases r_n.mp hb with e | e
  ·rw[e];exact⟨_,O.ls⟩
  ·exact d_7 O.bs b e
 simp only[Ads.ls,r_n] at hb
 rcases hb with e | e | e
 ·rw[e];exact⟨_,h.sls⟩
 ·rw[e];exact⟨_,h.mls⟩
 ·rcases r_u.mp e with q | q
  ·exact hl O1 b q
  ·exact hl O2 b q
theorem StrC.nbls (h:StrC CS CO H A room ln l1 l2 st ms):A.nb∉A.ls:=λhb=>by
 obtain⟨xs,e⟩:=h.list _ hb
 obtain⟨rs,e2,_⟩:=h.nb
 rw[e] at e2;cases e2
theorem StrC.mvd (h:StrC CS CO H A room ln l1 l2 st ms) {f:List Addr} (m:Mvd H H' f) (hf:∀b∈f,b∉A.fp):StrC CS CO H' A room ln l1 l2 st ms:=by
 have hx:∀b∈A.nb::A.ls,b∉f:=λb hb hc=>hf b hc (r_f _ hb)
 have hl:∀b∈A.ls,b∉f:=λb hb=>hx b (r_f _ hb)
 obtain⟨B1,O1,g1⟩:=h.O1
 obtain⟨B2,O2,g2⟩:=h.O2
 exact⟨m.ins h.ob,m.kept h.nb (hx _ (r_g ..)),⟨B1,m.ord O1 λb hb=>hl b (by unfold Ads.ls;simp only[r_n,r_u] at hb ⊢;grind),g1⟩,⟨B2,m.ord O2 λb hb=>hl b (by unfold Ads.ls;simp only[r_n,r_u] at hb ⊢;grind),g2⟩,
  m.keep _ _ h.sls (hl _ (by simp[Ads.ls])),b_9 m.tup h.sts,m.keep _ _ h.mls (hl _ (by simp[Ads.ls])),h.nd⟩
theorem StrC.same (h:StrC CS CO H A room ln l1 l2 st ms) (s:Same H H'):StrC CS CO H' A room ln l1 l2 st ms:=h.mvd (f:= []) ⟨λb u q _=>s b u q,λb hb=>by cases hb⟩ λb hb=>by cases hb
theorem StrC.setNb (h:StrC CS CO H A room ln l1 l2 st ms) {ln':List Row} (k:KeptAt H' A.nb ln') (kp:∀b u,H b=some u->b≠A.nb->H' b=some u):StrC CS CO H' A room ln' l1 l2 st ms:=by
 have m:Mvd H H' [A.nb]:=⟨λb u q hn=>kp b u q λe=>hn (by rw[e];exact r_h.mpr rfl),λb hb u hu=>by
  obtain⟨rs,e,_⟩:=h.nb
  rw[r_h.mp hb,e] at hu
  exact .inr ⟨_,(r_j hu).symm⟩⟩
 have hl:∀b∈A.ls,b∉ [A.nb]:=λb hb hc=>h.nbls (by rw[<-r_h.mp hc];exact hb)
 obtain⟨B1,O1,g1⟩:=h.O1
 obtain⟨B2,O2,g2⟩:=h.O2
 exact⟨m.ins h.ob,k,⟨B1,m.ord O1 λb hb=>hl b (by unfold Ads.ls;simp only[r_n,r_u] at hb ⊢;grind),g1⟩,⟨B2,m.ord O2 λb hb=>hl b (by unfold Ads.ls;simp only[r_n,r_u] at hb ⊢;grind),g2⟩,
  m.keep _ _ h.sls (hl _ (by simp[Ads.ls])),b_9 m.tup h.sts,m.keep _ _ h.mls (hl _ (by simp[Ads.ls])),h.nd⟩
theorem StrC.stpNb (h:StrC CS CO H A room ln l1 l2 st ms) (kp:∀b u,H b=some u->b≠A.nb->H' b=some u):Stp H H' A.fp A.fp:=⟨λb u q hn=>kp b u q λe=>hn (by rw[e];simp[Ads.fp]),λb hb=> .inl hb⟩
theorem e_6 (A:Ads):A.ls.Nodup↔A.sl≠A.ml/\(∀b∈A.bl1::A.bas1,b≠A.sl/\b≠A.ml)/\(∀b∈A.bl2::A.bas2,b≠A.sl/\b≠A.ml)/\(A.bl1::A.bas1).Nodup/\(A.bl2::A.bas2).Nodup/\∀b∈A.bl1::A.bas1,b∉A.bl2::A.bas2:=by
 unfold Ads.ls
 generalize e1:A.bl1::A.bas1=f
 generalize e2:A.bl2::A.bas2=g
 rw[r_G,r_G,List.nodup_append]
 simp only[r_n,r_u,not_or]
 constructor
 ·rintro⟨⟨a1,a2,a3⟩,⟨b1,b2⟩,c1,c2,c3⟩
  exact⟨a1,λb hb=>⟨λe=>a2 (e ▸ hb),λe=>b1 (e ▸ hb)⟩,λb hb=>⟨λe=>a3 (e ▸ hb),λe=>b2 (e ▸ hb)⟩,c1,c2,λb hb hc=>c3 b hb b hc rfl⟩
 ·rintro⟨a,b,c,d,e,g'⟩
  exact⟨⟨a,λz=>(b _ z).1 rfl,λz=>(c _ z).1 rfl⟩,⟨λz=>(b _ z).2 rfl,λz=>(c _ z).2 rfl⟩,d,e,λx hx y hy q=>g' x hx (q ▸ hy)⟩
theorem Mvd.of_stp {C:Addr} {w:Bool} {o bl:Addr} {bas f':List Addr} {B:List (List Row)} (h:OrdAt C w H o bl bas B) (S:Stp H H' (bl::bas) f'):Mvd H H' (bl::bas):=⟨S.keep,λb hb u hu=>by
 left
 rcases r_n.mp hb with e | e
 ·rw[e,h.ls] at hu;exact⟨_,(r_j hu).symm⟩
 ·obtain⟨xs,q⟩:=d_7 h.bs b e
  rw[q] at hu;exact⟨_,(r_j hu).symm⟩⟩
theorem StrC.setO1 (h:StrC CS CO H A room ln l1 l2 st ms) {bas':List Addr} {B':List (List Row)} {l':List Row} (S:Stp H H' (A.bl1::A.bas1) (A.bl1::bas')) (O:OrdAt CO false H' A.o1 A.bl1 bas' B') (G:GoodB false B') (p:B'.flatten.Perm l'):
 StrC CS CO H' { A with bas1:=bas' } room ln l' l2 st ms/\Stp H H' A.fp ({ A with bas1:=bas' }:Ads).fp:=by
 obtain⟨B1,O1,g1⟩:=h.O1
 obtain⟨B2,O2,g2⟩:=h.O2
 have m:=Mvd.of_stp O1 S
 obtain⟨n1,n2,n3,n4,n5,n6⟩:=(e_6 A).mp h.nd
 have hsub:∀b∈A.bl1::A.bas1,b∈A.ls:=λb hb=>by unfold Ads.ls;simp only[r_n,r_u] at hb ⊢;grind
 have hnew:∀b∈A.bl1::bas',b∈A.bl1::A.bas1\/H b=none:=S.new
 have hls:∀b,H b=none->b∉A.ls:=λb hb hc=>by obtain⟨xs,e⟩:=h.list b hc;rw[hb] at e;cases e
 refine⟨⟨m.ins h.ob,m.kept h.nb λhc=>h.nbls (hsub _ hc),⟨B',O,G,p⟩,⟨B2,m.ord O2 λb hb hc=>n6 b hc hb,g2⟩,m.keep _ _ h.sls λhc=>(n2 _ hc).1 rfl,b_9 m.tup h.sts,m.keep _ _ h.mls λhc=>(n2 _ hc).2 rfl,?_⟩,?_⟩
 ·refine (e_6 _).mpr ⟨n1,λb hb=> ?_, n3,O.nd,n5,λb hb=> ?_⟩
  ·rcases hnew b hb with q | q
   ·exact n2 b q
   ·exact⟨λe=>hls b q (by rw[e];simp[Ads.ls]),λe=>hls b q (by rw[e];simp[Ads.ls])⟩
  ·rcases hnew b hb with q | q
   ·exact n6 b q
   ·exact λhc=>hls b q (by unfold Ads.ls;simp only[r_n,r_u] at hc ⊢;grind)
 ·refine S.wide (λb hb=> ?_) λb hb=> ?_
  ·exact r_f _ (r_f _ (hsub b hb))
  ·simp only[Ads.fp,Ads.ls,r_n,r_u] at hb ⊢
   grind
theorem StrC.setO2 (h:StrC CS CO H A room ln l1 l2 st ms) {bas':List Addr} {B':List (List Row)} {l':List Row} (S:Stp H H' (A.bl2::A.bas2) (A.bl2::bas')) (O:OrdAt CO true H' A.o2 A.bl2 bas' B') (G:GoodB true B') (p:B'.flatten.Perm l'):
 StrC CS CO H' { A with bas2:=bas' } room ln l1 l' st ms/\Stp H H' A.fp ({ A with bas2:=bas' }:Ads).fp:=by
 obtain⟨B1,O1,g1⟩:=h.O1
 obtain⟨B2,O2,g2⟩:=h.O2
 have m:=Mvd.of_stp O2 S
 obtain⟨n1,n2,n3,n4,n5,n6⟩:=(e_6 A).mp h.nd
 have hsub:∀b∈A.bl2::A.bas2,b∈A.ls:=λb hb=>by unfold Ads.ls;simp only[r_n,r_u] at hb ⊢;grind
 have hnew:∀b∈A.bl2::bas',b∈A.bl2::A.bas2\/H b=none:=S.new
 have hls:∀b,H b=none->b∉A.ls:=λb hb hc=>by obtain⟨xs,e⟩:=h.list b hc;rw[hb] at e;cases e
 refine⟨⟨m.ins h.ob,m.kept h.nb λhc=>h.nbls (hsub _ hc),⟨B1,m.ord O1 λb hb hc=>n6 b hb hc,g1⟩,⟨B',O,G,p⟩,m.keep _ _ h.sls λhc=>(n3 _ hc).1 rfl,b_9 m.tup h.sts,m.keep _ _ h.mls λhc=>(n3 _ hc).2 rfl,?_⟩,?_⟩
 ·refine (e_6 _).mpr ⟨n1,n2,λb hb=> ?_, n4,O.nd,λb hb hc=> ?_⟩
  ·rcases hnew b hb with q | q
   ·exact n3 b q
   ·exact⟨λe=>hls b q (by rw[e];simp[Ads.ls]),λe=>hls b q (by rw[e];simp[Ads.ls])⟩
  ·rcases hnew b hc with q | q
   ·exact n6 b hb q
   ·exact hls b q (by unfold Ads.ls;simp only[r_n,r_u] at hb ⊢;grind)
 ·refine S.wide (λb hb=> ?_) λb hb=> ?_
  ·exact r_f _ (r_f _ (hsub b hb))
  ·simp only[Ads.fp,Ads.ls,r_n,r_u] at hb ⊢
   grind
theorem StrC.setSl (h:StrC CS CO H A room ln l1 l2 st ms) {sas':List Addr} {st':List a_Y} {H':Hp} (e:H'=upd H A.sl (.lst (sas'.map V.ref))) (p:Paired (StepAt H) sas' st'.reverse):
 StrC CS CO H' { A with sas:=sas' } room ln l1 l2 st' ms/\Stp H H' A.fp ({ A with sas:=sas' }:Ads).fp:=by
 subst e
 have m:Mvd H (upd H A.sl (.lst (sas'.map V.ref))) [A.sl]:=⟨λb u q hn=>by rw[a_i λe=>hn (by rw[e];exact r_h.mpr rfl)];exact q,λb hb u hu=>by
  rw[r_h.mp hb,h.sls] at hu
  exact .inl ⟨_,(r_j hu).symm⟩⟩
 obtain⟨n1,n2,n3,n4,n5,n6⟩:=(e_6 A).mp h.nd
 obtain⟨B1,O1,g1⟩:=h.O1
 obtain⟨B2,O2,g2⟩:=h.O2
 refine⟨⟨m.ins h.ob,m.kept h.nb λhc=>h.nbls (by rw[r_h.mp hc];simp[Ads.ls]),⟨B1,m.ord O1 λb hb hc=>(n2 b hb).1 (r_h.mp hc),g1⟩,⟨B2,m.ord O2 λb hb hc=>(n3 b hb).1 (r_h.mp hc),g2⟩,
  a_b,b_9 m.tup p,m.keep _ _ h.mls λhc=>n1 (r_h.mp hc).symm,h.nd⟩,⟨λb u q hn=>m.keep b u q λhc=>hn (by rw[r_h.mp hc];simp[Ads.fp,Ads.ls]),λb hb=> .inl hb⟩⟩
theorem StrC.setMl (h:StrC CS CO H A room ln l1 l2 st ms) {ms':List Nat} {H':Hp} (e:H'=upd H A.ml (.lst (ms'.reverse.map λm:Nat=>V.int m))):StrC CS CO H' A room ln l1 l2 st ms'/\Stp H H' A.fp A.fp:=by
 subst e
 have m:Mvd H (upd H A.ml (.lst (ms'.reverse.map λm:Nat=>V.int m))) [A.ml]:=⟨λb u q hn=>by rw[a_i λe=>hn (by rw[e];exact r_h.mpr rfl)];exact q,λb hb u hu=>by
  rw[r_h.mp hb,h.mls] at hu
  exact .inl ⟨_,(r_j hu).symm⟩⟩
 obtain⟨n1,n2,n3,n4,n5,n6⟩:=(e_6 A).mp h.nd
 obtain⟨B1,O1,g1⟩:=h.O1
 obtain⟨B2,O2,g2⟩:=h.O2
 exact⟨⟨m.ins h.ob,m.kept h.nb λhc=>h.nbls (by rw[r_h.mp hc];simp[Ads.ls]),⟨B1,m.ord O1 λb hb hc=>(n2 b hb).2 (r_h.mp hc),g1⟩,⟨B2,m.ord O2 λb hb hc=>(n3 b hb).2 (r_h.mp hc),g2⟩,
  m.keep _ _ h.sls λhc=>n1 (r_h.mp hc),b_9 m.tup h.sts,a_b,h.nd⟩,⟨λb u q hn=>m.keep b u q λhc=>hn (by rw[r_h.mp hc];simp[Ads.fp,Ads.ls]),λb hb=> .inl hb⟩⟩
theorem StrC.newSl (cc:CS≠CO) (h:StrC CS CO H A room ln l1 l2 st ms) {sl':Addr} (hs:H sl'=none):StrC CS CO (upd (upd H sl' (.lst [])) A.o (.ins CS A.dx (b_6 room A.nb A.o1 A.o2 sl' A.ml))) { A with sl:=sl',sas:= [] } room ln l1 l2 [] ms/\
 Stp H (upd (upd H sl' (.lst [])) A.o (.ins CS A.dx (b_6 room A.nb A.o1 A.o2 sl' A.ml))) A.fp ({ A with sl:=sl',sas:= [] }:Ads).fp:=by
 have h1:=h.same (Same.upd_new (o:= .lst []) hs)
 have hso:sl'≠A.o:=λe=>by rw[e,h.ob] at hs;cases hs
 have kp:∀b u,(upd H sl' (.lst [])) b=some u->b≠A.o->(upd (upd H sl' (.lst [])) A.o (.ins CS A.dx (b_6 room A.nb A.o1 A.o2 sl' A.ml))) b=some u:=λb u q hn=>by rw[a_i hn];exact q
 have tk:a_R (upd H sl' (.lst [])) (upd (upd H sl' (.lst [])) A.o (.ins CS A.dx (b_6 room A.nb A.o1 A.o2 sl' A.ml))):=λb xs q=>kp b _ q λe=>by rw[e,h1.ob] at q;cases q
 have lk:∀b xs,(upd H sl' (.lst [])) b=some (.lst xs)->b≠A.o:=λb xs q e=>by rw[e,h1.ob] at q;cases q
 obtain⟨n1,n2,n3,n4,n5,n6⟩:=(e_6 A).mp h.nd
 have hls:∀b∈A.ls,b≠sl':=λb hb e=>by obtain⟨xs,q⟩:=h.list b hb;rw[e,hs] at q;cases q
 have ordk:∀{w:Bool} {o bl:Addr} {bas:List Addr} {B:List (List Row)},OrdAt CO w (upd H sl' (.lst [])) o bl bas B->OrdAt CO w (upd (upd H sl' (.lst [])) A.o (.ins CS A.dx (b_6 room A.nb A.o1 A.o2 sl' A.ml))) o bl bas B:=λ{w o bl bas B} O=>by
  obtain⟨⟨d,q1⟩,q2,q3,q4⟩:=O
  refine⟨⟨d,kp _ _ q1 λe=> ?_⟩,kp _ _ q2 (lk _ _ q2),?_, q4⟩
  ·rw[e,h1.ob] at q1
   injection q1 with q1
   injection q1 with q1
   exact cc q1
  ·have aux:∀{bas:List Addr} {B:List (List Row)},Paired (LstAt (upd H sl' (.lst []))) bas B→Paired (LstAt (upd (upd H sl' (.lst [])) A.o (.ins CS A.dx (b_6 room A.nb A.o1 A.o2 sl' A.ml)))) bas B:=by
    intro bas B hp
    induction hp with
    | nil=>exact .nil
    | cons a t ih=>
      obtain⟨as,z1,z2⟩:=a
      exact .cons ⟨as,kp _ _ z1 (lk _ _ z1),z2.same tk⟩ ih
   exact aux q3
 obtain⟨B1,O1,g1⟩:=h1.O1
 obtain⟨B2,O2,g2⟩:=h1.O2
 obtain⟨rs,k1,k2⟩:=h1.nb
 refine⟨⟨a_b,⟨rs,kp _ _ k1 λe=>(by rw[e,h1.ob] at k1;cases k1),k2.same tk⟩,⟨B1,ordk O1,g1⟩,⟨B2,ordk O2,g2⟩,kp _ _ a_b hso,.nil,kp _ _ h1.mls (lk _ _ h1.mls),?_⟩,⟨λb u q hn=> ?_, λb hb=> ?_⟩⟩
 ·refine (e_6 _).mpr ⟨λe=>hls A.ml (by simp[Ads.ls]) e.symm,λb hb=>⟨hls b (by unfold Ads.ls;simp only[r_n,r_u] at hb ⊢;grind),(n2 b hb).2⟩,λb hb=>⟨hls b (by unfold Ads.ls;simp only[r_n,r_u] at hb ⊢;grind),(n3 b hb).2⟩,n4,n5,n6⟩
 ·rw[a_i λe=>hn (by rw[e];simp[Ads.fp]),a_i (a_h q hs)]
  exact q
 ·simp only[Ads.fp,Ads.ls,r_n,r_u] at hb ⊢
  rcases hb with e | e | e | e | e
  ·exact .inl (.inl e)
  ·exact .inl (.inr (.inl e))
  ·exact .inr (by rw[e];exact hs)
  ·exact .inl (.inr (.inr (.inr (.inl e))))
  ·exact .inl (.inr (.inr (.inr (.inr e))))
end
structure e_L (K:PySem.W.Frag) (mg:Str->Option Value) (CS CO:Addr):Prop where
 cl:Cls K CS
 nRoom:NoAttr K CS "room"
 nNum:NoAttr K CS "by_number"
 nRank:NoAttr K CS "by_rank"
 nText:NoAttr K CS "by_text"
 nSteps:NoAttr K CS "steps"
 nMarks:NoAttr K CS "marks"
 mgS:mg "Store"=some (.ref CS)
 cc:CS≠CO
structure o_m (K:PySem.W.Frag) (mg:Str->Option Value) (CT CF CM CN:Addr):Prop where
 t:Exc K mg "Taken" CT
 f:Exc K mg "Full" CF
 m:Exc K mg "Missing" CM
 n:Exc K mg "NotBegun" CN
abbrev f_A (CS CO:Addr) (H:Hp) (A:Ads) (room:Int) (l:List Row) (st:List a_Y) (ms:List Nat):Prop:=StrC CS CO H A room l l l st ms
section
variable {P:Program} {w:World} {K:PySem.W.Frag} {mg:Str->Option Value} {base:Heap}
theorem k_R {H:Hp} {d:Addr} {l:List Row} {rs:List Addr} (n:Int) (hk:H d=some (.dK (a_L rs l))) (hR:RowsAt H rs l):KeptAt (upd H d (.dK (d_s (a_L rs l) (Sum.inl n)))) d (b_a l n):=by
 obtain⟨rs',e1,e2⟩:=f_d (n:=n) hR
 refine⟨rs',by rw[e1];exact a_b,e2.same λb xs e=> ?_⟩
 rw[a_i (λq=>by rw[q,hk] at e;cases e)]
 exact e
theorem k_2 {H:Hp} {d r:Addr} {l:List Row} {rs:List Addr} {ρ:Row} (hk:H d=some (.dK (a_L rs l))) (hR:RowsAt H rs l) (hr:RowAt H r ρ):KeptAt (upd H d (.dK (d_k (a_L rs l) (Sum.inl ρ.n) (V.ref r)))) d (c_e l ρ):=by
 obtain⟨rs',e1,e2⟩:=g_1 hr hR
 refine⟨rs',by rw[e1];exact a_b,e2.same λb xs e=> ?_⟩
 rw[a_i (λq=>by rw[q,hk] at e;cases e)]
 exact e
theorem b_x {H:Hp} {d:Addr} {o:HO}:∀b u,H b=some u->b≠d->(upd H d o) b=some u:=λb u e hn=>by rw[a_i hn];exact e
def k_e (CS CO:Addr):Sp:=λvs H Q _=>∃(A:Ads) (u v:V) (p:a_Y) (room:Int) (l:List Row) (st:List a_Y) (ms:List Nat),vs= [.ref A.o,u,v]/\f_A CS CO H A room l st ms/\OptAt H u p.1/\OptAt H v p.2/\StepOk l p/\b_7 l/\l.length<=9000/\
 ∀(A':Ads) (H':Hp),f_A CS CO H' A' room (d_1 l p) st ms->A'.o=A.o->Stp H H' A.fp A'.fp->a_R H H'->Q .non H'
theorem o_j:a_s ["self","old","new"] ["self","old","new"] (a_m m_1):=⟨rfl,rfl,rfl,by decide+kernel,rfl,by decide+kernel,by decide+kernel⟩
def tEx (CS CO:Addr) (A:Ads) (u v:V) (H:Hp) (room:Int) (l:List Row) (st:List a_Y) (ms:List Nat):TS:=λD σ Hx=>σ= [some (.ref A.o),some u,some v]/\Hx=H/\
 ∀(A':Ads) (H':Hp),f_A CS CO H' A' room l st ms->A'.o=A.o->Stp H H' A.fp A'.fp->a_R H H'->D.nx σ H'
theorem n_g {f fTk fLt CS CO:Addr} {fd fdTk fdLt:FuncData} (F:Fun K "exchange" "Store.exchange" m_1 f fd) (T:Txt K mg CO) (TS:e_L K mg CS CO)
 (mTk:Mf K CO "take_in" fTk fdTk ["self","row"]) (GTk:FnOk P w K mg base CX0 4 fTk fdTk ["self","row"] (l_5 CO)) (mLt:Mf K CO "let_out" fLt fdLt ["self","row"]) (GLt:FnOk P w K mg base CX0 4 fLt fdLt ["self","row"] (o_u CO)):
 FnOk P w K mg base CX0 5 f fd ["self","old","new"] (k_e CS CO):=by
 refine F.ok o_j (λvs H Q E h=> ?_) (λcdv A outer s H vs Q E hr h=> ?_)
 ·obtain⟨A,u,v,p,room,l,st,ms,rfl,_⟩:=h
  rfl
 ·obtain⟨A,u,v,p,room,l,st,ms,rfl,S,hu,hv,ok,hn,hsz,fin⟩:=h
  have hu1:=e_G hr
  have hr4:Room 4 _:=hr
  refine⟨_,a_c (n_e (t':=tEx CS CO A u v H room (b_y l p.1) st ms) (a_C (d_y (i_K (pv 1))) (a_c (a_z (h_T (a_D (pv 0) rfl) (a_r a_p (pv 1) a_f (λ_ _=>rfl)) ⟨rfl,rfl,rfl,rfl⟩))
   (a_c (a_z (a_N (a_D (pv 0) rfl) T.cl mLt.m GLt hr4 mLt.b .nil a_u (a_a (pv 1) a_d))) (a_g (a_z (a_N (a_D (pv 0) rfl) T.cl mLt.m GLt hr4 mLt.b .nil a_u (a_a (pv 1) a_d)))))) a_q) ?hw)
   (a_g (a_C (d_y (i_K (pv 2))) (a_c (d_9 hu1 (a_D (pv 0) rfl) (a_r a_p (pv 2) a_f (λ_ _=>rfl)) (pv 2) rfl)
   (a_c (a_z (a_N (a_D (pv 0) rfl) T.cl mTk.m GTk hr4 mTk.b .nil a_u (a_a (pv 2) a_d))) (a_g (a_z (a_N (a_D (pv 0) rfl) T.cl mTk.m GTk hr4 mTk.b .nil a_u (a_a (pv 2) a_d)))))) a_q)),?main⟩
  case hw=>
   rintro D σ Hx ⟨rfl,rfl,k⟩
   obtain⟨p1,p2⟩:=p
   cases p1 with
   | none=>
     obtain rfl:u= .non:=hu
     exact⟨_,rfl,_,rfl,g_u (k A Hx S rfl (Stp.refl _) λ_ _ h=>h)⟩
   | some ρ=>
     obtain⟨r,rfl,hρ⟩:=id hu
     have hm:=ok.out ρ rfl
     obtain⟨rs,hk,hR⟩:=S.nb
     obtain⟨g1,g2⟩:=b_U (n:=ρ.n) hR
     obtain⟨r',ρ',hval,_⟩:=g2 (b_v.mpr ⟨ρ,hm,rfl⟩)
     refine⟨_,rfl,_,rfl,k_w ?_⟩
     refine⟨_,rfl,A.o,CS,A.dx,_,_,rfl,S.ob,TS.cl,TS.nNum,e_H,A.nb,rfl,.inl ⟨_,.inl hk⟩,_,rfl,r,_,_,_,rfl,rfl,SqT.of hρ,a_e (j:=0) rfl,_,Sum.inl ρ.n,_,hk,rfl,hval,?_⟩
     have S1:=S.setNb (k_R ρ.n hk hR) b_x
     have F1:=S.stpNb (H':=upd Hx A.nb (.dK (d_s (a_L rs l) (Sum.inl ρ.n)))) b_x
     have tk1:a_R Hx (upd Hx A.nb (.dK (d_s (a_L rs l) (Sum.inl ρ.n)))):=λb xs e=>by
      rw[a_i (λq=>by rw[q,hk] at e;cases e)];exact e
     obtain⟨B1,O1,G1,q1⟩:=S1.O1
     obtain⟨dx1,ho1⟩:=O1.ob
     refine⟨_,rfl,A.o,CS,A.dx,_,_,rfl,S1.ob,TS.cl,TS.nRank,f_s,A.o1,dx1,_,rfl,ho1,a_X _ _ (by decide+kernel) (by decide+kernel),_,rfl,false,A.o1,A.bl1,r,A.bas1,B1,ρ,rfl,O1,tk1 _ _ hρ,G1,q1.mem_iff.mpr hm,by rw[q1.length_eq];omega,λbas' B' H2 O' G' p' S'=> ?_⟩
     have e1:B'.flatten.Perm (b_a l ρ.n):=by
      have:=(p'.trans q1).trans (d_n hn hm)
      exact this.cons_inv
     obtain⟨S2,F2⟩:=S1.setO1 S' O' G' e1
     have tk2:=(Mvd.of_stp O1 S').tup
     obtain⟨B2,O2,G2,q2⟩:=S2.O2
     obtain⟨dx2,ho2⟩:=O2.ob
     refine⟨_,rfl,A.o,CS,A.dx,_,_,rfl,S2.ob,TS.cl,TS.nText,e_b,A.o2,dx2,_,rfl,ho2,a_X _ _ (by decide+kernel) (by decide+kernel),_,rfl,true,A.o2,A.bl2,r,A.bas2,B2,ρ,rfl,O2,tk2 _ _ (tk1 _ _ hρ),G2,q2.mem_iff.mpr hm,by rw[q2.length_eq];omega,λbas2 B2' H3 O'' G'' p'' S''=> ?_⟩
     have e2:B2'.flatten.Perm (b_a l ρ.n):=by
      have:=(p''.trans q2).trans (d_n hn hm)
      exact this.cons_inv
     obtain⟨S3,F3⟩:=S2.setO2 S'' O'' G'' e2
     exact k _ H3 S3 rfl ((F1.trans F2).trans F3) λb xs e=>(Mvd.of_stp O2 S'').tup _ _ (tk2 _ _ (tk1 _ _ e))
  case main=>
   refine⟨rfl,rfl,λA1 H1 S0 e1 F0 tk0=> ?_⟩
   have hv1:=hv.tk tk0
   have hn0:b_7 (b_y l p.1):=c_D hn p.1
   have hle0:=h_I l p.1
   have okin:=ok.inn
   obtain⟨p1,p2⟩:=p
   cases p2 with
   | none=>
     obtain rfl:v= .non:=hv
     exact⟨_,rfl,_,rfl,g_u (fin A1 H1 S0 e1 F0 tk0)⟩
   | some ρ=>
     obtain⟨r,rfl,hρ⟩:=id hv1
     have hno:=okin ρ rfl
     have hno':∀x∈b_y l p1,x.n≠ρ.n:=b_H.mp hno
     obtain⟨rs,hk,hR⟩:=S0.nb
     have hkz:(a_L rs (b_y l p1)).length < sizeLine:=by rw[c_O hR];exact r_R (r_x hle0 hsz) (by decide)
     have hob:=S0.ob
     rw[e1] at hob
     refine⟨_,rfl,_,rfl,k_w ?_⟩
     refine⟨_,rfl,_,rfl,A.o,CS,A1.dx,_,_,rfl,hob,TS.cl,TS.nNum,e_H,_,rfl,r,_,_,_,rfl,rfl,SqT.of hρ,a_e (j:=0) rfl,A1.nb,_,rfl,DPut.k (k:=Sum.inl ρ.n) hk hkz,?_⟩
     have S1:=S0.setNb (k_2 hk hR hρ) b_x
     have F1:=S0.stpNb (H':=upd H1 A1.nb (.dK (d_k (a_L rs (b_y l p1)) (Sum.inl ρ.n) (V.ref r)))) b_x
     have tk1:a_R H1 (upd H1 A1.nb (.dK (d_k (a_L rs (b_y l p1)) (Sum.inl ρ.n) (V.ref r)))):=λb xs e=>by
      rw[a_i (λq=>by rw[q,hk] at e;cases e)];exact e
     obtain⟨B1,O1,G1,q1⟩:=S1.O1
     obtain⟨dx1,ho1⟩:=O1.ob
     have hob1:=S1.ob
     rw[e1] at hob1
     have ep:c_e (b_y l p1) ρ=b_y l p1++ [ρ]:=b_S hno
     refine⟨_,rfl,A.o,CS,A1.dx,_,_,rfl,hob1,TS.cl,TS.nRank,f_s,A1.o1,dx1,_,rfl,ho1,a_X _ _ (by decide+kernel) (by decide+kernel),_,rfl,false,A1.o1,A1.bl1,r,A1.bas1,B1,ρ,rfl,O1,tk1 _ _ hρ,G1,λx hx=>hno' x (q1.mem_iff.mp hx),by rw[q1.length_eq];omega,λbas' B' H2 O' G' p' S'=> ?_⟩
     have ex1:B'.flatten.Perm (c_e (b_y l p1) ρ):=by
      rw[ep]
      exact (p'.trans (q1.cons ρ)).trans (List.perm_append_singleton ρ _).symm
     obtain⟨S2,F2⟩:=S1.setO1 S' O' G' ex1
     have tk2:=(Mvd.of_stp O1 S').tup
     obtain⟨B2,O2,G2,q2⟩:=S2.O2
     obtain⟨dx2,ho2⟩:=O2.ob
     have hob2:=S2.ob
     dsimp only at hob2
     rw[e1] at hob2
     refine⟨_,rfl,A.o,CS,A1.dx,_,_,rfl,hob2,TS.cl,TS.nText,e_b,A1.o2,dx2,_,rfl,ho2,a_X _ _ (by decide+kernel) (by decide+kernel),_,rfl,true,A1.o2,A1.bl2,r,A1.bas2,B2,ρ,rfl,O2,tk2 _ _ (tk1 _ _ hρ),G2,λx hx=>hno' x (q2.mem_iff.mp hx),by rw[q2.length_eq];omega,λbas2 B2' H3 O'' G'' p'' S''=> ?_⟩
     have ex2:B2'.flatten.Perm (c_e (b_y l p1) ρ):=by
      rw[ep]
      exact (p''.trans (q2.cons ρ)).trans (List.perm_append_singleton ρ _).symm
     obtain⟨S3,F3⟩:=S2.setO2 S'' O'' G'' ex2
     exact fin _ H3 S3 e1 (((F0.trans F1).trans F2).trans F3) λb xs e=>(Mvd.of_stp O2 S'').tup _ _ (tk2 _ _ (tk1 _ _ (tk0 _ _ e)))
def d_M (CS CO:Addr):Sp:=λvs H Q _=>∃(A:Ads) (u v:V) (p:a_Y) (room:Int) (l:List Row) (st:List a_Y) (ms:List Nat),vs= [.ref A.o,u,v]/\f_A CS CO H A room l st ms/\OptAt H u p.1/\OptAt H v p.2/\StepOk l p/\b_7 l/\l.length<=9000/\st.length<=9000/\
 ∀(A':Ads) (H':Hp),f_A CS CO H' A' room (d_1 l p) (if ms= [] then st else p::st) ms->A'.o=A.o->Stp H H' A.fp A'.fp->a_R H H'->Q .non H'
theorem l_x:a_s ["self","old","new"] ["self","old","new"] (a_m g_C):=⟨rfl,rfl,rfl,by decide+kernel,rfl,by decide+kernel,by decide+kernel⟩
theorem i_B {f fE CS CO:Addr} {fd fdE:FuncData} (F:Fun K "change" "Store.change" g_C f fd) (T:Txt K mg CO) (TS:e_L K mg CS CO)
 (mE:Mf K CS "exchange" fE fdE ["self","old","new"]) (GE:FnOk P w K mg base CX0 5 fE fdE ["self","old","new"] (k_e CS CO)):FnOk P w K mg base CX0 6 f fd ["self","old","new"] (d_M CS CO):=by
 refine F.ok l_x (λvs H Q E h=> ?_) (λcdv A outer s H vs Q E hr h=> ?_)
 ·obtain⟨A,u,v,p,room,l,st,ms,rfl,_⟩:=h
  rfl
 ·obtain⟨A,u,v,p,room,l,st,ms,rfl,S,hu,hv,ok,hn,hsz,hst,fin⟩:=h
  refine⟨_,a_c (a_z (a_N (pv 0) TS.cl mE.m GE hr mE.b .nil a_u (a_a (pv 1) (a_a (pv 2) a_d))))
   (a_g (a_C (a_k h_0 (a_y a_v (by rfl) T.len r_V (a_a (a_D (pv 0) rfl) a_d)) a_f (a_o _))
     (a_g (a_z (b_C r_W r_Y r_X a_Q (a_D (pv 0) rfl) (a_a (a_J (a_a (pv 1) (a_a (pv 2) a_d))) a_d)))) a_q)),?_⟩
  refine⟨_,rfl,A.o,A.dx,_,rfl,S.ob,d_o (by decide+kernel) (by decide+kernel) (by decide+kernel) (by decide+kernel) (by decide+kernel) (by decide+kernel),_,rfl,_,rfl,A,u,v,p,room,l,st,ms,rfl,S,hu,hv,ok,hn,hsz,λA1 H1 S1 e1 F1 tk1=> ?_⟩
  have hob:=S1.ob
  rw[e1] at hob
  refine⟨_,rfl,A.o,CS,A1.dx,_,_,rfl,hob,TS.cl,TS.nMarks,d_j,A1.ml,_,rfl,.inl (SqL.of S1.mls),_,_,rfl,rfl,_,rfl,a_x (λc=> ?_) (λc=> ?_)⟩
  ·have hms:ms≠ []:=λe=>by rw[e] at c;exact absurd (r_U c) (by simp)
   have hlen:A1.sas.length=st.length:=by rw[Paired.length S1.sts,r_O]
   refine⟨_,rfl,A.o,CS,A1.dx,_,_,rfl,hob,TS.cl,TS.nSteps,d_N,.inl ⟨rfl,_,SqL.of S1.sls⟩,_,rfl,_,rfl,by show 2<=sizeLine;decide,λt ht=> ?_⟩
   have s2:Same H1 (upd H1 t (.tup [u,v])):=Same.upd_new ht
   have S2:=S1.same s2
   refine⟨A1.sl,_,_,rfl,rfl,S2.sls,by rw[r_c,hlen];exact r_R hst (by decide),?_⟩
   have tk2:a_R H (upd H1 t (.tup [u,v])):=λb xs e=>s2 _ _ (tk1 _ _ e)
   have hp:Paired (StepAt (upd H1 t (.tup [u,v]))) (A1.sas++ [t]) (p::st).reverse:=by
    rw[List.reverse_cons]
    exact a_F S2.sts (.cons ⟨u,v,a_b,hu.tk tk2,hv.tk tk2⟩ .nil)
   obtain⟨S3,F3⟩:=S2.setSl (H':=upd (upd H1 t (.tup [u,v])) A1.sl (.lst (A1.sas.map V.ref++ [V.ref t]))) (sas':=A1.sas++ [t]) (by rw[r_k];rfl) hp
   have e3:(if ms= [] then st else p::st)=p::st:=if_neg hms
   have ff:=fin { A1 with sas:=A1.sas++ [t] } _ (by rw[e3];exact S3) e1 ((F1.trans (Stp.of_same s2)).trans F3) λb xs e=> ?_
   ·exact ff
   ·rw[a_i (fun q=>by
     have:=tk2 _ _ e
     rw[q,S2.sls] at this;cases this)]
    exact tk2 _ _ e
  ·have hms:ms= []:=by
    cases ms with
    | nil=>rfl
    | cons m r=>
      exfalso
      apply c
      apply r_S
      simp only[r_c,r_O,r_i]
      omega
   have e3:(if ms= [] then st else p::st)=st:=if_pos hms
   exact fin A1 H1 (by rw[e3];exact S1) e1 F1 tk1
def e_u (CS CO CM:Addr):Sp:=λvs H Q E=>∃(A:Ads) (n:Int) (room:Int) (l:List Row) (st:List a_Y) (ms:List Nat),vs= [.ref A.o,.int n]/\f_A CS CO H A room l st ms/\k_v n/\
 (b_s l n=true->∀r ρ,c_V l n=some ρ->RowAt H r ρ->Q (.ref r) H)/\(b_s l n=false->E (.ref CM) none H)
theorem m_t:a_s ["self","number"] ["self","number"] (a_m i_7):=⟨rfl,rfl,rfl,by decide+kernel,rfl,by decide+kernel,by decide+kernel⟩
theorem l_k {f CS CO CT CF CM CN:Addr} {fd:FuncData} (F:Fun K "row_of" "Store.row_of" i_7 f fd) (TS:e_L K mg CS CO) (ex:o_m K mg CT CF CM CN):FnOk P w K mg base (CXR P w) 1 f fd ["self","number"] (e_u CS CO CM):=by
 refine F.okX m_t (λvs H Q E h=> ?_) (λcdv A outer s H vs Q E hr h=> ?_)
 ·obtain⟨A,n,room,l,st,ms,rfl,_⟩:=h
  rfl
 ·obtain⟨A,n,room,l,st,ms,rfl,S,ht,k1,k2⟩:=h
  have hu1:=e_G hr
  refine⟨_,a_c (a_C (d_y (c_6 hu1 (pv 1) (a_D (pv 0) rfl))) (a_g (c_5 ex.m e_e (a_a (o_7 a_l (pv 1) (by decide+kernel)) a_d))) a_q)
   (a_g (a_n (b_j hu1 (a_D (pv 0) rfl) (pv 1) (λ_ _=>rfl)))),?_⟩
  obtain⟨rs,hk,hR⟩:=S.nb
  obtain⟨v1,v2⟩:=b_U (n:=n) hR
  have gn:DGet H A.nb (.int n) (d_u (a_L rs l) (Sum.inl n)):=DGet.k (k:=Sum.inl n) hk
  refine⟨_,rfl,_,rfl,A.o,CS,A.dx,_,_,rfl,S.ob,TS.cl,TS.nNum,e_H,A.nb,_,rfl,gn,_,rfl,?_⟩
  rw[v1]
  refine a_x (λc=> ?_) (λc=> ?_)
  ·have c':b_s l n=false:=by cases q:b_s l n with
    | false=>rfl
    | true=>rw[q] at c;cases c
   exact⟨_,rfl,n,rfl,ht,λy=>⟨by show 1<=sizeLine;decide,k2 c'⟩⟩
  ·have c':b_s l n=true:=by cases q:b_s l n with
    | true=>rfl
    | false=>rw[q] at c;exact absurd rfl c
   obtain⟨r,ρ,g1,g2,g3,_⟩:=v2 c'
   rw[g1] at gn
   exact⟨_,rfl,A.o,CS,A.dx,_,_,rfl,S.ob,TS.cl,TS.nNum,e_H,_,rfl,A.nb,_,rfl,gn,k1 c' r ρ g2 g3⟩
def n_r (CS CO CN:Addr):Sp:=λvs H Q E=>∃(A:Ads) (room:Int) (l:List Row) (st:List a_Y) (ms:List Nat),vs= [.ref A.o]/\f_A CS CO H A room l st ms/\
 (∀m r,ms=m::r->∀H',f_A CS CO H' A room l st r->Stp H H' A.fp A.fp->a_R H H'->Q (.int (m:Nat)) H')/\(ms= []->E (.ref CN) none H)
theorem p_B:a_s ["self"] ["self"] (a_m p_T):=⟨rfl,rfl,rfl,by decide+kernel,rfl,by decide+kernel,by decide+kernel⟩
theorem o_T {f CS CO CT CF CM CN:Addr} {fd:FuncData} (F:Fun K "end_of_last" "Store.end_of_last" p_T f fd) (T:Txt K mg CO) (TS:e_L K mg CS CO) (ex:o_m K mg CT CF CM CN):FnOk P w K mg base (CXR P w) 1 f fd ["self"] (n_r CS CO CN):=by
 refine F.okX p_B (λvs H Q E h=> ?_) (λcdv A outer s H vs Q E hr h=> ?_)
 ·obtain⟨A,room,l,st,ms,rfl,_⟩:=h
  rfl
 ·obtain⟨A,room,l,st,ms,rfl,S,k1,k2⟩:=h
  refine⟨_,a_c (a_C (a_k a_H (a_y a_v (by rfl) T.len r_V (a_a (a_D (pv 0) rfl) a_d)) a_f (a_o _)) (a_g (c_5 ex.n e_e (a_a a_l a_d))) a_q)
   (a_g (a_n (e_p r_W PySem.F.slot_list_pop PySem.F.type_list_pop f_S (a_D (pv 0) rfl)))),?_⟩
  refine⟨_,rfl,A.o,CS,A.dx,_,_,rfl,S.ob,TS.cl,TS.nMarks,d_j,A.ml,_,rfl,.inl (SqL.of S.mls),rfl,_,rfl,a_x (λc=> ?_) (λc=> ?_)⟩
  ·have hms:ms= []:=by
    have:=r_U c
    injection this with this
    rw[r_c,r_O] at this
    exact r_I.mp (by omega)
   exact⟨by show 1<=sizeLine;decide,k2 hms⟩
  ·cases ms with
   | nil=>exact absurd (r_S rfl) c
   | cons m r=>
     refine⟨_,rfl,A.o,CS,A.dx,_,_,rfl,S.ob,TS.cl,TS.nMarks,d_j,.inl ⟨rfl,_,SqL.of S.mls⟩,A.ml,_,V.int (m:Nat),rfl,rfl,S.mls,?_, ?_⟩
     ·rw[List.reverse_cons,r_k]
      simp
     ·obtain⟨S2,F2⟩:=S.setMl (ms':=r) (H':=upd H A.ml (.lst (((m::r).reverse.map λm:Nat=>V.int m).dropLast))) (by rw[List.reverse_cons,r_k];simp)
      refine k1 m r rfl _ S2 F2 λb xs e=> ?_
      rw[a_i (λq=>by rw[q,S.mls] at e;cases e)]
      exact e
end
end K1
namespace L2
open PySem PySem.Spec PyProof.Rows
theorem PS.nox {X:Cx} {st:Stmt} {t:TS} (h:PS X.nox st t):PS X st t:=λpins s σ H D I hw=>
 wpAny_mono (h pins s σ H D (I.wish _) hw) (λ_ _ q=>q.unwish) λ_ _ z=>False.elim z
end L2
namespace TO
open PySem L2
theorem Hs.chg {N:Nat} {l:List Row} {st:List a_Y} {ms:List Nat} {ks:List (List Row)} {p:a_Y} (h:Hs N l st ms ks) (k:StepOk l p):Hs (N+1) (d_1 l p) (if ms= [] then st else p::st) ms ks:=by
 have hl:=n_Q k
 have hN:=h.le
 by_cases e:ms= []
 ·subst e
  obtain⟨rfl,rfl⟩:=h.none
  rw[if_pos rfl]
  exact .nil (by omega) (g_i h.nums p)
 ·rw[if_neg e]
  exact .step e k (.refl _) (by omega) (h.mono (Nat.le_succ _))
end TO
namespace K1
open PySem L2 TO
structure SAt (CS CO:Addr) (H:Hp) (A:Ads) (N:Nat) (room:Int) (s:Sto):Prop where
 ex:∃l st ms,f_A CS CO H A room l st ms/\Hs N l st ms s.marks/\l.Perm s.kept/\st.length<=N/\ms.length<=N
section
variable {CS CO:Addr} {H H':Hp} {A:Ads} {N:Nat} {room:Int} {s:Sto}
theorem SAt.mono {M:Nat} (h:SAt CS CO H A N room s) (hM:N<=M):SAt CS CO H A M room s:=by
 obtain⟨l,st,ms,a,b,c,d,e⟩:=h.ex
 exact⟨l,st,ms,a,b.mono hM,c,by omega,by omega⟩
theorem SAt.same (h:SAt CS CO H A N room s) (e:Same H H'):SAt CS CO H' A N room s:=by
 obtain⟨l,st,ms,a,r⟩:=h.ex
 exact⟨l,st,ms,a.same e,r⟩
theorem SAt.nums (h:SAt CS CO H A N room s):b_7 s.kept:=by
 obtain⟨l,st,ms,a,b,c,_⟩:=h.ex
 exact b_K c b.nums
end
abbrev m_8 (CS CO:Addr) (H:Hp) (A:Ads) (N:Nat) (room:Int) (Q:VK) (s':Sto):Prop:=∀(A':Ads) (H':Hp),SAt CS CO H' A' N room s'->A'.o=A.o->Stp H H' A.fp A'.fp->a_R H H'->Q .non H'
section
variable {P:Program} {w:World} {K:PySem.W.Frag} {mg:Str->Option Value} {base:Heap}
def j_N (CS CO CT CF:Addr):Sp:=λvs H Q E=>∃(A:Ads) (a:Addr) (ρ:Row) (N:Nat) (room:Int) (s:Sto),vs= [.ref A.o,.ref a]/\SAt CS CO H A N room s/\RowAt H a ρ/\k_v ρ.n/\N<=8000/\
 (b_s s.kept ρ.n=true->E (.ref CT) none H)/\(b_s s.kept ρ.n=false->room<=(s.kept.length:Int)->E (.ref CF) none H)/\(b_s s.kept ρ.n=false->¬ room<=(s.kept.length:Int)->m_8 CS CO H A (N+1) room Q { s with kept:=c_e s.kept ρ })
theorem i_M:a_s ["self","row","number"] ["self","row"] (a_m k_n):=⟨rfl,rfl,rfl,by decide+kernel,rfl,by decide+kernel,by decide+kernel⟩
theorem l_l {f fC CS CO CT CF CM CN:Addr} {fd fdC:FuncData} (F:Fun K "bring" "Store.bring" k_n f fd) (T:Txt K mg CO) (TS:e_L K mg CS CO) (ex:o_m K mg CT CF CM CN)
 (mC:Mf K CS "change" fC fdC ["self","old","new"]) (GC:FnOk P w K mg base CX0 6 fC fdC ["self","old","new"] (d_M CS CO)):FnOk P w K mg base (CXR P w) 7 f fd ["self","row"] (j_N CS CO CT CF):=by
 refine F.okX i_M (λvs H Q E h=> ?_) (λcdv A outer s H vs Q E hr h=> ?_)
 ·obtain⟨A,a,ρ,N,room,s,rfl,_⟩:=h
  rfl
 ·obtain⟨A,a,ρ,N,room,so,rfl,S,ha,ht,hN,k1,k2,k3⟩:=h
  obtain⟨l,st,ms,C,hs,hp,h1,h2⟩:=S.ex
  have hu1:=e_G hr
  refine⟨_,a_c (a_w (i:=2) i_M.nd rfl (Or.inl rfl) (a_r a_p (pv 1) a_f (λ_ _=>rfl)))
   (a_c (a_C (d_y (l_Q hu1 (pv 2) (a_D (pv 0) rfl))) (a_g (c_5 ex.t e_e (a_a (o_5 a_l (pv 2) a_l (by decide+kernel) (by decide+kernel)) a_d))) a_q)
   (a_c (a_C (a_k i_W (a_y f_G (by rfl) T.len r_V (a_a (a_D (pv 0) rfl) a_d)) (a_D (pv 0) rfl) (a_o _)) (a_g (c_5 ex.f e_e (a_a a_l a_d))) a_q)
   (a_g (a_z (a_N (pv 0) TS.cl mC.m GC hr mC.b .nil a_u (a_a l_F (a_a (pv 1) a_d))))))),?_⟩
  obtain⟨rs,hk,hR⟩:=C.nb
  obtain⟨v1,v2⟩:=b_U (n:=ρ.n) hR
  have gn:DGet H A.nb (.int ρ.n) (d_u (a_L rs l) (Sum.inl ρ.n)):=DGet.k (k:=Sum.inl ρ.n) hk
  have eh:=b_B hp ρ.n
  have el:(a_L rs l).length=so.kept.length:=by rw[c_O hR,hp.length_eq]
  refine⟨_,rfl,a,_,_,_,rfl,rfl,SqT.of ha,a_e (j:=0) rfl,?_⟩
  refine⟨_,rfl,_,rfl,A.o,CS,A.dx,_,_,rfl,C.ob,TS.cl,TS.nNum,e_H,A.nb,_,rfl,gn,_,rfl,?_⟩
  rw[v1,eh]
  refine a_x (λc=>⟨_,rfl,ρ.n,rfl,ht,λy=>⟨by show 1<=sizeLine;decide,k1 c⟩⟩) (λc=> ?_)
  have c':b_s so.kept ρ.n=false:=by cases q:b_s so.kept ρ.n with
   | false=>rfl
   | true=>exact absurd q c
  refine⟨_,rfl,A.o,CS,A.dx,_,_,rfl,C.ob,TS.cl,TS.nNum,e_H,A.nb,_,rfl,hk,_,rfl,A.o,CS,A.dx,_,_,rfl,C.ob,TS.cl,TS.nRoom,n_H,_,_,rfl,rfl,_,rfl,?_⟩
  rw[el]
  refine a_x (λq=>⟨by show 1<=sizeLine;decide,k2 c' (r_U q)⟩) (λq=> ?_)
  have ok:=k_C (l:=l) (ρ:=ρ) (by rw[eh];exact c')
  have hle:=hs.le
  refine⟨_,rfl,A.o,A.dx,_,rfl,C.ob,d_o (by decide+kernel) (by decide+kernel) (by decide+kernel) (by decide+kernel) (by decide+kernel) (by decide+kernel),_,rfl,A,.non,.ref a,(none,some ρ),room,l,st,ms,rfl,C,rfl,⟨a,rfl,ha⟩,ok,hs.nums,by omega,by omega,λA' H' C' e' F' tk=> ?_⟩
  refine k3 c' (λz=>q (r_S z)) A' H' ⟨_,_,_,C',hs.chg ok,f_C hp ρ,?_, by omega⟩ e' F' tk
  split <;> (try simp only[r_i]) <;> omega
def i_F (CS CO CM:Addr):Sp:=λvs H Q E=>∃(A:Ads) (a:Addr) (ρ:Row) (N:Nat) (room:Int) (s:Sto),vs= [.ref A.o,.ref a]/\SAt CS CO H A N room s/\RowAt H a ρ/\k_v ρ.n/\N<=8000/\
 (b_s s.kept ρ.n=false->E (.ref CM) none H)/\(b_s s.kept ρ.n=true->m_8 CS CO H A (N+1) room Q { s with kept:=c_e s.kept ρ })
theorem n_v:a_s ["self","row"] ["self","row"] (a_m i_H):=⟨rfl,rfl,rfl,by decide+kernel,rfl,by decide+kernel,by decide+kernel⟩
theorem l_t {f fC fR CS CO CM:Addr} {fd fdC fdR:FuncData} (F:Fun K "alter" "Store.alter" i_H f fd) (TS:e_L K mg CS CO)
 (mC:Mf K CS "change" fC fdC ["self","old","new"]) (GC:FnOk P w K mg base CX0 6 fC fdC ["self","old","new"] (d_M CS CO)) (mR:Mf K CS "row_of" fR fdR ["self","number"]) (GR:FnOk P w K mg base (CXR P w) 1 fR fdR ["self","number"] (e_u CS CO CM)):
 FnOk P w K mg base (CXR P w) 7 f fd ["self","row"] (i_F CS CO CM):=by
 refine F.okX n_v (λvs H Q E h=> ?_) (λcdv A outer s H vs Q E hr h=> ?_)
 ·obtain⟨A,a,ρ,N,room,s,rfl,_⟩:=h
  rfl
 ·obtain⟨A,a,ρ,N,room,so,rfl,S,ha,ht,hN,k1,k2⟩:=h
  obtain⟨l,st,ms,C,hs,hp,h1,h2⟩:=S.ex
  have hr1:Room 1 _:=hr.mono (by decide)
  refine⟨_,a_g (a_z (a_N (pv 0) TS.cl mC.m GC hr mC.b .nil a_u (a_a (a_N (pv 0) TS.cl mR.m GR hr1 mR.b .nil (c_h (E':=E) λ_ _ _ h=>h) (a_a (a_r a_p (pv 1) a_f (λ_ _=>rfl)) a_d)) (a_a (pv 1) a_d)))),?_⟩
  have eh:=b_B hp ρ.n
  have hle:=hs.le
  refine⟨_,rfl,A.o,A.dx,_,rfl,C.ob,d_o (by decide+kernel) (by decide+kernel) (by decide+kernel) (by decide+kernel) (by decide+kernel) (by decide+kernel),_,rfl,A.o,A.dx,_,rfl,C.ob,d_o (by decide+kernel) (by decide+kernel) (by decide+kernel) (by decide+kernel) (by decide+kernel) (by decide+kernel),_,rfl,a,_,_,_,rfl,rfl,SqT.of ha,a_e (j:=0) rfl,A,ρ.n,room,l,st,ms,rfl,C,ht,λc r κ hf hκ=> ?_, λc=>k1 (by rw[<-eh];exact c)⟩
  obtain⟨κ',e1,e2,e3⟩:=c_I c
  rw[hf] at e1
  cases e1
  have ok:=l_y (ρ:=ρ) e2 e3
  refine⟨_,rfl,A,.ref r,.ref a,(some κ,some ρ),room,l,st,ms,rfl,C,⟨r,rfl,hκ⟩,⟨a,rfl,ha⟩,ok,hs.nums,by omega,by omega,λA' H' C' e' F' tk=> ?_⟩
  refine k2 (by rw[<-eh];exact c) A' H' ⟨_,_,_,C',hs.chg ok,(k_1 hs.nums e2 e3).trans (f_C hp ρ),?_, by omega⟩ e' F' tk
  split <;> (try simp only[r_i]) <;> omega
def o_g (CS CO CM:Addr):Sp:=λvs H Q E=>∃(A:Ads) (n:Int) (N:Nat) (room:Int) (s:Sto),vs= [.ref A.o,.int n]/\SAt CS CO H A N room s/\k_v n/\N<=8000/\
 (b_s s.kept n=false->E (.ref CM) none H)/\(b_s s.kept n=true->m_8 CS CO H A (N+1) room Q { s with kept:=b_a s.kept n })
theorem q_c:a_s ["self","number"] ["self","number"] (a_m p_Z):=⟨rfl,rfl,rfl,by decide+kernel,rfl,by decide+kernel,by decide+kernel⟩
theorem o_Y {f fC fR CS CO CM:Addr} {fd fdC fdR:FuncData} (F:Fun K "cut" "Store.cut" p_Z f fd) (TS:e_L K mg CS CO)
 (mC:Mf K CS "change" fC fdC ["self","old","new"]) (GC:FnOk P w K mg base CX0 6 fC fdC ["self","old","new"] (d_M CS CO)) (mR:Mf K CS "row_of" fR fdR ["self","number"]) (GR:FnOk P w K mg base (CXR P w) 1 fR fdR ["self","number"] (e_u CS CO CM)):
 FnOk P w K mg base (CXR P w) 7 f fd ["self","number"] (o_g CS CO CM):=by
 refine F.okX q_c (λvs H Q E h=> ?_) (λcdv A outer s H vs Q E hr h=> ?_)
 ·obtain⟨A,n,N,room,s,rfl,_⟩:=h
  rfl
 ·obtain⟨A,n,N,room,so,rfl,S,ht,hN,k1,k2⟩:=h
  obtain⟨l,st,ms,C,hs,hp,h1,h2⟩:=S.ex
  have hr1:Room 1 _:=hr.mono (by decide)
  refine⟨_,a_g (a_z (a_N (pv 0) TS.cl mC.m GC hr mC.b .nil a_u (a_a (a_N (pv 0) TS.cl mR.m GR hr1 mR.b .nil (c_h (E':=E) λ_ _ _ h=>h) (a_a (pv 1) a_d)) (a_a l_F a_d)))),?_⟩
  have eh:=b_B hp n
  have hle:=hs.le
  refine⟨_,rfl,A.o,A.dx,_,rfl,C.ob,d_o (by decide+kernel) (by decide+kernel) (by decide+kernel) (by decide+kernel) (by decide+kernel) (by decide+kernel),_,rfl,A.o,A.dx,_,rfl,C.ob,d_o (by decide+kernel) (by decide+kernel) (by decide+kernel) (by decide+kernel) (by decide+kernel) (by decide+kernel),_,rfl,A,n,room,l,st,ms,rfl,C,ht,λc r κ hf hκ=> ?_, λc=>k1 (by rw[<-eh];exact c)⟩
  obtain⟨κ',e1,e2,e3⟩:=c_I c
  rw[hf] at e1
  cases e1
  have ok:=p_b e2
  refine⟨A,.ref r,.non,(some κ,none),room,l,st,ms,rfl,C,⟨r,rfl,hκ⟩,rfl,ok,hs.nums,by omega,by omega,λA' H' C' e' F' tk=> ?_⟩
  have ed:d_1 l (some κ,none)=b_a l n:=by rw[<-e3];rfl
  refine k2 (by rw[<-eh];exact c) A' H' ⟨_,_,_,C',hs.chg ok,by rw[ed];exact e_I hp n,?_, by omega⟩ e' F' tk
  split <;> (try simp only[r_i]) <;> omega
def g_7 (CS CO:Addr):Sp:=λvs H Q _=>∃(A:Ads) (N:Nat) (room:Int) (s:Sto),vs= [.ref A.o]/\SAt CS CO H A N room s/\N<=8000/\m_8 CS CO H A (N+1) room Q { s with marks:=s.kept::s.marks }
theorem m_K:a_s ["self"] ["self"] (a_m j_6):=⟨rfl,rfl,rfl,by decide+kernel,rfl,by decide+kernel,by decide+kernel⟩
theorem l_a {f CS CO:Addr} {fd:FuncData} (F:Fun K "begin" "Store.begin" j_6 f fd) (T:Txt K mg CO) (TS:e_L K mg CS CO):FnOk P w K mg base CX0 1 f fd ["self"] (g_7 CS CO):=by
 refine F.ok m_K (λvs H Q E h=> ?_) (λcdv A outer s H vs Q E hr h=> ?_)
 ·obtain⟨A,N,room,s,rfl,_⟩:=h
  rfl
 ·obtain⟨A,N,room,so,rfl,S,hN,fin⟩:=h
  obtain⟨l,st,ms,C,hs,hp,h1,h2⟩:=S.ex
  refine⟨_,a_g (a_z (b_C r_W r_Y r_X a_Q (a_D (pv 0) rfl) (a_a (a_y a_v (by rfl) T.len r_V (a_a (a_D (pv 0) rfl) a_d)) a_d))),?_⟩
  have hlen:A.sas.length=st.length:=by rw[Paired.length C.sts,r_O]
  refine⟨_,rfl,A.o,CS,A.dx,_,_,rfl,C.ob,TS.cl,TS.nMarks,d_j,.inl ⟨rfl,_,SqL.of C.mls⟩,_,rfl,A.o,CS,A.dx,_,_,rfl,C.ob,TS.cl,TS.nSteps,d_N,A.sl,_,rfl,.inl (SqL.of C.sls),A.ml,_,_,rfl,rfl,C.mls,?_, ?_⟩
  ·rw[r_c,r_O]
   exact r_R (r_x h2 hN) (by decide)
  ·obtain⟨C2,F2⟩:=C.setMl (ms':=st.length::ms) (H':=upd H A.ml (.lst ((ms.reverse.map λm:Nat=>V.int m)++ [V.int (((A.sas.map V.ref).length:Nat):Int)]))) (by rw[List.reverse_cons,r_k,r_c,hlen];rfl)
   refine fin A _ ⟨_,_,_,C2,.mark hp.symm (hs.mono (Nat.le_succ _)),hp,by omega,by simp only[r_i];omega⟩ rfl F2 λb xs e=> ?_
   rw[a_i (λq=>by rw[q,C.mls] at e;cases e)]
   exact e
def j_Z (CS CO CN:Addr):Sp:=λvs H Q E=>∃(A:Ads) (N:Nat) (room:Int) (s:Sto),vs= [.ref A.o]/\SAt CS CO H A N room s/\(s.marks= []->E (.ref CN) none H)/\∀k r,s.marks=k::r->m_8 CS CO H A N room Q { s with marks:=r }
theorem o_Q:a_s ["self"] ["self"] (a_m m_3):=⟨rfl,rfl,rfl,by decide+kernel,rfl,by decide+kernel,by decide+kernel⟩
theorem c_2 {N:Nat} {l:List Row} {st:List a_Y} {ms:List Nat} {ks:List (List Row)} (h:Hs N l st ms ks):ms= []↔ks= []:=by
 have:=h.lens
 constructor
 ·rintro rfl;exact r_I.mp this.symm
 ·rintro rfl;exact r_I.mp this
theorem m_Q {f fE CS CO CN:Addr} {fd fdE:FuncData} (F:Fun K "keep" "Store.keep" m_3 f fd) (T:Txt K mg CO) (TS:e_L K mg CS CO) (mE:Mf K CS "end_of_last" fE fdE ["self"]) (GE:FnOk P w K mg base (CXR P w) 1 fE fdE ["self"] (n_r CS CO CN)):
 FnOk P w K mg base (CXR P w) 2 f fd ["self"] (j_Z CS CO CN):=by
 refine F.okX o_Q (λvs H Q E h=> ?_) (λcdv A outer s H vs Q E hr h=> ?_)
 ·obtain⟨A,N,room,s,rfl,_⟩:=h
  rfl
 ·obtain⟨A,N,room,so,rfl,S,k1,k2⟩:=h
  obtain⟨l,st,ms,C,hs,hp,h1,h2⟩:=S.ex
  refine⟨_,a_c (a_z (b_w (pv 0) TS.cl mE.m GE hr mE.b .nil (c_h (E':=E) λ_ _ _ h=>h)))
   (a_g (a_C (a_k a_H (a_y a_v (by rfl) T.len r_V (a_a (a_D (pv 0) rfl) a_d)) a_f (a_o _)) (a_g (d_d (pv 0) (a_U a_d) rfl)) a_q)),?_⟩
  refine⟨_,rfl,A.o,A.dx,_,rfl,C.ob,d_o (by decide+kernel) (by decide+kernel) (by decide+kernel) (by decide+kernel) (by decide+kernel) (by decide+kernel),A,room,l,st,ms,rfl,C,λm r em H1 C1 F1 tk1=> ?_, λe=>k1 ((c_2 hs).mp e)⟩
  subst em
  obtain⟨k,ks,ek⟩:∃k ks,so.marks=k::ks:=by
   cases q:so.marks with
   | nil=>rw[q] at hs;exact absurd ((c_2 hs).mpr rfl) (by simp)
   | cons k ks=>exact⟨k,ks,rfl⟩
  have k3:=k2 k ks ek
  rw[ek] at hs
  refine⟨_,rfl,A.o,CS,A.dx,_,_,rfl,C1.ob,TS.cl,TS.nMarks,d_j,A.ml,_,rfl,.inl (SqL.of C1.mls),rfl,_,rfl,a_x (λc=> ?_) (λc=> ?_)⟩
  ·have hr0:r= []:=by
    have:=r_U c
    injection this with this
    rw[r_c,r_O] at this
    exact r_I.mp (by omega)
   subst hr0
   have hks:ks= []:=by
    have:=hs.lens
    simp only[r_i,r_M] at this
    exact r_I.mp (by omega)
   subst hks
   refine⟨by show 0<=sizeLine;decide,λsl' hs'=> ?_⟩
   obtain⟨C2,F2⟩:=C1.newSl TS.cc hs'
   have hob:(upd H1 sl' (.lst [])) A.o=some (.ins CS A.dx (b_6 room A.nb A.o1 A.o2 A.sl A.ml)):=by rw[a_i (a_h C1.ob hs')];exact C1.ob
   refine⟨_,rfl,A.o,CS,A.dx,_,rfl,hob,TS.cl,TS.nSteps,by show 6 < 1000;decide,?_⟩
   rw[o_l]
   refine k3 _ _ ⟨_,_,_,C2,.nil hs.le hs.nums,hp,by simp,by simp⟩ rfl (F1.trans F2) λb xs e=> ?_
   have e2:=tk1 _ _ e
   rw[a_i (λq=>by rw[q,C1.ob] at e2;cases e2),a_i (a_h e2 hs')]
   exact e2
  ·have hr0:r≠ []:=λq=>by rw[q] at c;exact absurd (r_S rfl) c
   exact k3 A H1 ⟨_,_,_,C1,Hs.keep hr0 hs,hp,h1,by simp only[r_i] at h2;omega⟩ rfl F1 tk1
def g_x (CS CO CN:Addr):Sp:=λvs H Q E=>∃(A:Ads) (N:Nat) (room:Int) (s:Sto),vs= [.ref A.o]/\SAt CS CO H A N room s/\N<=8000/\(s.marks= []->E (.ref CN) none H)/\∀k r,s.marks=k::r->m_8 CS CO H A N room Q ⟨k,r⟩
theorem g_X:a_s ["self","mark","step"] ["self"] (a_m i_J):=⟨rfl,rfl,rfl,by decide+kernel,rfl,by decide+kernel,by decide+kernel⟩
theorem l_b {f fE fX CS CO CN:Addr} {fd fdE fdX:FuncData} (F:Fun K "break_off" "Store.break_off" i_J f fd) (T:Txt K mg CO) (TS:e_L K mg CS CO) (mE:Mf K CS "end_of_last" fE fdE ["self"]) (GE:FnOk P w K mg base (CXR P w) 1 fE fdE ["self"] (n_r CS CO CN))
 (mX:Mf K CS "exchange" fX fdX ["self","old","new"]) (GX:FnOk P w K mg base CX0 5 fX fdX ["self","old","new"] (k_e CS CO)):FnOk P w K mg base (CXR P w) 6 f fd ["self"] (g_x CS CO CN):=by
 refine F.okX g_X (λvs H Q E h=> ?_) (λcdv A outer s H vs Q E hr h=> ?_)
 ·obtain⟨A,N,room,s,rfl,_⟩:=h
  rfl
 ·obtain⟨A,N,room,so,rfl,S,hN,k1,k2⟩:=h
  obtain⟨l,st,ms,C,hs,hp,h1,h2⟩:=S.ex
  have hr1:Room 1 _:=hr.mono (by decide)
  refine⟨_,a_c (a_w (i:=1) g_X.nd rfl (Or.inl rfl) (b_w (pv 0) TS.cl mE.m GE hr1 mE.b .nil (c_h (E':=E) λ_ _ _ h=>h)))
   (a_g (PS.nox (d_g PassesOwn.never (a_k h_0 (a_y a_v (by rfl) T.len r_V (a_a (a_D (pv 0) rfl) a_d)) (pv 1) (a_o _))
     (a_c (a_w (i:=2) g_X.nd rfl (Or.inl rfl) (e_p r_W PySem.F.slot_list_pop PySem.F.type_list_pop f_S (a_D (pv 0) rfl)))
     (a_g (a_z (a_N (pv 0) TS.cl mX.m GX hr mX.b .nil a_u (a_a (a_r a_p (pv 2) a_f (λ_ _=>rfl)) (a_a (a_r a_p (pv 2) a_f (λ_ _=>rfl)) a_d))))))))),?_⟩
  refine⟨_,rfl,A.o,A.dx,_,rfl,C.ob,d_o (by decide+kernel) (by decide+kernel) (by decide+kernel) (by decide+kernel) (by decide+kernel) (by decide+kernel),A,room,l,st,ms,rfl,C,λm r em H1 C1 F1 tk1=> ?_, λe=>k1 ((c_2 hs).mp e)⟩
  subst em
  obtain⟨k,ks,ek⟩:∃k ks,so.marks=k::ks:=by
   cases q:so.marks with
   | nil=>rw[q] at hs;exact absurd ((c_2 hs).mpr rfl) (by simp)
   | cons k ks=>exact⟨k,ks,rfl⟩
  have k3:=k2 k ks ek
  rw[ek] at hs
  refine⟨λd σ H2=>∃(A2:Ads) (l2:List Row) (st2:List a_Y) (v:Option V),σ= [some (.ref A.o),some (.int (m:Nat)),v]/\d=st2.length/\f_A CS CO H2 A2 room l2 st2 r/\A2.o=A.o/\Stp H H2 A.fp A2.fp/\a_R H H2/\Hs N l2 st2 (m::r) (k::ks)/\st2.length<=N,
   ⟨_,A,l,st,none,rfl,rfl,C1,rfl,F1,tk1,hs,h1⟩,?_⟩
  rintro d σ H2 ⟨A2,l2,st2,v,rfl,rfl,C2,e2,F2,tk2,hs2,h3⟩
  have hob:=C2.ob
  rw[e2] at hob
  have hlen:A2.sas.length=st2.length:=by rw[Paired.length C2.sts,r_O]
  refine⟨_,rfl,A.o,CS,A2.dx,_,_,rfl,hob,TS.cl,TS.nSteps,d_N,A2.sl,_,rfl,.inl (SqL.of C2.sls),_,rfl,_,_,rfl,rfl,_,rfl,?_⟩
  rw[r_c,hlen]
  refine a_x (λc=> ?_) (λc=> ?_)
  ·have c':m < st2.length:=by have:=r_U c;omega
   cases st2 with
   | nil=>simp at c'
   | cons p st3=>
     simp only[r_i] at c'
     obtain⟨ok,hs3⟩:=hs2.back (by omega)
     have hsts:=C2.sts
     rw[List.reverse_cons] at hsts
     obtain⟨l₁,t,l₂,es,hp1,⟨u,v',ht,hu,hv⟩,hp2⟩:=b_c hsts
     cases hp2
     refine⟨λσ' H'=>∃(A3:Ads) (v3:Option V),σ'= [some (.ref A.o),some (.int (m:Nat)),v3]/\f_A CS CO H' A3 room (d_1 l2 (p.2,p.1)) st3 r/\A3.o=A.o/\Stp H H' A.fp A3.fp/\a_R H H',?_, ?_⟩
     ·rintro σ' H' ⟨A3,v3,rfl,C3,e3,F3,tk3⟩
      exact⟨st3.length,by simp,A3,_,st3,v3,rfl,rfl,C3,e3,F3,tk3,hs3,by simp only[r_i] at h3;omega⟩
     ·have els:A2.sas.map V.ref=l₁.map V.ref++ [V.ref t]:=by rw[es,r_k];rfl
      refine⟨_,rfl,A.o,CS,A2.dx,_,_,rfl,hob,TS.cl,TS.nSteps,d_N,.inl ⟨rfl,_,SqL.of C2.sls⟩,A2.sl,_,V.ref t,rfl,rfl,C2.sls,?_, ?_⟩
      ·rw[els];simp
      obtain⟨C3,F3⟩:=C2.setSl (sas':=l₁) (st':=st3) (H':=upd H2 A2.sl (.lst (A2.sas.map V.ref).dropLast)) (by rw[els];simp) hp1
      have tk3:a_R H2 (upd H2 A2.sl (.lst (A2.sas.map V.ref).dropLast)):=λb xs e=>by
       rw[a_i (λq=>by rw[q,C2.sls] at e;cases e)];exact e
      have hob3:=C3.ob
      dsimp only at hob3
      rw[e2] at hob3
      have hle:=hs2.le
      refine⟨_,rfl,A.o,A2.dx,_,rfl,hob3,d_o (by decide+kernel) (by decide+kernel) (by decide+kernel) (by decide+kernel) (by decide+kernel) (by decide+kernel),_,rfl,t,_,_,_,rfl,rfl,SqT.of (tk3 _ _ ht),a_e (j:=1) rfl,_,rfl,t,_,_,_,rfl,rfl,SqT.of (tk3 _ _ ht),a_e (j:=0) rfl,{ A2 with sas:=l₁ },v',u,(p.2,p.1),room,l2,st3,r,by rw[<-e2];rfl,C3,hv.tk tk3,hu.tk tk3,ok,hs2.nums,by omega,λA4 H4 C4 e4 F4 tk4=> ?_⟩
      exact⟨A4,_,rfl,C4,e4.trans e2,(F2.trans F3).trans F4,λb xs e=>tk4 _ _ (tk3 _ _ (tk2 _ _ e))⟩
  ·have c':st2.length≤m:=by
    have:¬ ((st2.length:Int) > (m:Int)):=λz=>c (r_S z)
    omega
   obtain⟨q1,q2⟩:=hs2.at c'
   exact k3 A2 H2 ⟨_,_,_,C2,q2,q1.symm,h3,by simp only[r_i] at h2;omega⟩ e2 F2 tk2
end
theorem l_T {P:Program} {w:World} {X:Cx}:c_m (CXR P w) X E0:=by
 rintro pins σ H s e s' I ⟨a,C,H',_,_,_,_,q⟩
 exact q.elim
section
variable {P:Program} {w:World} {K:PySem.W.Frag} {mg:Str->Option Value} {base:Heap}
def h_a (CS CO:Addr):Sp:=λvs H Q _=>∃(p dx:Addr) (room:Int),vs= [.ref p,.int room]/\H p=some (.ins CS dx [])/\
 ∀(A':Ads) (H':Hp),SAt CS CO H' A' 0 room ⟨[], []⟩->A'.o=p->(∀b∈A'.fp,b=p\/H b=none)->(∀b u,H b=some u->b≠p->H' b=some u)->Q .non H'
theorem m_X:a_s ["self","room"] ["self","room"] (a_m n_t):=⟨rfl,rfl,rfl,by decide+kernel,rfl,by decide+kernel,by decide+kernel⟩
theorem k_z {f fI CS CO:Addr} {fd fdI:FuncData} (F:Fun K "__init__" "Store.__init__" n_t f fd) (T:Txt K mg CO) (TS:e_L K mg CS CO) (M:Mk K CO fI) (bI:Binds K fdI ["self","word"] []) (GI:FnOk P w K mg base CX0 2 fI fdI ["self","word"] (l_W CO)):
 FnOk P w K mg base CX0 4 f fd ["self","room"] (h_a CS CO):=by
 refine F.ok m_X (λvs H Q E h=> ?_) (λcdv A outer s H vs Q E hr h=> ?_)
 ·obtain⟨p,dx,room,rfl,_⟩:=h
  rfl
 ·obtain⟨p,dx,room,rfl,hp,fin⟩:=h
  obtain⟨t1,h1⟩:=T.rank
  obtain⟨t2,h2⟩:=T.text
  refine⟨_,a_c (d_d (pv 0) (pv 1) rfl) (a_c (d_d (pv 0) h_L rfl) (a_c (d_d (pv 0) (e_7 M GI hr rfl T.mgC bI .nil a_u (a_a (d_C h1) a_d)) rfl)
   (a_c (d_d (pv 0) (e_7 M GI hr rfl T.mgC bI .nil a_u (a_a (d_C h2) a_d)) rfl) (a_c (d_d (pv 0) (a_U a_d) rfl) (a_g (d_d (pv 0) (a_U a_d) rfl)))))),?_⟩
  refine⟨_,rfl,_,rfl,p,CS,dx,_,rfl,hp,TS.cl,TS.nRoom,by show 0 < 1000;decide,?_⟩
  have g1:∀b u,H b=some u->b≠p->(upd H p (.ins CS dx [("room",V.int room)])) b=some u:=b_x
  show _
  generalize eH1:upd H p (.ins CS dx (d_m "room" (.int room) []))=H1
  have p1:H1 p=some (.ins CS dx [("room",.int room)]):=by rw[<-eH1];exact a_b
  have k1:∀b u,H b=some u->b≠p->H1 b=some u:=by rw[<-eH1];exact b_x
  have f1:∀b,H1 b=none->b≠p/\H b=none:=λb hb=>by
   have:b≠p:=λe=>by rw[e,p1] at hb;cases hb
   exact⟨this,by rw[<-eH1,a_i this] at hb;exact hb⟩
  clear eH1
  refine λnb hnb=>⟨_,rfl,p,CS,dx,_,rfl,by rw[a_i (a_h p1 hnb)];exact p1,TS.cl,TS.nNum,by show 1 < 1000;decide,?_⟩
  have ef:d_m ("by_number":Str) (V.ref nb) [(("room":Str),V.int room)]= [(("room":Str),V.int room),("by_number",.ref nb)]:=by rw[a_5 (by decide+kernel)];rfl
  rw[ef]
  generalize eH2:upd (upd H1 nb (.dK [])) p (.ins CS dx [("room",.int room),("by_number",.ref nb)])=H2
  have np:nb≠p:=(f1 nb hnb).1
  have p2:H2 p=some (.ins CS dx [("room",.int room),("by_number",.ref nb)]):=by rw[<-eH2];exact a_b
  have d2:H2 nb=some (.dK []):=by rw[<-eH2,a_i np];exact a_b
  have k2:∀b u,H b=some u->b≠p->H2 b=some u:=λb u hb hn=>by rw[<-eH2,a_i hn,a_i (a_h (k1 b u hb hn) hnb)];exact k1 b u hb hn
  have f2:∀b,H2 b=none->b≠p/\H b=none:=λb hb=>by
   have q1:b≠p:=λe=>by rw[e,p2] at hb;cases hb
   have q2:b≠nb:=λe=>by rw[e,d2] at hb;cases hb
   exact⟨q1,by rw[<-eH2,a_i q1,a_i q2] at hb;exact (f1 b hb).2⟩
  clear eH2
  refine λo1 dx1 no1 nd1 ne1=>⟨false,o1,dx1,rfl,a_b,λbl1 H3 hbl1 O1 q3=>⟨rfl,?_⟩⟩
  have up3:∀b u,H2 b=some u->H3 b=some u:=λb u hb=>q3 b u (by rw[a_i (a_h hb no1),a_i (a_h hb nd1)];exact hb) (a_h hb no1)
  have fb1:H2 bl1=none:=by
   cases e:H2 bl1 with
   | none=>rfl
   | some u=>rw[a_i (a_h e no1),a_i (a_h e nd1),e] at hbl1;cases hbl1
  refine⟨_,rfl,p,CS,dx,_,rfl,up3 _ _ p2,TS.cl,TS.nRank,by show 2 < 1000;decide,?_⟩
  have ef3:d_m ("by_rank":Str) (V.ref o1) [(("room":Str),V.int room),("by_number",.ref nb)]= [(("room":Str),V.int room),("by_number",.ref nb),("by_rank",.ref o1)]:=by rw[a_5 (by decide+kernel),a_5 (by decide+kernel)];rfl
  rw[ef3]
  have tkp:∀{Hx:Hp} {fl fl':List (Str×V)},Hx p=some (.ins CS dx fl)->∀{w:Bool} {o bl:Addr} {bas:List Addr} {B:List (List Row)},OrdAt CO w Hx o bl bas B->OrdAt CO w (upd Hx p (.ins CS dx fl')) o bl bas B:=by
   intro Hx fl fl' hx w o bl bas B O
   obtain⟨⟨d,z1⟩,z2,z3,z4⟩:=O
   refine⟨⟨d,?_⟩,?_, ?_, z4⟩
   ·rw[a_i λe=> ?_]
    ·exact z1
    ·rw[e,hx] at z1
     injection z1 with z1
     injection z1 with z1
     exact TS.cc z1
   ·rw[a_i λe=>by rw[e,hx] at z2;cases z2];exact z2
   ·exact a_O (fun xs e=>by rw[hx] at e;cases e) z3 fun b hb e=>by
     obtain⟨xs,q⟩:=d_7 z3 b hb
     rw[e,hx] at q;cases q
  generalize eH4:upd H3 p (.ins CS dx [("room",.int room),("by_number",.ref nb),("by_rank",.ref o1)])=H4
  have O1':OrdAt CO false H4 o1 bl1 [] []:=by rw[<-eH4];exact tkp (up3 _ _ p2) O1
  have p4:H4 p=some (.ins CS dx [("room",.int room),("by_number",.ref nb),("by_rank",.ref o1)]):=by rw[<-eH4];exact a_b
  have up4:∀b u,H3 b=some u->b≠p->H4 b=some u:=by rw[<-eH4];exact b_x
  have d4:H4 nb=some (.dK []):=up4 _ _ (up3 _ _ d2) np
  have k4:∀b u,H b=some u->b≠p->H4 b=some u:=λb u hb hn=>up4 _ _ (up3 _ _ (k2 b u hb hn)) hn
  have f4:∀b,H4 b=none->b≠p/\H b=none:=λb hb=>by
   have q1:b≠p:=λe=>by rw[e,p4] at hb;cases hb
   refine⟨q1,?_⟩
   cases e:H b with
   | none=>rfl
   | some u=>rw[k4 b u e q1] at hb;cases hb
  clear eH4
  refine λo2 dx2 no2 nd2 ne2=>⟨true,o2,dx2,rfl,a_b,λbl2 H5 hbl2 O2 q5=>⟨rfl,?_⟩⟩
  have up5:∀b u,H4 b=some u->H5 b=some u:=λb u hb=>q5 b u (by rw[a_i (a_h hb no2),a_i (a_h hb nd2)];exact hb) (a_h hb no2)
  have fb2:H4 bl2=none:=by
   cases e:H4 bl2 with
   | none=>rfl
   | some u=>rw[a_i (a_h e no2),a_i (a_h e nd2),e] at hbl2;cases hbl2
  refine⟨_,rfl,p,CS,dx,_,rfl,up5 _ _ p4,TS.cl,TS.nText,by show 3 < 1000;decide,?_⟩
  have ef5:d_m ("by_text":Str) (V.ref o2) [(("room":Str),V.int room),("by_number",.ref nb),("by_rank",.ref o1)]= [(("room":Str),V.int room),("by_number",.ref nb),("by_rank",.ref o1),("by_text",.ref o2)]:=by rw[a_5 (by decide+kernel),a_5 (by decide+kernel),a_5 (by decide+kernel)];rfl
  rw[ef5]
  generalize eH6:upd H5 p (.ins CS dx [("room",.int room),("by_number",.ref nb),("by_rank",.ref o1),("by_text",.ref o2)])=H6
  have O2':OrdAt CO true H6 o2 bl2 [] []:=by rw[<-eH6];exact tkp (up5 _ _ p4) O2
  have O1'':OrdAt CO false H6 o1 bl1 [] []:=by rw[<-eH6];exact tkp (up5 _ _ p4) (O1'.same up5)
  have p6:H6 p=some (.ins CS dx [("room",.int room),("by_number",.ref nb),("by_rank",.ref o1),("by_text",.ref o2)]):=by rw[<-eH6];exact a_b
  have up6:∀b u,H5 b=some u->b≠p->H6 b=some u:=by rw[<-eH6];exact b_x
  have d6:H6 nb=some (.dK []):=up6 _ _ (up5 _ _ d4) np
  have k6:∀b u,H b=some u->b≠p->H6 b=some u:=λb u hb hn=>up6 _ _ (up5 _ _ (k4 b u hb hn)) hn
  clear eH6
  refine⟨by show 0<=sizeLine;decide,λsl hsl=> ?_⟩
  have s7:Same H6 (upd H6 sl (.lst [])):=Same.upd_new hsl
  refine⟨_,rfl,p,CS,dx,_,rfl,s7 _ _ p6,TS.cl,TS.nSteps,by show 4 < 1000;decide,?_⟩
  have ef7:d_m ("steps":Str) (V.ref sl) [(("room":Str),V.int room),("by_number",.ref nb),("by_rank",.ref o1),("by_text",.ref o2)]= [(("room":Str),V.int room),("by_number",.ref nb),("by_rank",.ref o1),("by_text",.ref o2),("steps",.ref sl)]:=by rw[a_5 (by decide+kernel),a_5 (by decide+kernel),a_5 (by decide+kernel),a_5 (by decide+kernel)];rfl
  rw[ef7]
  generalize eH8:upd (upd H6 sl (.lst [])) p (.ins CS dx [("room",.int room),("by_number",.ref nb),("by_rank",.ref o1),("by_text",.ref o2),("steps",.ref sl)])=H8
  have nsp:sl≠p:=λe=>by rw[e,p6] at hsl;cases hsl
  have p8:H8 p=some (.ins CS dx [("room",.int room),("by_number",.ref nb),("by_rank",.ref o1),("by_text",.ref o2),("steps",.ref sl)]):=by rw[<-eH8];exact a_b
  have up8:∀b u,(upd H6 sl (.lst [])) b=some u->b≠p->H8 b=some u:=by rw[<-eH8];exact b_x
  have l8:H8 sl=some (.lst []):=up8 _ _ a_b nsp
  have A1:OrdAt CO false H8 o1 bl1 [] []:=by rw[<-eH8];exact tkp (s7 _ _ p6) (O1''.same s7)
  have A2:OrdAt CO true H8 o2 bl2 [] []:=by rw[<-eH8];exact tkp (s7 _ _ p6) (O2'.same s7)
  have d8:H8 nb=some (.dK []):=up8 _ _ (s7 _ _ d6) np
  have k8:∀b u,H b=some u->b≠p->H8 b=some u:=λb u hb hn=>up8 _ _ (s7 _ _ (k6 b u hb hn)) hn
  clear eH8
  refine⟨by show 0<=sizeLine;decide,λml hml=> ?_⟩
  have s9:Same H8 (upd H8 ml (.lst [])):=Same.upd_new hml
  refine⟨_,rfl,p,CS,dx,_,rfl,s9 _ _ p8,TS.cl,TS.nMarks,by show 5 < 1000;decide,?_⟩
  have ef9:d_m ("marks":Str) (V.ref ml) [(("room":Str),V.int room),("by_number",.ref nb),("by_rank",.ref o1),("by_text",.ref o2),("steps",.ref sl)]=b_6 room nb o1 o2 sl ml:=by rw[a_5 (by decide+kernel),a_5 (by decide+kernel),a_5 (by decide+kernel),a_5 (by decide+kernel),a_5 (by decide+kernel)];rfl
  rw[ef9]
  generalize eH10:upd (upd H8 ml (.lst [])) p (.ins CS dx (b_6 room nb o1 o2 sl ml))=H10
  have nmp:ml≠p:=λe=>by rw[e,p8] at hml;cases hml
  have up10:∀b u,(upd H8 ml (.lst [])) b=some u->b≠p->H10 b=some u:=by rw[<-eH10];exact b_x
  have Z1:OrdAt CO false H10 o1 bl1 [] []:=by rw[<-eH10];exact tkp (s9 _ _ p8) (A1.same s9)
  have Z2:OrdAt CO true H10 o2 bl2 [] []:=by rw[<-eH10];exact tkp (s9 _ _ p8) (A2.same s9)
  have n1:sl≠ml:=a_h l8 hml
  have n2:bl1≠ml:=a_h A1.ls hml
  have n3:bl2≠ml:=a_h A2.ls hml
  have n4:bl1≠sl:=a_h O1''.ls hsl
  have n5:bl2≠sl:=a_h O2'.ls hsl
  have n6:bl1≠bl2:=a_h O1'.ls fb2
  have fr8:∀b,H8 b=none->b≠p/\H b=none:=λb hb=>by
   have q1:b≠p:=λe=>by rw[e,p8] at hb;cases hb
   refine⟨q1,?_⟩
   cases e:H b with
   | none=>rfl
   | some u=>rw[k8 b u e q1] at hb;cases hb
  have fr6:∀b,H6 b=none->b≠p/\H b=none:=λb hb=>by
   have q1:b≠p:=λe=>by rw[e,p6] at hb;cases hb
   refine⟨q1,?_⟩
   cases e:H b with
   | none=>rfl
   | some u=>rw[k6 b u e q1] at hb;cases hb
  have C:f_A CS CO H10 ⟨p,dx,nb,o1,o2,sl,ml,bl1,bl2, [], [], []⟩ room [] [] []:=
   ⟨by rw[←eH10];exact a_b,⟨[],up10 _ _ (s9 _ _ d8) np,.nil⟩,⟨[],Z1,⟨by simp[Adj],by simp⟩,by simp⟩,⟨[],Z2,⟨by simp[Adj],by simp⟩,by simp⟩,up10 _ _ (s9 _ _ l8) nsp,.nil,up10 _ _ a_b nmp,
     (e_6 _).mpr ⟨n1,λb hb=>by simp at hb;rw[hb];exact⟨n4,n2⟩,λb hb=>by simp at hb;rw[hb];exact⟨n5,n3⟩,by simp,by simp,λb hb hc=>by simp at hb hc;exact n6 (hb ▸ hc)⟩⟩
  refine fin _ H10 ⟨[], [], [],C,.nil (r_l _) (List.nodup_nil),.refl _,r_l _,r_l _⟩ rfl (λb hb=> ?_) λb u hb hn=>up10 _ _ (s9 _ _ (k8 b u hb hn)) hn
  simp only[Ads.fp,Ads.ls,r_n,r_u,List.not_mem_nil,or_false] at hb
  rcases hb with e | e | e | e | e | e
  ·exact .inl e
  ·exact .inr (by rw[e];exact (f1 nb hnb).2)
  ·exact .inr (by rw[e];exact (fr6 sl hsl).2)
  ·exact .inr (by rw[e];exact (fr8 ml hml).2)
  ·exact .inr (by rw[e];exact (f2 bl1 fb1).2)
  ·exact .inr (by rw[e];exact (f4 bl2 fb2).2)
end
end K1
namespace TO
open PySem L2
def c_c (k e:Int) (off:Nat) (l:List Row):List Row:=(l.zipIdx off).filterMap λp=>if k<=(p.2:Int)/\(p.2:Int) < e then some p.1 else none
theorem c_A (k e:Int):∀(l:List Row) (off:Nat),c_c k e off l=(l.take (e - off).toNat).drop (k - off).toNat
 | [],off=>by simp[c_c]
 | x::r,off=>by
   have ih:=c_A k e r (off+1)
   have step:c_c k e off (x::r)=(if k<=(off:Int)/\(off:Int) < e then [x] else [])++c_c k e (off+1) r:=by
    unfold c_c
    rw[List.zipIdx_cons,List.filterMap_cons]
    by_cases c:k<=(off:Int)/\(off:Int) < e
    ·rw[if_pos c,if_pos c];rfl
    ·rw[if_neg c,if_neg c];rfl
   rw[step,ih]
   by_cases c1:e<=(off:Int)
   ·have e1:(e - (off:Int)).toNat=0:=by omega
    have e2:(e - ((off+1:Nat):Int)).toNat=0:=by omega
    rw[if_neg (by omega),e1,e2]
    simp
   ·obtain⟨h,eh⟩:∃h,(e - (off:Int)).toNat=h+1:=⟨(e - (off:Int)).toNat - 1,by omega⟩
    have e2:(e - ((off+1:Nat):Int)).toNat=h:=by omega
    rw[eh,e2,List.take_succ_cons]
    by_cases c2:k<=(off:Int)
    ·have e3:(k - (off:Int)).toNat=0:=by omega
     have e4:(k - ((off+1:Nat):Int)).toNat=0:=by omega
     rw[if_pos ⟨c2,by omega⟩,e3,e4]
     rfl
    ·obtain⟨g,eg⟩:∃g,(k - (off:Int)).toNat=g+1:=⟨(k - (off:Int)).toNat - 1,by omega⟩
     have e4:(k - ((off+1:Nat):Int)).toNat=g:=by omega
     rw[if_neg (by omega),eg,e4,List.drop_succ_cons]
     rfl
theorem e_l (k e:Int) (l₁ l₂:List Row) (off:Nat):c_c k e off (l₁++l₂)=c_c k e off l₁++c_c k e (off+l₁.length) l₂:=by
 unfold c_c
 rw[List.zipIdx_append,List.filterMap_append]
theorem i_m {k e:Int} {off:Nat} (h:e<=(off:Int)) (l:List Row):c_c k e off l= []:=by
 rw[c_A]
 have:(e - (off:Int)).toNat=0:=by omega
 rw[this]
 simp
theorem f_1 (k m:Int) (l:List Row):(l.zipIdx.filterMap λp=>if k<=(p.2:Int)/\(p.2:Int)<=k+m - 1 then some p.1 else none)=c_c k (k+m) 0 l:=by
 unfold c_c
 congr 1
 funext p
 by_cases c:k<=(p.2:Int)/\(p.2:Int) < k+m
 ·rw[if_pos c,if_pos ⟨c.1,by omega⟩]
 ·rw[if_neg c,if_neg λz=>c ⟨z.1,by omega⟩]
theorem k_3 {α:Type} {xs:List α} {lo hi:Nat}:(xs.drop (min lo xs.length)).take (min hi xs.length - min lo xs.length)=(xs.take hi).drop lo:=by
 rw[List.drop_take]
 by_cases h1:lo<=xs.length
 ·rw[Nat.min_eq_left h1]
  by_cases h2:hi<=xs.length
  ·rw[Nat.min_eq_left h2]
  ·have e0:min hi xs.length=xs.length:=by omega
   rw[e0,r_w (by simp),r_w (by simp;omega)]
 ·have e0:min lo xs.length=xs.length:=by omega
  have e1:xs.drop lo= []:=List.drop_of_length_le (by omega)
  have e2:xs.drop xs.length= []:=List.drop_of_length_le (r_l _)
  rw[e0,e1,e2]
  simp
end TO
namespace K1
open PySem L2 TO
theorem StrC.ordW {CS CO:Addr} {H:Hp} {A:Ads} {room:Int} {l:List Row} {st:List a_Y} {ms:List Nat} (h:f_A CS CO H A room l st ms) (hl:b_7 l) (w:Bool):
 ∃bl bas B,OrdAt CO w H (if w=true then A.o2 else A.o1) bl bas B/\GoodB w B/\B.flatten=a_3 w l:=by
 cases w with
 | false=>obtain⟨B,O,G,p⟩:=h.O1;exact⟨_,_,B,O,G,d_T hl G.srt p⟩
 | true=>obtain⟨B,O,G,p⟩:=h.O2;exact⟨_,_,B,O,G,d_T hl G.srt p⟩
theorem a_8 (w:Bool) (l:List Row):(a_3 w l).length=l.length:=(a_4 w l).length_eq
section
variable {P:Program} {w:World} {K:PySem.W.Frag} {mg:Str->Option Value} {base:Heap}
abbrev NoW (CNo:Addr) (x:Str) (E:XK) (H:Hp):Prop:=b_4 x=none->(PySem.reprText x).length<=1000/\∀H',Same H H'->E (.ref CNo) none H'
def o_E (CNo:Addr):Sp:=λvs H Q E=>∃x:Str,vs= [.str x]/\(∀w,b_4 x=some w->Q .non H)/\NoW CNo x E H
theorem o_9 {f C CNo:Addr} {fd:FuncData} (F:Fun K "check_word" "check_word" sCW f fd) (T:Txt K mg C) (eO:Exc K mg "NoOrder" CNo):FnOk P w K mg base (CXR P w) 1 f fd ["word"] (o_E CNo):=by
 refine F.okX q_B (λvs H Q E h=> ?_) (λcdv A outer s H vs Q E hr h=> ?_)
 ·obtain⟨x,rfl,_⟩:=h
  rfl
 ·obtain⟨x,rfl,k1,k2⟩:=h
  obtain⟨t1,h1⟩:=T.rank
  obtain⟨t2,h2⟩:=T.text
  refine⟨_,a_g (a_C (PW.pt (e_j (a_k d_D (pv 0) (d_C h1) (a_o _)) (c_Y (a_k d_D (pv 0) (d_C h2) (a_o _))))) (a_g (c_5 eO e_e (a_a (n_Z a_l (pv 0) (by decide+kernel)) a_d))) a_q),?_⟩
  refine⟨_,rfl,rfl,_,rfl,?_⟩
  by_cases c1:x="rank"
  ·subst c1
   exact o_w rfl (k1 false (if_pos rfl))
  ·have d1:(!decide (V.str x=V.str "rank"))=true:=by
    rw[r_T λq=>c1 (by injection q)];rfl
   refine a_x (λ_=> ?_) (λq=>absurd d1 q)
   refine⟨_,rfl,rfl,_,rfl,?_⟩
   by_cases c2:x="text"
   ·subst c2
    exact o_w rfl (k1 true (by unfold b_4;rw[if_neg c1,if_pos rfl]))
   ·have d2:(!decide (V.str x=V.str "text"))=true:=by
     rw[r_T λq=>c2 (by injection q)];rfl
    refine a_x (λ_=> ?_) (λq=>absurd d2 q)
    obtain⟨q1,q2⟩:=k2 (by unfold b_4;rw[if_neg c1,if_neg c2])
    exact⟨_,rfl,x,rfl,q1,λy=>⟨by show 1<=sizeLine;decide,q2 H (Same.refl H)⟩⟩
def c_4 (CS CO CNo:Addr):Sp:=λvs H Q E=>∃(A:Ads) (x:Str) (room:Int) (l:List Row) (st:List a_Y) (ms:List Nat),vs= [.ref A.o,.str x]/\f_A CS CO H A room l st ms/\
 (∀w,b_4 x=some w->Q (.ref (if w=true then A.o2 else A.o1)) H)/\NoW CNo x E H
theorem i_R:a_s ["store","word"] ["store","word"] (a_m f_q):=⟨rfl,rfl,rfl,by decide+kernel,rfl,by decide+kernel,by decide+kernel⟩
theorem i_i {f fCW CS CO CNo:Addr} {fd fdCW:FuncData} (F:Fun K "order_of" "order_of" f_q f fd) (T:Txt K mg CO) (TS:e_L K mg CS CO) (gCW:Gf K mg "check_word" fCW fdCW ["word"]) (GCW:FnOk P w K mg base (CXR P w) 1 fCW fdCW ["word"] (o_E CNo)):
 FnOk P w K mg base (CXR P w) 2 f fd ["store","word"] (c_4 CS CO CNo):=by
 refine F.okX i_R (λvs H Q E h=> ?_) (λcdv A outer s H vs Q E hr h=> ?_)
 ·obtain⟨A,x,room,l,st,ms,rfl,_⟩:=h
  rfl
 ·obtain⟨A,x,room,l,st,ms,rfl,S,k1,k2⟩:=h
  obtain⟨t1,h1⟩:=T.rank
  refine⟨_,a_c (a_z (a_j GCW hr rfl gCW.mg gCW.kp gCW.b .nil (c_h (E':=E) λ_ _ _ h=>h) (a_a (pv 1) a_d)))
   (a_c (a_C (a_k a_H (pv 1) (d_C h1) (a_o _)) (a_g (a_n (a_D (pv 0) rfl))) a_q) (a_g (a_n (a_D (pv 0) rfl)))),?_⟩
  refine⟨_,rfl,x,rfl,λw hw=> ?_, k2⟩
  have hx:x=e_v w:=by
   unfold b_4 at hw
   split at hw
   ·rename_i e;cases hw;exact e
   ·split at hw
    ·rename_i e;cases hw;exact e
    ·cases hw
  subst hx
  refine⟨_,rfl,rfl,_,rfl,?_⟩
  cases w with
  | false=>exact⟨_,rfl,A.o,CS,A.dx,_,_,rfl,S.ob,TS.cl,TS.nRank,f_s,k1 false hw⟩
  | true=>exact⟨_,rfl,A.o,CS,A.dx,_,_,rfl,S.ob,TS.cl,TS.nText,e_b,k1 true hw⟩
def h_P (CS CO CNo:Addr):Sp:=λvs H Q E=>∃(A:Ads) (x:Str) (lo hi:V) (room:Int) (l:List Row) (st:List a_Y) (ms:List Nat),vs= [.ref A.o,.str x,lo,hi]/\f_A CS CO H A room l st ms/\b_7 l/\l.length < 9000/\
 (∀w,b_4 x=some w->(∀ρ,b_g (c_k w ρ) lo=true)/\(∀ρ,b_g (c_k w ρ) hi=true)/\∀(t:Addr) (H':Hp),H t=none->Same H H'->LstAt H' t ((a_3 w l).filter (i_3 w lo hi))->Q (.ref t) H')/\NoW CNo x E H
theorem l_f:a_s ["store","word","low","high"] ["store","word","low","high"] (a_m g_y):=⟨rfl,rfl,rfl,by decide+kernel,rfl,by decide+kernel,by decide+kernel⟩
theorem k_k {f fO fB CS CO CNo:Addr} {fd fdO fdB:FuncData} (F:Fun K "rows_within" "rows_within" g_y f fd) (T:Txt K mg CO) (gO:Gf K mg "order_of" fO fdO ["store","word"]) (GO:FnOk P w K mg base (CXR P w) 2 fO fdO ["store","word"] (c_4 CS CO CNo))
 (mB:Mf K CO "between" fB fdB ["self","low","high"]) (GB:FnOk P w K mg base CX0 4 fB fdB ["self","low","high"] (i_2 CO)):FnOk P w K mg base (CXR P w) 5 f fd ["store","word","low","high"] (h_P CS CO CNo):=by
 refine F.okX l_f (λvs H Q E h=> ?_) (λcdv A outer s H vs Q E hr h=> ?_)
 ·obtain⟨A,x,lo,hi,room,l,st,ms,rfl,_⟩:=h
  rfl
 ·obtain⟨A,x,lo,hi,room,l,st,ms,rfl,S,hn,hl,k1,k2⟩:=h
  have hr2:Room 2 _:=hr.mono (by decide)
  refine⟨_,a_g (a_n (a_N (a_j GO hr2 rfl gO.mg gO.kp gO.b .nil (c_h (E':=E) λ_ _ _ h=>h) (a_a (pv 0) (a_a (pv 1) a_d))) T.cl mB.m GB hr mB.b .nil a_u (a_a (pv 2) (a_a (pv 3) a_d)))),?_⟩
  refine⟨_,rfl,_,rfl,A,x,room,l,st,ms,rfl,S,λw hw=> ?_, k2⟩
  obtain⟨a1,a2,k3⟩:=k1 w hw
  obtain⟨bl,bas,B,O,G,e⟩:=StrC.ordW S hn w
  obtain⟨dx,ho⟩:=O.ob
  refine⟨_,dx,_,rfl,ho,a_X _ _ (by decide+kernel) (by decide+kernel),_,rfl,_,rfl,w,_,bl,bas,B,lo,hi,rfl,O,a1,a2,G,by rw[e,a_8];omega,λt H' ht s' hL=> ?_⟩
  rw[e] at hL
  exact k3 t H' ht s' hL
def l_4 (CS CO CNo CM:Addr):Sp:=λvs H Q E=>∃(A:Ads) (x:Str) (n:Int) (room:Int) (l:List Row) (st:List a_Y) (ms:List Nat),vs= [.ref A.o,.str x,.int n]/\f_A CS CO H A room l st ms/\b_7 l/\l.length < 9000/\k_v n/\
 (∀w,b_4 x=some w->(b_s l n=false->E (.ref CM) none H)/\∀ρ,c_V l n=some ρ->∀H',Same H H'->Q (.int ((l.filter λy=>ltR w y ρ).length:Nat)) H')/\NoW CNo x E H
theorem l_G:a_s ["store","word","number","order"] ["store","word","number"] (a_m n_n):=⟨rfl,rfl,rfl,by decide+kernel,rfl,by decide+kernel,by decide+kernel⟩
theorem n_w {f fO fA fR CS CO CNo CM:Addr} {fd fdO fdA fdR:FuncData} (F:Fun K "spot_of" "spot_of" n_n f fd) (T:Txt K mg CO) (TS:e_L K mg CS CO) (gO:Gf K mg "order_of" fO fdO ["store","word"]) (GO:FnOk P w K mg base (CXR P w) 2 fO fdO ["store","word"] (c_4 CS CO CNo))
 (mA:Mf K CO "ahead_of" fA fdA ["self","row"]) (GA:FnOk P w K mg base CX0 4 fA fdA ["self","row"] (j_2 CO)) (mR:Mf K CS "row_of" fR fdR ["self","number"]) (GR:FnOk P w K mg base (CXR P w) 1 fR fdR ["self","number"] (e_u CS CO CM)):
 FnOk P w K mg base (CXR P w) 5 f fd ["store","word","number"] (l_4 CS CO CNo CM):=by
 refine F.okX l_G (λvs H Q E h=> ?_) (λcdv A outer s H vs Q E hr h=> ?_)
 ·obtain⟨A,x,n,room,l,st,ms,rfl,_⟩:=h
  rfl
 ·obtain⟨A,x,n,room,l,st,ms,rfl,S,hn,hl,ht,k1,k2⟩:=h
  have hr2:Room 2 _:=hr.mono (by decide)
  have hr1:Room 1 _:=hr.mono (by decide)
  refine⟨_,a_c (a_w (i:=3) l_G.nd rfl (Or.inl rfl) (a_j GO hr2 rfl gO.mg gO.kp gO.b .nil (c_h (E':=E) λ_ _ _ h=>h) (a_a (pv 0) (a_a (pv 1) a_d))))
   (a_g (a_n (a_N (pv 3) T.cl mA.m GA hr mA.b .nil a_u (a_a (a_N (pv 0) TS.cl mR.m GR hr1 mR.b .nil (c_h (E':=E) λ_ _ _ h=>h) (a_a (pv 2) a_d)) a_d)))),?_⟩
  refine⟨_,rfl,_,rfl,A,x,room,l,st,ms,rfl,S,λw hw=> ?_, k2⟩
  obtain⟨k3,k4⟩:=k1 w hw
  obtain⟨bl,bas,B,O,G,e⟩:=StrC.ordW S hn w
  obtain⟨dx,ho⟩:=O.ob
  refine⟨_,rfl,_,dx,_,rfl,ho,a_X _ _ (by decide+kernel) (by decide+kernel),_,rfl,A.o,A.dx,_,rfl,S.ob,d_o (by decide+kernel) (by decide+kernel) (by decide+kernel) (by decide+kernel) (by decide+kernel) (by decide+kernel),_,rfl,A,n,room,l,st,ms,rfl,S,ht,λc r ρ hf hρ=> ?_, k3⟩
  refine⟨w,_,bl,r,bas,B,ρ,rfl,O,hρ,G,by rw[e,a_8];omega,λH' s'=> ?_⟩
  have el:(B.flatten.filter λy=>ltR w y ρ).length=(l.filter λy=>ltR w y ρ).length:=by
   rw[e]
   exact ((a_4 w l).filter _).length_eq
  rw[el]
  exact k4 ρ hf H' s'
def l_R (CS CO CNo:Addr):Sp:=λvs H Q E=>∃(A:Ads) (x:Str) (k m:Int) (room:Int) (l:List Row) (st:List a_Y) (ms:List Nat),vs= [.ref A.o,.str x,.int k,.int m]/\f_A CS CO H A room l st ms/\b_7 l/\l.length < 9000/\
 (∀w,b_4 x=some w->∀(t:Addr) (H':Hp),H t=none->Same H H'->LstAt H' t (c_c k (k+m) 0 (a_3 w l))->Q (.ref t) H')/\NoW CNo x E H
theorem e_N:a_s ["store","word","spot","many","found","end","ahead","block"] ["store","word","spot","many"] (a_m m_D):=⟨rfl,rfl,rfl,by decide+kernel,rfl,by decide+kernel,by decide+kernel⟩
theorem m_O {f fO CS CO CNo:Addr} {fd fdO:FuncData} (F:Fun K "rows_from" "rows_from" m_D f fd) (T:Txt K mg CO) (hmax:mg "max"=none) (gO:Gf K mg "order_of" fO fdO ["store","word"]) (GO:FnOk P w K mg base (CXR P w) 2 fO fdO ["store","word"] (c_4 CS CO CNo)):
 FnOk P w K mg base (CXR P w) 3 f fd ["store","word","spot","many"] (l_R CS CO CNo):=by
 refine F.okX e_N (λvs H Q E h=> ?_) (λcdv A outer s H vs Q E hr h=> ?_)
 ·obtain⟨A,x,k,m,room,l,st,ms,rfl,_⟩:=h
  rfl
 ·obtain⟨A,x,k,m,room,l,st,ms,rfl,S,hn,hl,k1,k2⟩:=h
  refine⟨_,a_c (a_w (i:=4) e_N.nd rfl (Or.inl rfl) (a_U a_d))
   (a_c (a_w (i:=5) e_N.nd rfl (Or.inl rfl) (a_t a_S (pv 2) (pv 3)))
   (a_c (a_w (i:=6) e_N.nd rfl (Or.inl rfl) a_f)
   (a_c (c_g PassesOwn.leaving rfl (b_e (a_D (a_j GO hr rfl gO.mg gO.kp gO.b .nil (c_h (E':=E) fun _ _ _ h=>h) (a_a (pv 0) (a_a (pv 1) a_d))) rfl)) (b_d (i:=7) e_N.nd rfl (Or.inl rfl))
     (a_c (a_C (a_k i_W (pv 6) (pv 5) (a_o _)) (a_g (a_n (pv 4))) a_q)
     (a_c (a_z (b_C r_W PySem.F.slot_list_extend PySem.F.type_list_extend d_b (pv 4) (a_a (b_8 e_d (pv 7) (c_v (a_y (j_L rfl) (by rfl) hmax PyProof.Rows.boot_max (a_a (a_t b_R (pv 2) (pv 6)) (a_a a_f a_d)))) (c_v (a_t b_R (pv 5) (pv 6)))) a_d)))
     (a_g (a_w (i:=6) e_N.nd rfl (Or.inl rfl) (a_t a_S (pv 6) (a_y a_v (by rfl) T.len r_V (a_a (pv 7) a_d))))))))
   (a_g (a_n (pv 4)))))),?_⟩
  refine⟨by show 0<=sizeLine;decide,λt ht=> ?_⟩
  have s1:Same H (upd H t (.lst [])):=Same.upd_new ht
  refine⟨_,rfl,_,rfl,_,_,rfl,rfl,?_⟩
  refine⟨_,rfl,_,rfl,A,x,room,l,st,ms,rfl,S.same s1,λw hw=> ?_, λhw=> ?_⟩
  rotate_left
  ·exact⟨(k2 hw).1,λH' s'=>(k2 hw).2 H' (s1.trans s')⟩
  obtain⟨bl,bas,B,O,G,e⟩:=StrC.ordW S hn w
  obtain⟨dx,ho⟩:=O.ob
  have hbl:=O.ls
  have hlen:bas.length=B.length:=Paired.length O.bs
  refine⟨_,CO,dx,_,_,rfl,s1 _ _ ho,T.cl,T.nB,a_A _ _,bl,rfl,⟨_,SqL.of (s1 _ _ hbl)⟩,c_F (K:=K) (a:=bl) (xs:=bas.map V.ref)
   (λj σ H4=>∃v7:Option V,σ= [some (.ref A.o),some (.str x),some (.int k),some (.int m),some (.ref t),some (.int (k+m)),some (.int (((B.take j).flatten.length:Nat):Int)),v7]/\Same H H4/\LstAt H4 t (c_c k (k+m) 0 (B.take j).flatten)) ⟨none,rfl,s1, [],a_b,.nil⟩ (λj σ H4 _ ⟨_,_,s4,_⟩=>SqL.of (s4 _ _ hbl)) ?_ ?_⟩
  ·rintro j v σ H4 hj ⟨v7,rfl,s4,as,hl4,hR4⟩
   rw[r_o] at hj
   cases ej:bas[j]? with
   | none=>rw[ej] at hj;cases hj
   | some ab=>
     rw[ej] at hj
     obtain rfl:V.ref ab=v:=r_j hj
     have hjl:=(r_q.mp ej).1
     obtain⟨b,hb⟩:∃b,B[j]? =some b:=⟨_,r_d (by omega)⟩
     obtain⟨ab',e',bs,hab,hRb⟩:=a_T O.bs hb
     rw[ej] at e'
     obtain rfl:ab=ab':=r_j e'
     have hlb:=hRb.len
     have hla:=hR4.len
     have eT1:(B.take (j+1)).flatten=(B.take j).flatten++b:=by rw[r_D,hb];simp
     have hfl:=f_t (B:=B) (j+1)
     rw[e,a_8,eT1,r_e] at hfl
     refine⟨_,rfl,_,rfl,_,_,rfl,rfl,_,rfl,a_x (λc=> ?_) (λc=> ?_)⟩
     ·have c':k+m<=(((B.take j).flatten.length:Nat):Int):=r_U c
      refine⟨_,rfl,k1 w hw t H4 ht s4 ⟨as,hl4,?_⟩⟩
      have ed:a_3 w l=(B.take j).flatten++(B.drop j).flatten:=by rw[<-e,<-r_z,r_P]
      rw[ed,e_l,i_m (l:=(B.drop j).flatten) (by simpa using c'),r_J]
      exact hR4
     ·have c':(((B.take j).flatten.length:Nat):Int) < k+m:=by
       have:¬ k+m<=(((B.take j).flatten.length:Nat):Int):=λz=>c (r_S z)
       omega
      refine⟨_,rfl,.inl ⟨rfl,_,SqL.of hl4⟩,_,rfl,_,rfl,_,rfl,_,_,rfl,rfl,_,_,rfl,_,rfl,_,rfl,_,rfl,_,_,rfl,rfl,_,rfl,ab,_,rfl,SqL.of (s4 _ _ hab),λp hp=> ?_⟩
      have ecut:h_7 (bs.map V.ref) (some (if (0:Int) > k - (((B.take j).flatten.length:Nat):Int) then 0 else k - (((B.take j).flatten.length:Nat):Int))) (some (k+m - (((B.take j).flatten.length:Nat):Int)))=((bs.take (k+m - (((B.take j).flatten.length:Nat):Int)).toNat).drop (k - (((B.take j).flatten.length:Nat):Int)).toNat).map V.ref:=by
       have i1:HT.sIx (bs.map V.ref).length 0 (some (if (0:Int) > k - (((B.take j).flatten.length:Nat):Int) then 0 else k - (((B.take j).flatten.length:Nat):Int)))=min (k - (((B.take j).flatten.length:Nat):Int)).toNat (bs.map V.ref).length:=by
        unfold HT.sIx
        dsimp only
        (repeat' split) <;> first | rfl | omega
       have i2:HT.sIx (bs.map V.ref).length (bs.map V.ref).length (some (k+m - (((B.take j).flatten.length:Nat):Int)))=min (k+m - (((B.take j).flatten.length:Nat):Int)).toNat (bs.map V.ref).length:=by
        unfold HT.sIx
        dsimp only
        rw[if_neg (by omega)]
       unfold h_7
       rw[i1,i2,k_3,List.map_drop,List.map_take]
      rw[ecut]
      have hab4:=s4 _ _ hab
      have ntp:t≠p:=a_h hl4 hp
      have s5:Same H4 (upd H4 p (.lst (((bs.take (k+m - (((B.take j).flatten.length:Nat):Int)).toNat).drop (k - (((B.take j).flatten.length:Nat):Int)).toNat).map V.ref))):=Same.upd_new hp
      have hsz:(as.map V.ref).length+(((bs.take (k+m - (((B.take j).flatten.length:Nat):Int)).toNat).drop (k - (((B.take j).flatten.length:Nat):Int)).toNat).map V.ref).length<=sizeLine:=by
       have h1:as.length<=(B.take j).flatten.length:=by
        rw[hla,c_A,List.length_drop,r_y]
        omega
       rw[r_c,r_c,List.length_drop,r_y]
       exact r_x (m:=20000) (by omega) (by decide)
      refine⟨t,p,_,_,rfl,rfl,s5 _ _ hl4,a_b,hsz,?_⟩
      have hl5:=s5 _ _ hl4
      have m6:∀{xs:List V},Same H (upd (upd H4 p (.lst (((bs.take (k+m - (((B.take j).flatten.length:Nat):Int)).toNat).drop (k - (((B.take j).flatten.length:Nat):Int)).toNat).map V.ref))) t (.lst xs)):=λ{xs} d u hd=>by
       rw[a_i (a_h hd ht)]
       exact s5 _ _ (s4 _ _ hd)
      have hbt:ab≠t:=a_h hab ht
      refine⟨_,rfl,_,rfl,ab,_,rfl,.inl (SqL.of (by rw[a_i hbt];exact s5 _ _ hab4)),_,_,rfl,rfl,some (V.ref ab),?_, m6,as++((bs.take (k+m - (((B.take j).flatten.length:Nat):Int)).toNat).drop (k - (((B.take j).flatten.length:Nat):Int)).toNat),by rw[r_k];exact a_b,?_⟩
      ·rw[eT1,r_e,r_c,hlb]
       simp
      ·rw[eT1,e_l]
       refine RowsAt.app (hR4.same λd ys q=> ?_) ?_
       ·rw[a_i (λz=>by rw[z,hl4] at q;cases q)]
        exact s5 _ _ q
       ·rw[Nat.zero_add,c_A]
        exact ((hRb.take _).drop _).same λd ys q=>m6 _ _ q
  ·rintro σ H4 ⟨v7,rfl,s4,hL4⟩
   refine⟨_,rfl,k1 w hw t H4 ht s4 ?_⟩
   rw[r_c,hlen,r_w (r_l _),e] at hL4
   exact hL4
end
end K1
namespace TO
open PySem L2
def h_E:Row:=⟨0,0,Str.empty⟩
theorem m_w {ρs:List Row} (hnd:(ρs.map (·.n)).Nodup) {i j:Nat} (hi:i < ρs.length) (hj:j < ρs.length) (hij:i≠j):(ρs.getD i h_E).n≠(ρs.getD j h_E).n:=by
 rw[r_v,r_v,r_d hi,r_d hj]
 have hp:=List.pairwise_iff_getElem.mp hnd
 simp only[Option.getD_some]
 rcases Nat.lt_or_gt_of_ne hij with q | q
 ·have:=hp i j (by simpa using hi) (by simpa using hj) q
  simpa using this
 ·have:=hp j i (by simpa using hj) (by simpa using hi) q
  simpa using Ne.symm this
theorem c_L {α:Type} (l:List α) (d:α):(List.range l.length).map (λi=>l.getD i d)=l:=by
 apply List.ext_getElem
 ·simp
 ·intro i h1 h2
  simp[r_v,r_d h2]
theorem g_g {H:Hp} {as:List Addr} {ρs:List Row} (h:RowsAt H as ρs):∀{is:List Nat},(∀i∈is,i < ρs.length)->RowsAt H (is.map λi=>as.getD i 0) (is.map λi=>ρs.getD i h_E)
 | [],_=> .nil
 | i::r,hi=>by
   refine .cons ?_ (g_g h λj hj=>hi j (r_f _ hj))
   have h1:=hi i (r_g ..)
   obtain⟨a,e1,e2⟩:=h.get (r_d h1)
   show RowAt H (as.getD i 0) (ρs.getD i h_E)
   rw[r_v,r_v,e1,r_d h1]
   exact e2
theorem c_8 {w:Bool} {ρs:List Row} {i:Nat} (h:i < ρs.length):(ρs.map (a_I w)).getD i []=a_I w (ρs.getD i h_E):=by
 rw[r_v,r_v,r_o,r_d h]
 rfl
theorem j_a {w:Bool} {ρs:List Row} (hnd:(ρs.map (·.n)).Nodup):SO ρs.length λi j=>b_b ((ρs.map (a_I w)).getD i []) ((ρs.map (a_I w)).getD j []) where
 tr:=λa b c _ _ _ h1 h2=>c_J h1 h2
 tri:=λa b ha hb hab h=>by
  rw[c_8 ha,c_8 hb] at *
  rcases g_E (w:=w) (m_w hnd ha hb hab) with q | q
  ·rw[show b_b (a_I w (ρs.getD a h_E)) (a_I w (ρs.getD b h_E))=true from q] at h;cases h
  ·exact q
theorem f_N {ρs:List Row} {is:List Nat} (hp:is.Perm (List.range ρs.length)):(is.map λi=>ρs.getD i h_E).Perm ρs:=by
 have:=hp.map λi=>ρs.getD i h_E
 rw[c_L] at this
 exact this
theorem h_j {w:Bool} {ρs:List Row} {is:List Nat} (hp:is.Perm (List.range ρs.length)) (hu:∀a b,a < b->b < ρs.length->b_b ((ρs.map (a_I w)).getD (is.getD a 0) []) ((ρs.map (a_I w)).getD (is.getD b 0) [])=true):Srt (ltR w) (is.map λi=>ρs.getD i h_E):=by
 have hl:is.length=ρs.length:=by rw[hp.length_eq,List.length_range]
 refine List.pairwise_iff_getElem.mpr λa b ha hb hab=> ?_
 rw[r_c] at ha hb
 have q:=hu a b hab (by omega)
 have e:∀c (h:c < is.length),is.getD c 0=is[c]:=λc h=>by rw[r_v,r_d h];rfl
 have hm:∀c (h:c < is.length),is[c] < ρs.length:=λc h=>by
  have:=hp.mem_iff.mp (List.getElem_mem h)
  exact List.mem_range.mp this
 rw[e a ha,e b hb,c_8 (hm a ha),c_8 (hm b hb)] at q
 simpa[ltR] using q
end TO
namespace TO
open PySem PySem.Spec PyProof.Rows L2
section
variable {prog:Program} {w:World} {A:Around} {s:Shared}
theorem k_u {H:Hp} {as:List Addr} {ks:List (List V)} {G:Array Nat->Shared->Prop}
 (tup':∀a k,H a=some (.tup k)->∃its:List Value,Vals k its/\∃o n,s.heap.get? a=some o/\o.cls= .type "tuple"/\o.data= .seq its.toArray n)
 (hT:c_f H as ks) (h2:2<=as.length) (hne:∀k∈ks,∃x r,k=x::r) (hal:∀k∈ks,∀k'∈ks,e_h k k'/\k.length=k'.length) (hO:SO as.length (λi j=>b_b (ks.getD i []) (ks.getD j [])))
 (hG:∀pp,Rear as.length pp->Up (λi j=>b_b (ks.getD i []) (ks.getD j [])) pp as.length->G pp s):
 wpAny (model prog w) A (keyKind' (as.map Value.ref).toArray) (λκ s'=>(PySem.W.kas_sort as.length).kasWp (PySem.W.kas_ask prog w A κ (as.map Value.ref)) G s') (λ_ _=>False) s:=by
 have hlk:as.length=ks.length:=Paired.length hT
 have h0:0 < as.length:=by omega
 -- the kind of the first items
 have first:∃T:String,∃fs:List Value,PySem.W.KatTups s.heap (as.map Value.ref) fs/\fs.length=as.length/\(T="int"\/T="str")/\∀v∈fs,(∃i t,v= .int i t/\T="int")\/∃x t,v= .str x t/\T="str":=by
  obtain⟨k0,hk0⟩:∃k0,k0∈ks:=by
   cases ks with
   | nil=>rw[r_M] at hlk;omega
   | cons k r=>exact⟨k,r_g ..⟩
  obtain⟨x0,r0,e0⟩:=hne k0 hk0
  have key:∀k∈ks,∃x r,k=x::r/\b_g x x0=true:=λk hk=>by
   obtain⟨x,r,rfl⟩:=hne k hk
   have:=(hal _ hk _ hk0).1
   rw[e0] at this
   exact⟨x,r,rfl,this.1⟩
  have x0k:(∃i,x0= .int i)\/∃y,x0= .str y:=by
   have:=(hal _ hk0 _ hk0).1
   rw[e0] at this
   have z:=this.1
   cases x0 <;> first | exact .inl ⟨_,rfl⟩ | exact .inr ⟨_,rfl⟩ | cases z
  obtain⟨T,hTx⟩:∃T:String,((∃i,x0=V.int i)/\T="int")\/((∃y,x0=V.str y)/\T="str"):=by
   rcases x0k with c | c
   ·exact⟨"int",.inl ⟨c,rfl⟩⟩
   ·exact⟨"str",.inr ⟨c,rfl⟩⟩
  refine⟨T,?_⟩
  have go:∀{as':List Addr} {ks':List (List V)},c_f H as' ks'->(∀k∈ks',∃x r,k=x::r/\b_g x x0=true)->∃fs:List Value,PySem.W.KatTups s.heap (as'.map Value.ref) fs/\fs.length=as'.length/\
   ∀v∈fs,(∃i t,v=Value.int i t/\∃j,x0= .int j)\/∃y t,v=Value.str y t/\∃j,x0= .str j:=by
   intro as' ks' ht hk
   induction ht with
   | nil=>exact⟨[],trivial,rfl,λv hv=>by cases hv⟩
   | cons ha _ ih=>
     obtain⟨fs,h1,h2,h3⟩:=ih λk hk'=>hk k (r_f _ hk')
     obtain⟨x,r,rfl,hx⟩:=hk _ (r_g ..)
     obtain⟨its,rk,o,n,ho,hc,hd⟩:=tup' _ _ ha
     cases rk with
     | @cons _ v _ its' rx rt=>
       refine⟨v::fs,PySem.W.KatTups.cons ho hc hd (by simp) h1,by simp[h2],λu hu=> ?_⟩
       rcases r_n.mp hu with e | e
       ·subst e
        cases x with
        | int i=>obtain⟨t,rfl⟩:=rx;cases x0 <;> first | exact .inl ⟨i,t,rfl,_,rfl⟩ | cases hx
        | str y=>obtain⟨t,rfl⟩:=rx;cases x0 <;> first | exact .inr ⟨y,t,rfl,_,rfl⟩ | cases hx
        | _=>cases x0 <;> cases hx
       ·exact h3 u e
  obtain⟨fs,h1,h2,h3⟩:=go hT key
  refine⟨fs,h1,h2,?_, λv hv=> ?_⟩
  ·rcases hTx with c | c
   ·exact .inl c.2
   ·exact .inr c.2
  ·rcases h3 v hv with⟨i,t,e,j,c⟩ | ⟨y,t,e,j,c⟩
   ·refine .inl ⟨i,t,e,?_⟩
    rcases hTx with⟨_,z⟩ | ⟨⟨y,z⟩,_⟩
    ·exact z
    ·rw[c] at z;cases z
   ·refine .inr ⟨y,t,e,?_⟩
    rcases hTx with⟨⟨y,z⟩,_⟩ | ⟨_,z⟩
    ·rw[c] at z;cases z
    ·exact z
 obtain⟨T,fs,hk1,hk2,hTT,hk3⟩:=first
 refine PySem.W.kat_kind (T:= .type T) hk1 (by omega) (λv hv=> ?_) (by simp) ?_
 ·rcases hk3 v hv with⟨i,t,rfl,e⟩ | ⟨y,t,rfl,e⟩
  ·rw[e];exact PySem.W.Looks.of_pure rfl
  ·rw[e];exact PySem.W.Looks.of_pure rfl
 have hTb:(Value.type T != Value.type "tuple")=true:=by rcases hTT with e | e <;> rw[e] <;> rfl
 rw[hTb]
 refine k_f (n:=as.length) hO (λi j Cc hi hj hC=> ?_) (by omega) λpp R U=> ?_
 ·show wpAny _ _ (keyLt' (tuples' true) ((as.map Value.ref).getD i Value.none) ((as.map Value.ref).getD j Value.none)) _ _ _
  rw[c_C hi,c_C hj]
  obtain⟨gi,mi⟩:=c_G hT hi
  obtain⟨gj,mj⟩:=c_G hT hj
  obtain⟨vi,ri,oi,ni,hoi,_,hdi⟩:=tup' _ _ gi
  obtain⟨vj,rj,oj,nj,hoj,_,hdj⟩:=tup' _ _ gj
  have hl2:=(hal _ mi _ mj).2
  have li:=ri.length
  have lj:=rj.length
  refine PySem.W.kat_lt hoi hdi hoj hdj ?_
  have:decide (vi.toArray.size < vj.toArray.size)=false:=r_T (by rw[r_m,r_m];omega)
  rw[this]
  exact f_i 0 (by simpa using ri) (by simpa using rj) (hal _ mi _ mj).1 hl2 hC
 ·exact hG pp R U
end
end TO
namespace L2
open PySem PySem.Spec PyProof.Rows
abbrev Cx.at2 (X:Cx):Cx:={ X with A:=X.A.in1.in1,xe:=λ_ _=>False }
section
variable {X:Cx} {pins:List (Addr×Obj)} {σ:St} {H:Hp} {s:Shared}
theorem Inv.at2 (I:Inv X pins σ H s):Inv X.at2 pins σ H s:=
 ⟨⟨I.ok.mod,I.ok.kind,I.ok.glob,I.ok.blt,I.ok.above,I.ok.inj,I.ok.has,I.ok.cab,I.ok.hd,I.ok.frames,I.ok.stk,I.ok.exf,I.ok.bs,I.ok.bsz,I.ok.noex,I.ok.exfs,I.ok.funs,I.ok.frf⟩,I.os,I.bare,I.base,I.loc,I.cell,I.free,I.freeC,I.pin,I.hok,I.len⟩
theorem Inv.un2 (ok:X.Ok) (I:Inv X.at2 pins σ H s):Inv X pins σ H s:=⟨ok,I.os,I.bare,I.base,I.loc,I.cell,I.free,I.freeC,I.pin,I.hok,I.len⟩
theorem Inv.addPin {a:Addr} {o:Obj} (I:Inv X pins σ H s) (h1:s.heap.get? a=some o) (h2:H a=none) (h3:a≠X.env.locals) (h4:a∉X.fs) (h5:∀v,o.data≠ .cell v):Inv X ((a,o)::pins) σ H s:=
 ⟨I.ok,I.os,I.bare,I.base,I.loc,I.cell,I.free,I.freeC,fun p hp=>by
   rcases r_u.mp hp with q | q
   ·exact I.pin p (r_L _ q)
   ·rcases r_n.mp q with e | e
    ·subst e;exact⟨h1,h2,h3,h4,h5⟩
    ·exact I.pin p (r_p _ e),I.hok,I.len⟩
theorem Inv.dropPin {p:Addr×Obj} (I:Inv X (p::pins) σ H s):Inv X pins σ H s:=
 ⟨I.ok,I.os,I.bare,I.base,I.loc,I.cell,I.free,I.freeC,fun q hq=>I.pin q (by
   rcases r_u.mp hq with z | z
   ·exact r_L _ z
   ·exact r_p _ (r_f _ z)),I.hok,I.len⟩
theorem Inv.takePin {D:Addr} {o:Obj} {h':Heap} {ys:List V} {its:List Value} {n t':Nat} (I:Inv X ((D,o)::pins) σ H s) (hk:∀b u,b≠D->s.heap.get? b=some u->h'.get? b=some u) (hD:h'.get? D=some { cls:= .type "list",data:= .seq its.toArray n })
 (hv:Vals ys its) (hz:ys.length<=sizeLine) (h0:X.s₀.heap.objs.size<=D) (hc:∀x c,X.env.cells.lookup x=some c->c≠D) (hp:∀p∈X.pn++pins,p.1≠D):Inv X pins σ (upd H D (.lst ys)) { s with heap:=h',toks:=t' }:=by
 obtain⟨q1,q2,q3,q4,q5⟩:=I.pin (D,o) (r_p _ (r_g ..))
 have ne:∀b u,H b=some u->b≠D:=λb u e z=>by rw[z,q2] at e;cases e
 refine I.dropPin.step (g':=s.gens) (d':=s.drawn) (ch:= [D]) (λb hb=> ?_) (λb u _ _ hb e _=>hk b u (λz=>hb (by rw[z];exact r_h.mpr rfl)) e)
  (λb u _ _ hb e _=>⟨u.slots,hk b u (λz=>hb (by rw[z];exact r_h.mpr rfl)) e⟩) (λb u hb _ n=>by rw[a_i (λz=>hb (by rw[z];exact r_h.mpr rfl))];exact n)
  (λb u hb e=>⟨u,hk b u (λz=>hb (by rw[z];exact r_h.mpr rfl)) e⟩) (λb xs e=>by rw[a_i (ne b _ e)];exact e) (λb v u e=>by rw[a_i (ne b _ e)];exact e) (λb ps e=>⟨#[],by rw[a_i (ne b _ e),e];simp⟩) (λm hm=> ?_) (λb u e=> ?_) I.bare
 ·rw[r_h.mp hb]
  exact⟨.inr h0,q3,hc,hp⟩
 ·obtain⟨ob,es,ep,ho,r⟩:=hm
  exact⟨ob,es,ep,hk _ ob (Ne.symm q3) ho,r⟩
 ·by_cases hb:b=D
  ·subst hb
   rw[a_b] at e
   cases e
   exact⟨hz,its,n,hv,hD⟩
  ·rw[a_i hb] at e
   refine (I.hok b u e).stay (λc v hc q=>hk c v ?_ q) (λc q=>by rw[a_i (ne c _ q)];exact q) λc xs q=>by rw[a_i (ne c _ q)];exact q
   rcases hc with z | z
   ·rw[z];exact hb
   ·exact ne c _ z
end
end L2
namespace TO
open PySem PySem.Spec PyProof.Rows L2
def o_n:Sp:=λvs H Q _=>∃a ρ,vs= [.ref a]/\RowAt H a ρ/\∀k,H k=none->Q (.ref k) (upd H k (.tup (a_I false ρ)))
section
variable {X:Cx}
theorem o_y {A:Around} {E:Value->Shared->Prop} {pins:List (Addr×Obj)} {σ:L2.St} {H:Hp} {s:Shared} {D kS:Addr} {e1:Nat} {kas out:List Addr} {st:SortSt} {P:PySem.Fin->Shared->Prop}
 (I:Inv X ((D,seqObj "list" #[] e1)::pins) σ H s) (hk:H kS=some (.lst (kas.map V.ref))) (hout:(arrOf st).map (·.2)=(out.map Value.ref).toArray) (hf:failedOf st=none) (hkz:kas.length < 64) (hoz:out.length < 64)
 (h0:X.s₀.heap.objs.size<=D) (hc:∀x c,X.env.cells.lookup x=some c->c≠D) (hp:∀p∈X.pn++pins,p.1≠D)
 (fin:∀s',Inv X pins σ (upd (upd H kS (.lst [])) D (.lst (out.map V.ref))) s'->P (.done (.ret .none)) s'):wpAny (model X.prog X.w) A (ksk_tail D false e1 (.ref kS) st) P E s:=by
 obtain⟨q1,q2,q3,q4,q5⟩:=I.pin (D,seqObj "list" #[] e1) (r_p _ (r_g ..))
 have hkD:kS≠D:=λz=>by rw[z,q2] at hk;cases hk
 obtain⟨z,its,n,r,hl,ek⟩:=I.lstM hk
 have ei:=b_A r
 subst ei
 have sz:∀{m:Nat},m < 64->m<=sizeLine:=λh=>r_x (Nat.le_of_lt h) (by decide)
 unfold ksk_tail
 dsimp only
 rw[hout]
 refine wpAny_bind (listUpdate_at ek rfl ?_ (by rw[r_m,r_c];exact sz hkz) (r_E _))
 have I2:Inv X ((D,seqObj "list" #[] e1)::pins) σ (upd H kS (.lst [])) { s with heap:=s.heap.update kS (Obj.mapSeq λ_=>(#[]:Array Value)),toks:=s.toks }:=I.lset (its':= []) hk ek rfl .nil (r_E _)
 obtain⟨w1,_⟩:=I2.pin (D,seqObj "list" #[] e1) (r_p _ (r_g ..))
 refine wpAny_bind (wpAny_letGo ?_)
 refine wpAny_bind (seqEpoch_at w1 rfl ?_)
 refine wpAny_bind (listUpdate_at w1 rfl ?_ (r_E _) (by
  show (List.toArray (out.map Value.ref)).size<=sizeLine+1
  rw[r_m,r_c]
  exact Nat.le_succ_of_le (sz hoz)))
 rw[hf]
 simp only[bne_self_eq_false,Bool.false_eq_true,if_false]
 refine wpAny_pure (fin _ ?_)
 have hup:=get?_update_seq w1 λ_=>(out.map Value.ref).toArray
 exact I2.takePin (t':=s.toks) (its:=out.map Value.ref) (λb u hb e=>(Heap.get?_update_other _ _ (Ne.symm hb)).trans e) hup (c_E out) (by rw[r_c];exact sz hoz) h0 hc hp
theorem q_5 {A:Around} {E:Value->Shared->Prop} {pins:List (Addr×Obj)} {σ:L2.St} {H:Hp} {s:Shared} {D kS:Addr} {e1:Nat} {kas as:List Addr} {ρs:List Row} {P:PySem.Fin->Shared->Prop}
 (I:Inv X ((D,seqObj "list" #[] e1)::pins) σ H s) (hk:H kS=some (.lst (kas.map V.ref))) (hT:c_f H kas (ρs.map (a_I false))) (hl:kas.length=as.length) (hlr:as.length=ρs.length) (hn:(ρs.map (·.n)).Nodup) (h64:as.length < 64)
 (h0:X.s₀.heap.objs.size<=D) (hc:∀x c,X.env.cells.lookup x=some c->c≠D) (hp:∀p∈X.pn++pins,p.1≠D)
 (fin:∀(is:List Nat) s',is.Perm (List.range ρs.length)→(∀a b,a < b→b < ρs.length→b_b ((ρs.map (a_I false)).getD (is.getD a 0) []) ((ρs.map (a_I false)).getD (is.getD b 0) [])=true)→
   Inv X pins σ (upd (upd H kS (.lst [])) D (.lst ((is.map λi=>as.getD i 0).map V.ref))) s'->P (.done (.ret .none)) s'):
 wpAny (model X.prog X.w) A (ksk_end D false (as.map Value.ref).toArray e1 (.ref kS) (kas.map Value.ref).toArray) P E s:=by
 unfold ksk_end
 dsimp only
 simp only[Bool.false_eq_true,if_false]
 by_cases h2:as.length < 2
 ·have h2':(as.map Value.ref).toArray.size < 2:=by simpa using h2
  rw[if_pos h2',if_pos h2']
  refine wpAny_bind (wpAny_pure ?_)
  rw[StateT.run_pure]
  refine wpAny_bind (wpAny_pure ?_)
  dsimp only
  refine o_y I hk (out:=as) ?_ rfl (by omega) h64 h0 hc hp λs' J=> ?_
  ·show ((kas.map Value.ref).toArray.zip (as.map Value.ref).toArray).map (·.2)=_
   apply Array.toList_inj.mp
   simp[List.map_snd_zip,hl]
  ·refine fin (List.range ρs.length) s' (.refl _) (λa b h1 h3=>by omega) ?_
   have e:(List.range ρs.length).map (λi=>as.getD i 0)=as:=by rw[<-hlr];exact c_L as 0
   rw[e]
   exact J
 ·have h2':¬ (as.map Value.ref).toArray.size < 2:=by simpa using h2
  rw[if_neg h2',if_neg h2']
  have so:SO kas.length λi j=>b_b ((ρs.map (a_I false)).getD i []) ((ρs.map (a_I false)).getD j []):=by rw[hl,hlr];exact j_a hn
  refine wpAny_bind (wpAny_mono (k_u (H:=H) (as:=kas) (ks:=ρs.map (a_I false)) (G:=λpp s'=>Rear kas.length pp/\Up (λi j=>b_b ((ρs.map (a_I false)).getD i []) ((ρs.map (a_I false)).getD j [])) pp kas.length/\s'=s) (λa k ha=> ?_) hT (by omega) (λk hk'=> ?_) (λk h1 k' h3=> ?_) so
   λpp R U=>⟨R,U,rfl⟩) (λκ s0 hk0=> ?_) λ_ _ z=>z.elim)
  ·obtain⟨_,its,rk,o,ho,hcl,n,hd⟩:=I.hok a _ ha
   exact⟨its,rk,o,n,ho,hcl,hd⟩
  ·obtain⟨ρ,_,rfl⟩:=r_H.mp hk'
   exact⟨_,_,rfl⟩
  ·obtain⟨ρ,_,rfl⟩:=r_H.mp h1
   obtain⟨κ,_,rfl⟩:=r_H.mp h3
   exact⟨⟨rfl,rfl,trivial⟩,rfl⟩
  ·have hl':(kas.map Value.ref).length=(as.map Value.ref).length:=by simp[hl]
   have hk1:(PySem.W.kas_sort (as.map Value.ref).length).kasWp (PySem.W.kas_ask X.prog X.w A κ (kas.map Value.ref)) (λpp s'=>Rear kas.length pp/\Up (λi j=>b_b ((ρs.map (a_I false)).getD i []) ((ρs.map (a_I false)).getD j [])) pp kas.length/\s'=s) s0:=by
    rw[r_c,<-hl];exact hk0
   refine wpAny_bind (wpAny_mono (PySem.W.kat_run (ks:=kas.map Value.ref) (vs:=as.map Value.ref) (Q:=λst' s'=>∃p:Array Nat,p.size=(as.map Value.ref).length/\arrOf st'=p.map (PySem.W.kas_item ((kas.map Value.ref).toArray.zip (as.map Value.ref).toArray))/\failedOf st'=none/\
    (Rear kas.length p/\Up (λi j=>b_b ((ρs.map (a_I false)).getD i []) ((ρs.map (a_I false)).getD j [])) p kas.length/\s'=s)) hl' (by rw[r_c];omega) (by rw[r_c];exact h64) (λp' st' s' a1 a2 a3 a4=>⟨p',a1,a2,a3,a4⟩) hk1) ?_ λ_ _ e=>e)
   rintro⟨⟨⟩,st'⟩ s' ⟨p,hps,har,hf,R,U,rfl⟩
   dsimp only
   have hper:p.toList.Perm (List.range ρs.length):=by
    have:=Array.perm_iff_toList_perm.mp R.perm
    rw[hl,hlr] at this
    simpa using this
   refine o_y I hk (out:=p.toList.map λi=>as.getD i 0) ?_ hf (by omega) ?_ h0 hc hp λs' J=> ?_
   ·rw[PySem.W.kat_snds hl' har,List.map_map]
    congr 1
    apply List.map_congr_left
    intro i hi
    exact c_C (by have:=List.mem_range.mp (hper.mem_iff.mp hi);omega)
   ·rw[r_c,hper.length_eq,List.length_range];omega
   ·refine fin p.toList s' hper (λa b h1 h3=> ?_) J
    have:=U a b h1 (by omega)
    rw[c_1,c_1] at this
    simpa[r_v] using this
theorem p_p {E:Value->Shared->Prop} {pins:List (Addr×Obj)} {σ:L2.St} {H H0:Hp} {s:Shared} {D kS f:Addr} {e1 k:Nat} {as:List Addr} {ρs:List Row} {fd:FuncData} {nm:Str} {P:PySem.Fin->Shared->Prop}
 (F:FnOk X.prog X.w X.K X.mg X.base CX0 k f fd [nm] o_n) (hr:Room k X.A.in1.in1) (hb:Binds X.K fd [nm] [])
 (I:Inv X ((D,seqObj "list" #[] e1)::pins) σ H0 s) (hk:H0 kS=some (.lst [])) (sm:Same H H0) (hR:RowsAt H as ρs) (hkn:H kS=none) (hn:(ρs.map (·.n)).Nodup) (h64:as.length < 64)
 (h0:X.s₀.heap.objs.size<=D) (hc:∀x c,X.env.cells.lookup x=some c->c≠D) (hp:∀p∈X.pn++pins,p.1≠D)
 (fin:∀(is:List Nat) (H':Hp) s',is.Perm (List.range ρs.length)→(∀a b,a < b→b < ρs.length→b_b ((ρs.map (a_I false)).getD (is.getD a 0) []) ((ρs.map (a_I false)).getD (is.getD b 0) [])=true)→Same H H'→H' D=none→
   Inv X pins σ (upd H' D (.lst ((is.map λi=>as.getD i 0).map V.ref))) s'->P (.done (.ret .none)) s'):
 wpAny (model X.prog X.w) X.A.in1.in1 (ksk_rest D (.ref f) false (as.map Value.ref).toArray e1 (.ref kS)) P E s:=by
 have hlr:=hR.len
 unfold ksk_rest
 refine wpAny_bind (wpAny_rule ?_)
 first
  | rw[List.forIn_toArray]
  | (rw[<-Array.forIn_toList];simp only[List.toList_toArray])
 refine wpAny_bind (ksk_fold (λi s'=>∃(Hi:Hp) (kas:List Addr),Inv X ((D,seqObj "list" #[] e1)::pins) σ Hi s'/\Hi kS=some (.lst (kas.map V.ref))/\kas.length=i/\c_f Hi kas ((ρs.take i).map (a_I false))/\Same H Hi) (as.map Value.ref) 0 s ⟨H0, [],I,hk,rfl,.nil,sm⟩ ?step ?done)
 case step=>
  rintro j x s' hx ⟨Hi,kas,J,hki,hlen,hT,si⟩
  rw[Nat.zero_add] at hlen hT ⊢
  rw[r_o] at hx
  cases ej:as[j]? with
  | none=>rw[ej] at hx;cases hx
  | some a=>
    rw[ej] at hx
    obtain rfl:Value.ref a=x:=r_j hx
    obtain⟨ρ,hρ,hra⟩:=hR.get' ej
    have hjl:=(r_q.mp ej).1
    refine wpAny_bind (wpAny_attempt (wpAny_mono (f_3 (X:=X.at2) (Q:=λv H'=>∃kk,v=V.ref kk/\Hi kk=none/\H'=upd Hi kk (.tup (a_I false ρ))) F hr hb .nil a_u J.at2 (.cons (a:=V.ref a) rfl .nil) ⟨a,ρ,rfl,si _ _ hra,λkk hkk=>⟨kk,rfl,hkk,rfl⟩⟩) (λv s'' he=> ?_) λ_ _ z=>z.elim))
    obtain⟨v',H',J',rv,kk,rfl,hkk,rfl⟩:=he
    cases rv
    have J2:=Inv.un2 J.ok J'
    have s2:Same Hi (upd Hi kk (.tup (a_I false ρ))):=λb u e=>by rw[a_i (a_h e hkk)];exact e
    have hk2:=s2 _ _ hki
    obtain⟨z,its,n,r,hl2,ek⟩:=J2.lstM hk2
    have ei:=b_A r
    subst ei
    dsimp only
    refine wpAny_bind (listUpdate_at ek rfl ?_ (by rw[r_m,r_c];exact r_x (m:=64) (by omega) (by decide)) (by
     show ((kas.map Value.ref).toArray.push (Value.ref kk)).size<=_
     rw[Array.size_push,r_m,r_c]
     exact r_x (m:=100) (by omega) (by decide)))
    have et:(ρs.take (j+1)).map (a_I false)=(ρs.take j).map (a_I false)++ [a_I false ρ]:=by rw[r_D,hρ,r_k];rfl
    have J3:Inv X ((D,seqObj "list" #[] e1)::pins) σ (upd (upd Hi kk (.tup (a_I false ρ))) kS (.lst ((kas++ [kk]).map V.ref))) { s'' with heap:=s''.heap.update kS (Obj.mapSeq (·.push (Value.ref kk))),toks:=s''.toks }:=
     J2.lset (its':=(kas++ [kk]).map Value.ref) hk2 ek (by simp) (c_E _) (by rw[r_c,r_e];exact r_x (m:=100) (by simp;omega) (by decide))
    have tk:∀b k',(upd Hi kk (.tup (a_I false ρ))) b=some (.tup k')->(upd (upd Hi kk (.tup (a_I false ρ))) kS (.lst ((kas++ [kk]).map V.ref))) b=some (.tup k'):=λb k' e=>by
     rw[a_i (λz=>by rw[z,hk2] at e;cases e)];exact e
    refine wpAny_pure ⟨rfl,_,kas++ [kk],J3,a_b,by simp[hlen],?_, λb u e=> ?_⟩
    ·rw[et]
     have aux:∀{l1:List Addr} {l2:List (List V)},c_f Hi l1 l2->c_f (upd (upd Hi kk (.tup (a_I false ρ))) kS (.lst ((kas++ [kk]).map V.ref))) (l1++ [kk]) (l2++ [a_I false ρ]):=by
      intro l1 l2 h
      induction h with
      | nil=>exact .cons (tk _ _ a_b) .nil
      | cons a _ ih=>exact .cons (tk _ _ (s2 _ _ a)) ih
     exact aux hT
    ·rw[a_i (a_h e hkn)]
     exact s2 _ _ (si _ _ e)
 case done=>
  rintro s' ⟨Hi,kas,J,hki,hlen,hT,si⟩
  rw[Nat.zero_add,r_c] at hlen
  rw[Nat.zero_add,r_c,hlr,r_w (r_l _)] at hT
  obtain⟨z,its,n,r,hl2,ek⟩:=J.lstM hki
  have ei:=b_A r
  subst ei
  refine wpAny_bind (listItems_at ek rfl ?_)
  refine q_5 J hki hT hlen hlr hn h64 h0 hc hp λis s'' h1 h2 J'=> ?_
  have hDn:Hi D=none:=(J.pin (D,seqObj "list" #[] e1) (r_p _ (r_g ..))).2.1
  have hkD:D≠kS:=λz=>by rw[z,hki] at hDn;cases hDn
  exact fin is _ s'' h1 h2 (λb u e=>by rw[a_i (a_h e hkn)];exact si _ _ e) (by rw[a_i hkD];exact hDn) J'
theorem m_H {pins:List (Addr×Obj)} {σ:L2.St} {H:Hp} {s:Shared} {k:Nat} {f p:Addr} {fd:FuncData} {nm:Str} {as:List Addr} {ρs:List Row} {Q:VK} (F:FnOk X.prog X.w X.K X.mg X.base CX0 k f fd [nm] o_n) (hr:Room k X.A.in1.in1) (hb:Binds X.K fd [nm] [])
 (I:Inv X pins σ H s) (hp:SqL X.K H p (as.map V.ref)) (hR:RowsAt H as ρs) (hn:(ρs.map (·.n)).Nodup) (h64:as.length < 64)
 (q:∀(l:Addr) (κs:List Row) (H':Hp),H l=none->Same H H'->LstAt H' l κs->κs.Perm ρs->Srt (ltR false) κs->Q (.ref l) H'):
 wpAny (model X.prog X.w) X.A (call (.builtin "sorted") [.ref p] [(Str.ofString "key",.ref f)]) (EP X pins σ Q) X.xe s:=by
 obtain⟨its,r,pl,_⟩:=I.list hp
 have ei:=b_A r
 subst ei
 have hlr:=hR.len
 have z64:(as.map Value.ref).length<=sizeLine:=by rw[r_c];exact r_x (m:=64) (by omega) (by decide)
 refine call_function_entry_kw kind_sorted plain_sorted entry_sorted (ksk_s1 _ _) ?_
 unfold Builtin.«sorted»
 refine wpAny_bind (m:=checkCount "sorted" 1 1 _) (wpAny_pure (wpAny_bind (collect_list pl.isList (wpAny_bind (wpAny_newList ?_ z64)) z64)))
 generalize eg:((s.heap.push (seqObj "list" #[] 0)).update s.heap.objs.size (Obj.mapSeq (·++(as.map Value.ref).toArray)))=g0
 have hg0:g0.objs.size=s.heap.objs.size+1:=by rw[<-eg,Heap.size_update,size_push']
 have old0:∀b o,s.heap.get? b=some o->g0.get? b=some o:=λb o e=>by
  have hlt:b < s.heap.objs.size:=Heap.lt_size e
  rw[<-eg,Heap.get?_update_ne _ _ _ _ (r_A hlt),Heap.get?_push_ne _ _ _ (r_A hlt)]
  exact e
 clear eg
 show wpAny _ _ _ _ _ { s with heap:=g0.push (seqObj "list" (as.map Value.ref).toArray 0) }
 have hoD:(g0.push (seqObj "list" (as.map Value.ref).toArray 0)).get? g0.objs.size=some (seqObj "list" (as.map Value.ref).toArray 0):=Heap.get?_push_size _ rfl
 refine wpAny_bind (wpAny_holding (wpAny_call_entry_kw slot_list_sort ⟨_,hoD,rfl⟩ entry_list_sort ?body (ksk_l1 _ _)))
 show wpAny _ X.A.in1.in1 (Builtin.«list.sort» ⟨[.ref g0.objs.size], [(Str.ofString "key",.ref f)]⟩) _ _ _
 rw[ksk_t1]
 unfold ksk_tree
 refine wpAny_bind (listItems_at hoD rfl (wpAny_bind (listUpdate_at hoD rfl ?_ (by rw[r_m];exact z64) (r_E _))))
 obtain⟨e1,hD2⟩:∃e1,((g0.push (seqObj "list" (as.map Value.ref).toArray 0)).update g0.objs.size (Obj.mapSeq λ_=>(#[]:Array Value))).get? g0.objs.size=some (seqObj "list" #[] e1):=⟨_,get?_update_seq hoD λ_=> #[]⟩
 generalize eg2:(g0.push (seqObj "list" (as.map Value.ref).toArray 0)).update g0.objs.size (Obj.mapSeq λ_=>(#[]:Array Value))=g2 at hD2 ⊢
 have old2:∀b o,s.heap.get? b=some o->g2.get? b=some o:=λb o e=>by
  have hlt:=Heap.lt_size (old0 b o e)
  rw[<-eg2,Heap.get?_update_ne _ _ _ _ (r_A hlt)]
  exact Heap.get?_push_of_some _ (old0 b o e)
 have sz2:g2.objs.size=s.heap.objs.size+2:=by rw[<-eg2,Heap.size_update,size_push',hg0]
 clear eg2
 refine wpAny_bind (seqEpoch_at hD2 rfl (wpAny_bind (wpAny_newTuple (wpAny_bind (wpAny_newList (wpAny_holding ?_) (r_E _))) (by simpa using z64))))
 have old4:∀b o,s.heap.get? b=some o->((g2.push (seqObj "tuple" (as.map Value.ref).toArray 0)).push (seqObj "list" #[] 0)).get? b=some o:=λb o e=>Heap.get?_push_of_some _ (Heap.get?_push_of_some _ (old2 b o e))
 have sz3:(g2.push (seqObj "tuple" (as.map Value.ref).toArray 0)).objs.size=s.heap.objs.size+3:=by rw[size_push',sz2]
 have hkn:H (g2.push (seqObj "tuple" (as.map Value.ref).toArray 0)).objs.size=none:=I.hok.fresh (by rw[sz3];omega)
 have HD:H g0.objs.size=none:=I.hok.fresh (by rw[hg0];omega)
 have hDk:g0.objs.size≠(g2.push (seqObj "tuple" (as.map Value.ref).toArray 0)).objs.size:=by rw[sz3,hg0];omega
 have hL:=I.lt
 have I4:Inv X pins σ (upd H (g2.push (seqObj "tuple" (as.map Value.ref).toArray 0)).objs.size (.lst [])) { s with heap:=(g2.push (seqObj "tuple" (as.map Value.ref).toArray 0)).push (seqObj "list" #[] 0),toks:=s.toks }:=
  I.laid (o:= .lst []) old4 (by rw[sz3];omega) ⟨r_E _, [],0,.nil,Heap.get?_push_size _ rfl⟩
 have I5:=I4.addPin (a:=g0.objs.size) (o:=seqObj "list" #[] e1) (Heap.get?_push_of_some _ (Heap.get?_push_of_some _ hD2)) (by rw[a_i hDk];exact HD) (by rw[hg0];exact Nat.ne_of_gt (Nat.lt_succ_of_lt hL)) (I.nofs (by rw[hg0];omega)) (λv z=>by cases z)
 refine p_p (H:=H) F hr hb I5 a_b (λb u e=>by rw[a_i (a_h e hkn)];exact e) hR hkn hn h64 (r_x I.sz (by rw[hg0];omega)) (λx c e z=> ?_) (λpp hpp z=> ?_) λis H' s' h1 h2 s3 hD' J=> ?_
 ·obtain⟨v,o,ho,_⟩:=I.cell x c e
  have:=Heap.lt_size ho
  rw[z,hg0] at this
  exact absurd this (Nat.not_lt.mpr (Nat.le_succ _))
 ·have:=Heap.lt_size (I.pin pp hpp).1
  rw[z,hg0] at this
  exact absurd this (Nat.not_lt.mpr (Nat.le_succ _))
 ·refine⟨_,rfl,wpAny_pure ⟨_,rfl,.ref g0.objs.size,_,J,rfl,?_⟩⟩
  have hin:∀i∈is,i < ρs.length:=λi hi=>List.mem_range.mp (h1.mem_iff.mp hi)
  have s4:Same H (upd H' g0.objs.size (.lst ((is.map λi=>as.getD i 0).map V.ref))):=λb u e=>by rw[a_i (a_h e HD)];exact s3 _ _ e
  exact q g0.objs.size (is.map λi=>ρs.getD i h_E) _ HD s4 ⟨_,a_b,(g_g hR hin).same λb xs z=>s4 _ _ z⟩ (f_N h1) (h_j h1 h2)
def o_e (K:PySem.W.Frag) (te:TE):TE:=λσ H Q=>te σ H λv H1=>∃(p:Addr) (as:List Addr) (ρs:List Row),v= .ref p/\SqL K H1 p (as.map V.ref)/\RowsAt H1 as ρs/\(ρs.map (·.n)).Nodup/\as.length < 64/\
 ∀(l:Addr) (κs:List Row) (H':Hp),H1 l=none->Same H1 H'->LstAt H' l κs->κs.Perm ρs->Srt (ltR false) κs->Q (.ref l) H'
theorem l_v {k:Nat} {f:Addr} {fd:FuncData} {nm kn:Str} {e:Expr} {te:TE} {p kp kpos pos:Pos} (F:FnOk X.prog X.w X.K X.mg X.base CX0 k f fd [nm] o_n) (hr:Room k X.A.in1.in1) (hb:Binds X.K fd [nm] []) (hm:X.mg "sorted"=none) (ha:PE X e te) (hkm:X.mg kn=some (.ref f))
 (hg:Gl X "sorted":=by rfl) (hkg:Gl X kn:=by rfl) (hd:(kn == ("__debug__":Str))=false:=by decide) (hB:backTo pos (starEach [e] X.env)=(false,eval e X.env)::backTo pos (starEach [] X.env):=by rfl) (hP:(backTo pos (starEach [e] X.env)).any (·.1)=false:=by rfl) (hes:starEach [e] X.env=(false,eval e X.env)::starEach [] X.env:=by rfl):PE X (.Call (.Name "sorted" p) [e] [⟨some "key",.Name kn kp,kpos⟩] pos) (o_e X.K te):=by
 intro pins s σ H Q I h
 refine wpAny_Call_Name_kw (f_6 I hg hm boot_sorted ?_)
 refine callWith_kw (thn ((a_a ha a_d (hs:=hes):PA X [e] _) pos pins s σ H (λvs H1=>match vs with
  | [v]=>∃(p:Addr) (as:List Addr) (ρs:List Row),v= .ref p∧SqL X.K H1 p (as.map V.ref)∧RowsAt H1 as ρs∧(ρs.map (·.n)).Nodup∧as.length < 64∧
    ∀(l:Addr) (κs:List Row) (H':Hp),H1 l=none->Same H1 H'->LstAt H' l κs->κs.Perm ρs->Srt (ltR false) κs->Q (.ref l) H'
  | _=>False) I h) λus s1 ⟨vs,H1,I1,r,q⟩=> ?_) hB hP
 cases r with
 | nil=>exact q.elim
 | cons ru rt=>
   cases rt with
   | cons _ _=>exact q.elim
   | nil=>
     obtain⟨p,as,ρs,rfl,h1,h2,h3,h4,h5⟩:=q
     cases ru
     show wpAny _ _ (evalAll [(do let v<-eval (.Name kn kp) X.env;standAt pos;pure v)]) _ _ s1
     refine wpAny_evalAll_cons (wpAny_bind (c_P I1 hkg hkm (wpAny_bind (wpAny_standAt (wpAny_pure (wpAny_evalAll_nil ?_)))) hd))
     exact m_H F hr hb I1 h1 h2 h3 h4 h5
end
end TO
namespace K1
open PySem L2 TO
theorem c_b {K:PySem.W.Frag} {a Da:Addr} {σ:L2.St} {js:List Nat} {tt:TT} {te:TE} {QQ:Hp->Prop} {H:Hp} {as:List Addr} {ρs:List Row} (p:Row->Bool) (ha:H a=some (.lst (as.map .ref))) (hR:RowsAt H as ρs) (hD:H Da=none) (hsz:ρs.length < 10000)
 (hs:∀r ρ H2 (Qb:Bool->Hp->Prop),Same H H2->RowAt H2 r ρ->(∀H3,Same H2 H3->Qb (p ρ) H3)->tt (b_t σ js (some (.ref r))) H2 Qb)
 (he:∀r H2 (Q:VK),Q (.ref r) H2->te (b_t σ js (some (.ref r))) H2 Q)
 (hd:∀H',Same H H'->LstAt H' Da (ρs.filter p)->QQ H'):∃W:Nat->Nat->Hp->Prop,(∃m,W 0 m (upd H Da (.lst [])))/\f_c (Itl K a) Da σ js tt te QQ W:=by
 have hlen:=hR.len
 refine c_x (K:=K) (xs:=as.map V.ref) (λi ys H5=>Same H H5/\∃bs:List Addr,ys=bs.map V.ref/\RowsAt H5 bs ((ρs.take i).filter p)) ⟨Same.upd_new hD, [],rfl,.nil⟩ (λi ys H5 _ _ h=>SqL.of (h.1 _ _ ha)) ?_ ?_
 ·rintro i v ys H5 hi hD5 ⟨s5,bs,rfl,hb⟩
  rw[r_o] at hi
  cases e:as[i]? with
  | none=>rw[e] at hi;cases hi
  | some r=>
    rw[e] at hi
    obtain rfl:V.ref r=v:=r_j hi
    obtain⟨ρ,hρ,hr⟩:=hR.get' e
    refine hs r ρ H5 _ s5 (s5 _ _ hr) λH6 s6=> ?_
    have et:ρs.take (i+1)=ρs.take i++ [ρ]:=by rw[r_D,hρ];rfl
    refine a_x (λc=> ?_) (λc=> ?_)
    ·refine he r H6 _ ⟨s6 _ _ hD5,?_, λb u hb=> ?_, bs++ [r],by rw[r_k];rfl,?_⟩
     ·have:=hb.len
      have h2:=r_N p (ρs.take i)
      rw[r_y] at h2
      rw[r_c]
      exact r_s (m:=10000) (by omega) (by decide)
     ·rw[a_i (a_h hb hD)]
      exact s6 _ _ (s5 _ _ hb)
     ·rw[et,List.filter_append,r_B,if_pos c,List.filter_nil]
      exact (RowsAt.app (hb.same λb xs q=>s6 _ _ q) (.cons (s6 _ _ (s5 _ _ hr)) .nil)).same (NoTup.keep (NoTup.lst (s6 _ _ hD5)))
    ·refine⟨s6 _ _ hD5,s5.trans s6,bs,rfl,?_⟩
     rw[et,List.filter_append,r_B,if_neg c,List.filter_nil,r_J]
     exact hb.same λb xs q=>s6 _ _ q
 ·rintro ys H5 hD5 ⟨s5,bs,rfl,hb⟩
  rw[r_c,hlen,r_w (r_l _)] at hb
  exact hd H5 s5 ⟨bs,hD5,hb⟩
theorem _root_.L2.Room.in2 {k:Nat} {A:Around} (h:Room (k+1) A):Room k A.in1.in1:=⟨h.hd,by have:=h.dp;show A.depth+3 * k+5 < _;omega,by have:=h.un;show A.units+1+1+16 * k+200 < _;omega⟩
section
variable {P:Program} {w:World} {K:PySem.W.Frag} {mg:Str->Option Value} {base:Heap}
theorem k_i:a_s ["row"] ["row"] (a_m f_v):=⟨rfl,rfl,rfl,by decide+kernel,rfl,by decide+kernel,by decide+kernel⟩
theorem i_d {f fK C:Addr} {fd fdK:FuncData} (F:Fun K "rank_key" "rank_key" f_v f fd) (T:Txt K mg C) (gK:Gf K mg "key_of" fK fdK ["word","row"]) (GK:FnOk P w K mg base CX0 2 fK fdK ["word","row"] g_3):FnOk P w K mg base CX0 3 f fd ["row"] o_n:=by
 refine F.ok k_i (λvs H Q E h=> ?_) (λcdv A outer s H vs Q E hr h=> ?_)
 ·obtain⟨a,ρ,rfl,_⟩:=h
  rfl
 ·obtain⟨a,ρ,rfl,ha,k⟩:=h
  obtain⟨t1,h1⟩:=T.rank
  refine⟨_,a_g (a_n (a_j GK hr rfl gK.mg gK.kp gK.b .nil a_u (a_a (d_C h1) (a_a (pv 0) a_d)))),?_⟩
  exact⟨_,rfl,false,a,ρ,rfl,ha,k⟩
def m_c (CS CO:Addr):Sp:=λvs H Q _=>∃(A:Ads) (lo hi:Int) (t:Str) (room:Int) (l:List Row) (st:List a_Y) (ms:List Nat),vs= [.ref A.o,.int lo,.int hi,.str t]/\f_A CS CO H A room l st ms/\b_7 l/\l.length < 64/\
 ∀(d:Addr) (H':Hp),H d=none->Same H H'->LstAt H' d (((a_3 false l).filter λx=>decide (x.t=t)).filter (i_3 false (.int lo) (.int hi)))->Q (.ref d) H'
theorem l_S:a_s ["store","low","high","text","found"] ["store","low","high","text"] (a_m m_m):=⟨rfl,rfl,rfl,by decide+kernel,rfl,by decide+kernel,by decide+kernel⟩
theorem m_N (t:Str) (x:Row):i_3 true (.str t) (.str t) x=decide (x.t=t):=by
 by_cases e:x.t=t
 ·rw[r_S e]
  unfold i_3
  show (!ltV (.str x.t) (.str t)&& !ltV (.str t) (.str x.t))=true
  rw[e,b_1]
  rfl
 ·rw[r_T e]
  unfold i_3
  show (!ltV (.str x.t) (.str t)&& !ltV (.str t) (.str x.t))=false
  cases h:ltV (.str x.t) (.str t) with
  | true=>rfl
  | false=>
    have:=g_S (x:= .str x.t) (y:= .str t) rfl h (λq=>e (by injection q))
    rw[this];rfl
theorem m_W {f fB fRK CS CO:Addr} {fd fdB fdRK:FuncData} (F:Fun K "rows_of_text" "rows_of_text" m_m f fd) (T:Txt K mg CO) (TS:e_L K mg CS CO) (hsorted:mg "sorted"=none) (mBt:Mf K CO "between" fB fdB ["self","low","high"]) (GBt:FnOk P w K mg base CX0 4 fB fdB ["self","low","high"] (i_2 CO))
 (gRK:Gf K mg "rank_key" fRK fdRK ["row"]) (GRK:FnOk P w K mg base CX0 3 fRK fdRK ["row"] o_n):FnOk P w K mg base CX0 5 f fd ["store","low","high","text"] (m_c CS CO):=by
 refine F.ok l_S (λvs H Q E h=> ?_) (λcdv A outer s H vs Q E hr h=> ?_)
 ·obtain⟨A,lo,hi,t,room,l,st,ms,rfl,_⟩:=h
  rfl
 ·obtain⟨A,lo,hi,t,room,l,st,ms,rfl,S,hn,hl,fin⟩:=h
  have hr4:Room 4 _:=hr
  have hr2:=Room.in2 hr
  refine⟨_,a_c (c_B (k:=4) (x:="row") (fns:= ["low","high"]) (js:= [1,2]) rfl ⟨rfl,by decide+kernel,by decide+kernel,rfl,by decide+kernel,by decide+kernel,rfl,by simp[Env.kindOf];exact⟨rfl,rfl⟩,rfl,by decide+kernel⟩ (b_e (a_N (a_D (pv 0) rfl) T.cl mBt.m GBt hr4 mBt.b .nil a_u (a_a (pv 3) (a_a (pv 3) a_d)))) (λ_ _ _ _=>(d_c (PW.pt (e_j (a_k i_W (a_r (b_o K) (pv 0) a_f (λ_ _=>rfl)) (pv 1) (a_o _)) (c_Y (a_k p_s (a_r (b_o K) (pv 0) a_f (λ_ _=>rfl)) (pv 2) (a_o _))))))) (λ_ _ _ _=>(pv 0)) l_S.nd rfl (Or.inl rfl))
   (a_g (a_n (l_v GRK hr2 gRK.b hsorted (pv 4) gRK.mg))),?_⟩
  obtain⟨bl,bas,B,O,G,e⟩:=StrC.ordW S hn true
  obtain⟨dx,ho⟩:=O.ob
  refine⟨_,rfl,A.o,CS,A.dx,_,_,rfl,S.ob,TS.cl,TS.nText,e_b,A.o2,dx,_,rfl,ho,a_X _ _ (by decide+kernel) (by decide+kernel),_,rfl,_,rfl,true,A.o2,bl,bas,B,.str t,.str t,rfl,O,λ_=>rfl,λ_=>rfl,G,by rw[e,a_8];omega,λr H1 hr1 s1 hL1=> ?_⟩
  obtain⟨as,hla,hRa⟩:=id hL1
  have hlen1:(B.flatten.filter (btw true (.str t) (.str t))).length<=l.length:=by
   rw[e,<-a_8 true l];exact r_N _ _
  refine⟨r,rfl,⟨_,SqL.of hla⟩,λLa hLa=>c_b (λx=>decide (lo<=x.r)&&decide (x.r<=hi)) hla hRa hLa (by omega) ?_ (λr H2 Q q=>⟨_,rfl,q⟩) λH3 s3 hL3=> ?_⟩
  ·intro r ρ H2 Qb s2 hρ k
   refine⟨_,rfl,r,_,_,_,rfl,rfl,SqT.of hρ,a_e (j:=1) rfl,_,rfl,_,_,rfl,rfl,_,rfl,a_x (λc=> ?_) (λc=> ?_)⟩
   ·refine⟨_,rfl,r,_,_,_,rfl,rfl,SqT.of hρ,a_e (j:=1) rfl,_,rfl,_,_,rfl,rfl,_,rfl,?_⟩
    have c':decide (lo<=ρ.r)=true:=c
    have:=k H2 (Same.refl H2)
    rw[c',Bool.true_and] at this
    exact this
   ·have c':decide (lo<=ρ.r)=false:=by simpa using c
    have:=k H2 (Same.refl H2)
    rw[c',Bool.false_and] at this
    exact this
  ·obtain⟨bs,hlb,hRb⟩:=id hL3
   have hnf:((((B.flatten.filter (btw true (.str t) (.str t))).filter λx=>decide (lo<=x.r)&&decide (x.r<=hi))).map (·.n)).Nodup:=by
    have h0:b_7 B.flatten:=by rw[e];exact b_K (a_4 true l).symm hn
    exact ((List.filter_sublist.trans List.filter_sublist).map _).nodup h0
   have hlb2:=hRb.len
   have hlf:((B.flatten.filter (btw true (.str t) (.str t))).filter λx=>decide (lo<=x.r)&&decide (x.r<=hi)).length<=l.length:=r_x (r_N _ _) hlen1
   refine⟨_,rfl,La,bs,_,rfl,SqL.of hlb,hRb,hnf,by omega,λd κs H4 hd s4 hL4 hp hsr=> ?_⟩
   have hLa0:H La=none:=s1.free hLa
   refine fin d H4 ?_ ((s1.trans s3).trans s4) ?_
   ·exact s1.free (s3.free hd)
   ·have ek:κs=((a_3 false l).filter fun x=>decide (x.t=t)).filter (i_3 false (.int lo) (.int hi)):=by
     refine Srt.one (b_G false) (c_r false) hsr ?_ ?_
     ·exact ((c_q false hn).filter _).filter _
     ·refine hp.trans ?_
      have e1:(B.flatten.filter (btw true (.str t) (.str t)))=(a_3 true l).filter λx=>decide (x.t=t):=by
       rw[e];exact List.filter_congr λx _=>m_N t x
      have e2:∀m:List Row,(m.filter λx=>decide (lo<=x.r)&&decide (x.r<=hi))=m.filter (i_3 false (.int lo) (.int hi)):=λm=>List.filter_congr λx _=>by
       show (decide (lo<=x.r)&&decide (x.r<=hi))=(!decide (x.r < lo)&& !decide (hi < x.r))
       congr 1
       ·by_cases z:lo<=x.r
        ·rw[r_S z,r_T (by omega)];rfl
        ·rw[r_T z,r_S (by omega)];rfl
       ·by_cases z:x.r<=hi
        ·rw[r_S z,r_T (by omega)];rfl
        ·rw[r_T z,r_S (by omega)];rfl
      rw[e1,e2]
      exact (((a_4 true l).trans (a_4 false l).symm).filter _).filter _
    rw[<-ek]
    exact hL4
end
end K1
namespace TO
open PySem L2
def c_p (room:Int) (s:Sto):Deed->Str
 | .chg c=>(b_f room s.kept c).2
 | .begin=>"done"
 | .keep=>if s.marks= [] then "not begun" else "done"
 | .brk=>if s.marks= [] then "not begun" else "done"
 | _=>"nothing"
theorem f_D {room:Int} {s:Sto} {d:Deed} (h:d.plain):(s.step room d).2= .str (c_p room s d):=by
 cases d with
 | chg c=>rfl
 | begin=>rfl
 | keep=>unfold Sto.step c_p;cases s.marks <;> rfl
 | brk=>unfold Sto.step c_p;cases s.marks <;> rfl
 | _=>exact h.elim
theorem l_r {room:Int} {s:Sto} {d:Deed} (h:d.plain) (hw:¬ c_p room s d="done"):(s.step room d).1=s:=by
 cases d with
 | chg c=>
   have:(b_f room s.kept c).1=s.kept:=by
    have hw':¬ (b_f room s.kept c).2="done":=hw
    revert hw'
    cases c <;> simp only[b_f] <;> (repeat' split) <;> intro hw' <;> first | rfl | exact absurd rfl hw'
   show ({ s with kept:=(b_f room s.kept c).1 }:Sto)=s
   rw[this]
 | begin=>exact absurd rfl hw
 | keep=>
   unfold c_p at hw
   unfold Sto.step
   cases e:s.marks with
   | nil=>rfl
   | cons a r=>rw[e] at hw;simp at hw
 | brk=>
   unfold c_p at hw
   unfold Sto.step
   cases e:s.marks with
   | nil=>rfl
   | cons a r=>rw[e] at hw;simp at hw
 | _=>exact h.elim
theorem k_E {room:Int} {s:Sto} {d:Deed} (h:d.asks):s.step room d=(s,c_s s.kept d):=by
 cases d <;> first | rfl | exact h.elim
theorem b_p {w:Bool} {l l':List Row} (hl:b_7 l) (p:l.Perm l'):a_3 w l=a_3 w l':=
 d_T (b_K p hl) (c_q w hl) ((a_4 w l).trans p)
theorem i_I {l l':List Row} (hl:b_7 l) (p:l.Perm l') (d:Deed):c_s l d=c_s l' d:=by
 cases d with
 | row n=>simp only[c_s];rw[e_W hl p]
 | both lo hi t=>simp only[c_s];rw[b_p hl p]
 | within x lo hi=>simp only[c_s];cases b_4 x <;> simp only[b_p hl p]
 | «from» x k m=>simp only[c_s];cases b_4 x <;> simp only[b_p hl p]
 | spot x n=>
   simp only[c_s]
   rw[e_W hl p]
   cases b_4 x with
   | none=>rfl
   | some w=>
     simp only
     cases c_V l' n with
     | none=>rfl
     | some ρ=>simp only;rw[(p.filter _).length_eq]
 | _=>rfl
end TO
namespace K1
open PySem L2 TO
structure o_8 (K:PySem.W.Frag) (CT CM CF CN CO:Addr):Prop where
 tt:PySem.W.exmOne K (.ref CT) (.ref CT)=some true
 mt:PySem.W.exmOne K (.ref CM) (.ref CT)=some false
 mm:PySem.W.exmOne K (.ref CM) (.ref CM)=some true
 ft:PySem.W.exmOne K (.ref CF) (.ref CT)=some false
 fm:PySem.W.exmOne K (.ref CF) (.ref CM)=some false
 ff:PySem.W.exmOne K (.ref CF) (.ref CF)=some true
 nt:PySem.W.exmOne K (.ref CN) (.ref CT)=some false
 nm:PySem.W.exmOne K (.ref CN) (.ref CM)=some false
 nf:PySem.W.exmOne K (.ref CN) (.ref CF)=some false
 nn:PySem.W.exmOne K (.ref CN) (.ref CN)=some true
 ot:PySem.W.exmOne K (.ref CO) (.ref CT)=some false
 om:PySem.W.exmOne K (.ref CO) (.ref CM)=some false
 of:PySem.W.exmOne K (.ref CO) (.ref CF)=some false
 on:PySem.W.exmOne K (.ref CO) (.ref CN)=some false
 oo:PySem.W.exmOne K (.ref CO) (.ref CO)=some true
structure q_1 (CT CF CM CN:Addr) (x:Str) (E:XK) (H:Hp):Prop where
 t:x="taken"->E (.ref CT) none H
 f:x="full"->E (.ref CF) none H
 m:x="missing"->E (.ref CM) none H
 n:x="not begun"->E (.ref CN) none H
section
variable {P:Program} {w:World} {K:PySem.W.Frag} {mg:Str->Option Value} {base:Heap}
def q_w (CS CO CT CF CM CN:Addr):Sp:=λvs H Q E=>∃(A:Ads) (a:Addr) (d:Deed) (N:Nat) (room sd:Int) (s:Sto),vs= [.ref A.o,.ref a]/\SAt CS CO H A N room s/\DeedAt H a d/\d.plain/\d.tell sd/\N<=8000/\
 (c_p room s d="done"->m_8 CS CO H A (N+1) room Q (s.step room d).1)/\q_1 CT CF CM CN (c_p room s d) E H
theorem q_D:a_s ["store","deed"] ["store","deed"] (a_m dDo):=⟨rfl,rfl,rfl,by decide+kernel,rfl,by decide+kernel,by decide+kernel⟩
theorem p_A {f fBr fAl fCu fBe fKe fBk CS CO CT CF CM CN:Addr} {fd fdBr fdAl fdCu fdBe fdKe fdBk:FuncData} (F:Fun K "do_change" "do_change" dDo f fd) (TS:e_L K mg CS CO)
 (mBr:Mf K CS "bring" fBr fdBr ["self","row"]) (GBr:FnOk P w K mg base (CXR P w) 7 fBr fdBr ["self","row"] (j_N CS CO CT CF)) (mAl:Mf K CS "alter" fAl fdAl ["self","row"]) (GAl:FnOk P w K mg base (CXR P w) 7 fAl fdAl ["self","row"] (i_F CS CO CM))
 (mCu:Mf K CS "cut" fCu fdCu ["self","number"]) (GCu:FnOk P w K mg base (CXR P w) 7 fCu fdCu ["self","number"] (o_g CS CO CM)) (mBe:Mf K CS "begin" fBe fdBe ["self"]) (GBe:FnOk P w K mg base CX0 1 fBe fdBe ["self"] (g_7 CS CO))
 (mKe:Mf K CS "keep" fKe fdKe ["self"]) (GKe:FnOk P w K mg base (CXR P w) 2 fKe fdKe ["self"] (j_Z CS CO CN)) (mBk:Mf K CS "break_off" fBk fdBk ["self"]) (GBk:FnOk P w K mg base (CXR P w) 6 fBk fdBk ["self"] (g_x CS CO CN)):
 FnOk P w K mg base (CXR P w) 8 f fd ["store","deed"] (q_w CS CO CT CF CM CN):=by
 refine F.okX q_D (λvs H Q E h=> ?_) (λcdv A outer s H vs Q E hr h=> ?_)
 ·obtain⟨A,a,d,N,room,sd,s,rfl,_⟩:=h
  rfl
 ·obtain⟨A,a,d,N,room,sd,so,rfl,S,hd,hpl,htl,hN,k1,k2⟩:=h
  have hr6:Room 6 _:=hr.mono (by decide)
  have hr2:Room 2 _:=hr.mono (by decide)
  have hr1:Room 1 _:=hr.mono (by decide)
  have ob:∃fl dx,H A.o=some (.ins CS dx fl)/\∀m:Str,¬ m="room"->¬ m="by_number"->¬ m="by_rank"->¬ m="by_text"->¬ m="steps"->¬ m="marks"->fl.lookup m=none:=by
   obtain⟨l,st,ms,C,_⟩:=S.ex
   exact⟨_,_,C.ob,λm a b c d e f=>d_o a b c d e f⟩
  obtain⟨fl,dx,hob,hno⟩:=ob
  refine⟨_,a_g (a_C (a_k a_H (a_r a_p (pv 1) a_f (λ_ _=>rfl)) a_l (a_o _)) (a_g (a_z (a_N (pv 0) TS.cl mBr.m GBr hr mBr.b .nil (c_h (E':=E) λ_ _ _ h=>h) (a_a (a_r a_p (pv 1) a_f (λ_ _=>rfl)) a_d))))
   (a_g (a_C (a_k a_H (a_r a_p (pv 1) a_f (λ_ _=>rfl)) a_l (a_o _)) (a_g (a_z (a_N (pv 0) TS.cl mAl.m GAl hr mAl.b .nil (c_h (E':=E) λ_ _ _ h=>h) (a_a (a_r a_p (pv 1) a_f (λ_ _=>rfl)) a_d))))
   (a_g (a_C (a_k a_H (a_r a_p (pv 1) a_f (λ_ _=>rfl)) a_l (a_o _)) (a_g (a_z (a_N (pv 0) TS.cl mCu.m GCu hr mCu.b .nil (c_h (E':=E) λ_ _ _ h=>h) (a_a (a_r a_p (pv 1) a_f (λ_ _=>rfl)) a_d))))
   (a_g (a_C (a_k a_H (a_r a_p (pv 1) a_f (λ_ _=>rfl)) a_l (a_o _)) (a_g (a_z (b_w (pv 0) TS.cl mBe.m GBe hr1 mBe.b .nil a_u)))
   (a_g (a_C (a_k a_H (a_r a_p (pv 1) a_f (λ_ _=>rfl)) a_l (a_o _)) (a_g (a_z (b_w (pv 0) TS.cl mKe.m GKe hr2 mKe.b .nil (c_h (E':=E) λ_ _ _ h=>h))))
   (a_g (a_C (a_k a_H (a_r a_p (pv 1) a_f (λ_ _=>rfl)) a_l (a_o _)) (a_g (a_z (b_w (pv 0) TS.cl mBk.m GBk hr6 mBk.b .nil (c_h (E':=E) λ_ _ _ h=>h)))) a_q))))))))))),?_⟩
  cases d with
  | chg c=>
    cases c with
    | bring ρ=>
      obtain⟨r,h1,hρ⟩:=hd
      refine⟨_,rfl,a,_,_,_,rfl,rfl,SqT.of h1,a_e (j:=0) rfl,rfl,_,rfl,a_x (λ_=> ?_) (λq=>absurd (r_S rfl) q)⟩
      refine⟨_,rfl,A.o,dx,_,rfl,hob,hno _ (by decide+kernel) (by decide+kernel) (by decide+kernel) (by decide+kernel) (by decide+kernel) (by decide+kernel),_,rfl,a,_,_,_,rfl,rfl,SqT.of h1,a_e (j:=1) rfl,A,r,ρ,N,room,so,rfl,S,hρ,g_9 htl,hN,λc=>k2.t ?_, λc c2=>k2.f ?_, λc c2=> ?_⟩
      ·simp[c_p,b_f,c]
      ·simp[c_p,b_f,c,c2]
      ·have e:b_f room so.kept (.bring ρ)=(c_e so.kept ρ,("done":Str)):=by simp only[b_f];rw[if_neg (by rw[c];simp),if_neg c2]
       have k3:=k1 (by show (b_f room so.kept (.bring ρ)).2=_;rw[e])
       have e2:(so.step room (.chg (.bring ρ))).1={ so with kept:=c_e so.kept ρ }:=by show ({ so with kept:=(b_f room so.kept (.bring ρ)).1 }:Sto)=_;rw[e]
       rw[e2] at k3
       exact k3
    | alter ρ=>
      obtain⟨r,h1,hρ⟩:=hd
      refine⟨_,rfl,a,_,_,_,rfl,rfl,SqT.of h1,a_e (j:=0) rfl,rfl,_,rfl,a_x (λq=>absurd q (by decide+kernel)) (λ_=> ?_)⟩
      refine⟨_,rfl,a,_,_,_,rfl,rfl,SqT.of h1,a_e (j:=0) rfl,rfl,_,rfl,a_x (λ_=> ?_) (λq=>absurd (r_S rfl) q)⟩
      refine⟨_,rfl,A.o,dx,_,rfl,hob,hno _ (by decide+kernel) (by decide+kernel) (by decide+kernel) (by decide+kernel) (by decide+kernel) (by decide+kernel),_,rfl,a,_,_,_,rfl,rfl,SqT.of h1,a_e (j:=1) rfl,A,r,ρ,N,room,so,rfl,S,hρ,g_9 htl,hN,λc=>k2.m ?_, λc=> ?_⟩
      ·simp[c_p,b_f,c]
      ·have e:b_f room so.kept (.alter ρ)=(c_e so.kept ρ,("done":Str)):=by simp only[b_f];rw[if_pos c]
       have k3:=k1 (by show (b_f room so.kept (.alter ρ)).2=_;rw[e])
       have e2:(so.step room (.chg (.alter ρ))).1={ so with kept:=c_e so.kept ρ }:=by show ({ so with kept:=(b_f room so.kept (.alter ρ)).1 }:Sto)=_;rw[e]
       rw[e2] at k3
       exact k3
    | cut n=>
      refine⟨_,rfl,a,_,_,_,rfl,rfl,SqT.of hd,a_e (j:=0) rfl,rfl,_,rfl,a_x (λq=>absurd q (by decide+kernel)) (λ_=> ?_)⟩
      refine⟨_,rfl,a,_,_,_,rfl,rfl,SqT.of hd,a_e (j:=0) rfl,rfl,_,rfl,a_x (λq=>absurd q (by decide+kernel)) (λ_=> ?_)⟩
      refine⟨_,rfl,a,_,_,_,rfl,rfl,SqT.of hd,a_e (j:=0) rfl,rfl,_,rfl,a_x (λ_=> ?_) (λq=>absurd (r_S rfl) q)⟩
      refine⟨_,rfl,A.o,dx,_,rfl,hob,hno _ (by decide+kernel) (by decide+kernel) (by decide+kernel) (by decide+kernel) (by decide+kernel) (by decide+kernel),_,rfl,a,_,_,_,rfl,rfl,SqT.of hd,a_e (j:=1) rfl,A,n,N,room,so,rfl,S,g_9 htl,hN,λc=>k2.m ?_, λc=> ?_⟩
      ·simp[c_p,b_f,c]
      ·have e:b_f room so.kept (.cut n)=(b_a so.kept n,("done":Str)):=by simp only[b_f];rw[if_pos c]
       have k3:=k1 (by show (b_f room so.kept (.cut n)).2=_;rw[e])
       have e2:(so.step room (.chg (.cut n))).1={ so with kept:=b_a so.kept n }:=by show ({ so with kept:=(b_f room so.kept (.cut n)).1 }:Sto)=_;rw[e]
       rw[e2] at k3
       exact k3
  | begin=>
    refine⟨_,rfl,a,_,_,_,rfl,rfl,SqT.of hd,a_e (j:=0) rfl,rfl,_,rfl,a_x (λq=>absurd q (by decide+kernel)) (λ_=> ?_)⟩
    refine⟨_,rfl,a,_,_,_,rfl,rfl,SqT.of hd,a_e (j:=0) rfl,rfl,_,rfl,a_x (λq=>absurd q (by decide+kernel)) (λ_=> ?_)⟩
    refine⟨_,rfl,a,_,_,_,rfl,rfl,SqT.of hd,a_e (j:=0) rfl,rfl,_,rfl,a_x (λq=>absurd q (by decide+kernel)) (λ_=> ?_)⟩
    refine⟨_,rfl,a,_,_,_,rfl,rfl,SqT.of hd,a_e (j:=0) rfl,rfl,_,rfl,a_x (λ_=> ?_) (λq=>absurd (r_S rfl) q)⟩
    exact⟨_,rfl,A.o,dx,_,rfl,hob,hno _ (by decide+kernel) (by decide+kernel) (by decide+kernel) (by decide+kernel) (by decide+kernel) (by decide+kernel),A,N,room,so,rfl,S,hN,k1 rfl⟩
  | keep=>
    refine⟨_,rfl,a,_,_,_,rfl,rfl,SqT.of hd,a_e (j:=0) rfl,rfl,_,rfl,a_x (λq=>absurd q (by decide+kernel)) (λ_=> ?_)⟩
    refine⟨_,rfl,a,_,_,_,rfl,rfl,SqT.of hd,a_e (j:=0) rfl,rfl,_,rfl,a_x (λq=>absurd q (by decide+kernel)) (λ_=> ?_)⟩
    refine⟨_,rfl,a,_,_,_,rfl,rfl,SqT.of hd,a_e (j:=0) rfl,rfl,_,rfl,a_x (λq=>absurd q (by decide+kernel)) (λ_=> ?_)⟩
    refine⟨_,rfl,a,_,_,_,rfl,rfl,SqT.of hd,a_e (j:=0) rfl,rfl,_,rfl,a_x (λq=>absurd q (by decide+kernel)) (λ_=> ?_)⟩
    refine⟨_,rfl,a,_,_,_,rfl,rfl,SqT.of hd,a_e (j:=0) rfl,rfl,_,rfl,a_x (λ_=> ?_) (λq=>absurd (r_S rfl) q)⟩
    refine⟨_,rfl,A.o,dx,_,rfl,hob,hno _ (by decide+kernel) (by decide+kernel) (by decide+kernel) (by decide+kernel) (by decide+kernel) (by decide+kernel),A,N,room,so,rfl,S,λc=>k2.n (by simp[c_p,c]),λk r c A' H' S' e' F' tk=> ?_⟩
    have k3:=k1 (by simp[c_p,c])
    have e2:(so.step room .keep).1={ so with marks:=r }:=by unfold Sto.step;rw[c]
    rw[e2] at k3
    exact k3 A' H' (S'.mono (Nat.le_succ _)) e' F' tk
  | brk=>
    refine⟨_,rfl,a,_,_,_,rfl,rfl,SqT.of hd,a_e (j:=0) rfl,rfl,_,rfl,a_x (λq=>absurd q (by decide+kernel)) (λ_=> ?_)⟩
    refine⟨_,rfl,a,_,_,_,rfl,rfl,SqT.of hd,a_e (j:=0) rfl,rfl,_,rfl,a_x (λq=>absurd q (by decide+kernel)) (λ_=> ?_)⟩
    refine⟨_,rfl,a,_,_,_,rfl,rfl,SqT.of hd,a_e (j:=0) rfl,rfl,_,rfl,a_x (λq=>absurd q (by decide+kernel)) (λ_=> ?_)⟩
    refine⟨_,rfl,a,_,_,_,rfl,rfl,SqT.of hd,a_e (j:=0) rfl,rfl,_,rfl,a_x (λq=>absurd q (by decide+kernel)) (λ_=> ?_)⟩
    refine⟨_,rfl,a,_,_,_,rfl,rfl,SqT.of hd,a_e (j:=0) rfl,rfl,_,rfl,a_x (λq=>absurd q (by decide+kernel)) (λ_=> ?_)⟩
    refine⟨_,rfl,a,_,_,_,rfl,rfl,SqT.of hd,a_e (j:=0) rfl,rfl,_,rfl,a_x (λ_=> ?_) (λq=>absurd (r_S rfl) q)⟩
    refine⟨_,rfl,A.o,dx,_,rfl,hob,hno _ (by decide+kernel) (by decide+kernel) (by decide+kernel) (by decide+kernel) (by decide+kernel) (by decide+kernel),A,N,room,so,rfl,S,hN,λc=>k2.n (by simp[c_p,c]),λk r c A' H' S' e' F' tk=> ?_⟩
    have k3:=k1 (by simp[c_p,c])
    have e2:(so.step room .brk).1=⟨k,r⟩:=by unfold Sto.step;rw[c]
    rw[e2] at k3
    exact k3 A' H' (S'.mono (Nat.le_succ _)) e' F' tk
  | _=>exact hpl.elim
end
end K1
namespace TO
open PySem L2
theorem h_R:∀{l m:List Int},l.Nodup->(∀x∈l,x∈m)->l.length<=m.length
 | [],m,_,_=>r_E _
 | a::r,m,h,hs=>by
   rw[r_G] at h
   have ha:=hs a (r_g ..)
   have:=h_R (l:=r) (m:=m.erase a) h.2 λx hx=>(List.mem_erase_of_ne (λe:x=a=>h.1 (by rw[<-e];exact hx))).mpr (hs x (r_f _ hx))
   rw[List.length_erase_of_mem ha] at this
   have hp:0 < m.length:=List.length_pos_of_mem ha
   simp only[r_i]
   omega
structure Sto.inML (sd:Int) (s:Sto):Prop where
 kept:∀x∈s.kept,x.n∈ML sd
 marks:∀k∈s.marks,∀x∈k,x.n∈ML sd
theorem d_f {sd:Int} {l:List Row} (hn:b_7 l) (h:∀x∈l,x.n∈ML sd):l.length < 64:=by
 have:=h_R hn λn hn'=>by
  obtain⟨x,hx,e⟩:=r_H.mp hn'
  rw[<-e];exact h x hx
 rw[r_c,o_o] at this
 omega
theorem k_0 {l:List Row} {ρ x:Row} (h:x∈c_e l ρ):x=ρ\/x∈l:=by
 unfold c_e at h
 split at h
 ·obtain⟨y,hy,e⟩:=r_H.mp h
  split at e
  ·exact .inl e.symm
  ·exact .inr (e ▸ hy)
 ·rcases r_u.mp h with q | q
  ·exact .inr q
  ·exact .inl (r_h.mp q)
theorem h_b {room sd:Int} {l:List Row} {c:Chg} (hc:c.tell sd) (h:∀x∈l,x.n∈ML sd):∀x∈(b_f room l c).1,x.n∈ML sd:=by
 have put:∀ρ:Row,ρ.n∈ML sd->∀x∈c_e l ρ,x.n∈ML sd:=λρ hρ x hx=>by
  rcases k_0 hx with e | e
  ·rw[e];exact hρ
  ·exact h x e
 cases c with
 | bring ρ=>simp only[b_f];(repeat' split) <;> first | exact h | exact put ρ hc
 | alter ρ=>simp only[b_f];split <;> first | exact h | exact put ρ hc
 | cut n=>
   simp only[b_f]
   split
   ·exact λx hx=>h x (List.mem_filter.mp hx).1
   ·exact h
theorem g_D {room sd:Int} {l0:List Row} (h0:∀x∈l0,x.n∈ML sd):∀{cs:List Chg} {i:Nat} {l:List Row},(∀c∈cs,c.tell sd)->(∀x∈l,x.n∈ML sd)->∀x∈(c_i room l0 i l cs).1,x.n∈ML sd
 | [],i,l,_,h=>h
 | c::r,i,l,hc,h=>by
   unfold c_i
   dsimp only
   split
   ·exact g_D h0 (λd hd=>hc d (r_f _ hd)) (h_b (hc c (r_g ..)) h)
   ·exact h0
theorem m_M {room sd:Int} {s:Sto} {d:Deed} (hd:d.tell sd) (h:s.inML sd):(s.step room d).1.inML sd:=by
 cases d with
 | chg c=>exact⟨h_b hd h.kept,h.marks⟩
 | all cs=>exact⟨g_D h.kept hd h.kept,h.marks⟩
 | begin=>exact⟨h.kept,fun k hk=>by
    rcases r_n.mp hk with e | e
    ·rw[e];exact h.kept
    ·exact h.marks k e⟩
 | keep=>
   unfold Sto.step
   cases e:s.marks with
   | nil=>exact h
   | cons a r=>exact⟨h.kept,λk hk=>h.marks k (by rw[e];exact r_f _ hk)⟩
 | brk=>
   unfold Sto.step
   cases e:s.marks with
   | nil=>exact h
   | cons a r=>exact⟨h.marks a (by rw[e];exact r_g ..),λk hk=>h.marks k (by rw[e];exact r_f _ hk)⟩
 | _=>exact h
end TO
namespace K1
open PySem L2 TO
inductive Ans (H:Hp) (f:List Addr):D->V->Prop
 | str (x:Str):Ans H f (.str x) (.str x)
 | int (i:Int):Ans H f (.int i) (.int i)
 | row {a:Addr} {ρ:Row}:RowAt H a ρ->Ans H f (i_n ρ) (.ref a)
 | pair {a:Addr} {i:Int} {x:Str}:H a=some (.tup [.int i,.str x])->Ans H f (.tup [.int i,.str x]) (.ref a)
 | rows {t:Addr} {l:List Row}:LstAt H t l->t∉f->Ans H f (e_A l) (.ref t)
theorem Ans.bears {H:Hp} {f:List Addr} {d:D} {v:V} (h:Ans H f d v):Bears H d v:=by
 cases h with
 | str x=>exact .str x
 | int i=>exact .int i
 | row h=>exact RowAt.bears h
 | pair h=>exact .tup h (.cons (.int _) (.cons (.str _) .nil))
 | rows h _=>exact LstAt.bears h
theorem Ans.mov {H H':Hp} {f f':List Addr} {d:D} {v:V} (h:Ans H f d v) (S:Stp H H' f f') (tk:a_R H H'):Ans H' f' d v:=by
 cases h with
 | str x=>exact .str x
 | int i=>exact .int i
 | row h=>exact .row (tk _ _ h)
 | pair h=>exact .pair (tk _ _ h)
 | rows h hn=>
   obtain⟨as,h1,h2⟩:=h
   refine .rows ⟨as,S.keep _ _ h1 hn,h2.same tk⟩ λhc=> ?_
   rcases S.new _ hc with q | q
   ·exact hn q
   ·rw[h1] at q;cases q
def NewA (H H':Hp) (v:V):Prop:=∀t xs,v= .ref t->H' t=some (.lst xs)->H t=none
theorem NewA.str {H H':Hp} (x:Str):NewA H H' (.str x):=λt xs e=>by cases e
theorem NewA.tup {H H':Hp} {a:Addr} {ys:List V} (h:H' a=some (.tup ys)):NewA H H' (.ref a):=λt xs e z=>by
 cases e
 rw[h] at z;cases z
abbrev p_k (CS CO:Addr) (H:Hp) (A:Ads) (N:Nat) (room:Int) (Q:VK) (r:Sto×D):Prop:=∀(v:V) (A':Ads) (H':Hp),SAt CS CO H' A' N room r.1->A'.o=A.o->Stp H H' A.fp A'.fp->a_R H H'->Ans H' A'.fp r.2 v->NewA H H' v->Q v H'
section
variable {P:Program} {w:World} {K:PySem.W.Frag} {mg:Str->Option Value} {base:Heap}
def l_Z (CS CO CNo CM:Addr):Sp:=λvs H Q E=>∃(A:Ads) (a:Addr) (d:Deed) (N:Nat) (room sd:Int) (s:Sto),vs= [.ref A.o,.ref a]/\SAt CS CO H A N room s/\DeedAt H a d/\d.asks/\d.form/\d.tell sd/\N<=8000/\s.kept.length < 64/\
 (∀v H',Same H H'->Ans H' A.fp (c_s s.kept d) v->NewA H H' v->Q v H')/\(c_s s.kept d= .str "missing"->E (.ref CM) none H)/\(c_s s.kept d= .str "no order"->∀H',Same H H'->E (.ref CNo) none H')
theorem n_7:a_s ["store","deed"] ["store","deed"] (a_m p_2):=⟨rfl,rfl,rfl,by decide+kernel,rfl,by decide+kernel,by decide+kernel⟩
theorem h_e {x:Str} (h:c_u x) (hn:b_4 x=none):(PySem.reprText x).length<=1000:=by
 rcases h with e | e | e
 ·rw[e] at hn;cases hn
 ·rw[e] at hn;cases hn
 ·rw[e];decide+kernel
theorem m_C {f fR fW fT fF fS CS CO CNo CM:Addr} {fd fdR fdW fdT fdF fdS:FuncData} (F:Fun K "answer_to_question" "answer_to_question" p_2 f fd) (TS:e_L K mg CS CO)
 (mR:Mf K CS "row_of" fR fdR ["self","number"]) (GR:FnOk P w K mg base (CXR P w) 1 fR fdR ["self","number"] (e_u CS CO CM)) (gW:Gf K mg "rows_within" fW fdW ["store","word","low","high"]) (GW:FnOk P w K mg base (CXR P w) 5 fW fdW ["store","word","low","high"] (h_P CS CO CNo))
 (gT:Gf K mg "rows_of_text" fT fdT ["store","low","high","text"]) (GT:FnOk P w K mg base CX0 5 fT fdT ["store","low","high","text"] (m_c CS CO)) (gF:Gf K mg "rows_from" fF fdF ["store","word","spot","many"]) (GF:FnOk P w K mg base (CXR P w) 3 fF fdF ["store","word","spot","many"] (l_R CS CO CNo))
 (gS:Gf K mg "spot_of" fS fdS ["store","word","number"]) (GS:FnOk P w K mg base (CXR P w) 5 fS fdS ["store","word","number"] (l_4 CS CO CNo CM)):FnOk P w K mg base (CXR P w) 6 f fd ["store","deed"] (l_Z CS CO CNo CM):=by
 refine F.okX n_7 (λvs H Q E h=> ?_) (λcdv A outer s H vs Q E hr h=> ?_)
 ·obtain⟨A,a,d,N,room,sd,s,rfl,_⟩:=h
  rfl
 ·obtain⟨A,a,d,N,room,sd,so,rfl,S,hd,has,hf,htl,hN,hlen,k1,k2,k3⟩:=h
  obtain⟨l,st,ms,C,hs,hp,h1,h2⟩:=S.ex
  have hr3:Room 3 _:=hr.mono (by decide)
  have hr1:Room 1 _:=hr.mono (by decide)
  have hn:=hs.nums
  have hll:l.length=so.kept.length:=hp.length_eq
  have fpin:∀b∈A.fp,∃u,H b=some u:=λb hb=>by
   simp only[Ads.fp,r_n] at hb
   rcases hb with e | e | e
   ·rw[e];exact⟨_,C.ob⟩
   ·obtain⟨rs,q,_⟩:=C.nb;rw[e];exact⟨_,q⟩
   ·obtain⟨xs,q⟩:=C.list b e;exact⟨_,q⟩
  have free:∀t,H t=none->t∉A.fp:=λt ht hc=>by obtain⟨u,q⟩:=fpin t hc;rw[ht] at q;cases q
  refine⟨_,a_c (a_C (a_k a_H (a_r a_p (pv 1) a_f (λ_ _=>rfl)) a_l (a_o _)) (a_g (a_n (a_N (pv 0) TS.cl mR.m GR hr1 mR.b .nil (c_h (E':=E) λ_ _ _ h=>h) (a_a (a_r a_p (pv 1) a_f (λ_ _=>rfl)) a_d)))) a_q)
   (a_c (a_C (a_k a_H (a_r a_p (pv 1) a_f (λ_ _=>rfl)) a_l (a_o _)) (a_g (a_n (a_j GW hr rfl gW.mg gW.kp gW.b .nil (c_h (E':=E) λ_ _ _ h=>h) (a_a (pv 0) (a_a (a_r a_p (pv 1) a_f (λ_ _=>rfl)) (a_a (a_r a_p (pv 1) a_f (λ_ _=>rfl)) (a_a (a_r a_p (pv 1) a_f (λ_ _=>rfl)) a_d))))))) a_q)
   (a_c (a_C (a_k a_H (a_r a_p (pv 1) a_f (λ_ _=>rfl)) a_l (a_o _)) (a_g (a_n (a_j GT hr rfl gT.mg gT.kp gT.b .nil a_u (a_a (pv 0) (a_a (a_r a_p (pv 1) a_f (λ_ _=>rfl)) (a_a (a_r a_p (pv 1) a_f (λ_ _=>rfl)) (a_a (a_r a_p (pv 1) a_f (λ_ _=>rfl)) a_d))))))) a_q)
   (a_c (a_C (a_k a_H (a_r a_p (pv 1) a_f (λ_ _=>rfl)) a_l (a_o _)) (a_g (a_n (a_j GF hr3 rfl gF.mg gF.kp gF.b .nil (c_h (E':=E) λ_ _ _ h=>h) (a_a (pv 0) (a_a (a_r a_p (pv 1) a_f (λ_ _=>rfl)) (a_a (a_r a_p (pv 1) a_f (λ_ _=>rfl)) (a_a (a_r a_p (pv 1) a_f (λ_ _=>rfl)) a_d))))))) a_q)
   (a_g (a_n (a_j GS hr rfl gS.mg gS.kp gS.b .nil (c_h (E':=E) λ_ _ _ h=>h) (a_a (pv 0) (a_a (a_r a_p (pv 1) a_f (λ_ _=>rfl)) (a_a (a_r a_p (pv 1) a_f (λ_ _=>rfl)) a_d))))))))),?_⟩
  rw[<-i_I hn hp] at k1 k2 k3
  have tell:∀{t:Addr} {m:List Row} {H':Hp},H t=none->Same H H'->LstAt H' t m->c_s l d=e_A m->Q (.ref t) H':=λ{t m H'} ht s' hL e=>k1 (.ref t) H' s' (by rw[e];exact .rows hL (free t ht)) λt' xs e' _=>by cases e';exact ht
  cases d with
  | row n=>
    refine⟨_,rfl,a,_,_,_,rfl,rfl,SqT.of hd,a_e (j:=0) rfl,rfl,_,rfl,a_x (λ_=> ?_) (λq=>absurd (r_S rfl) q)⟩
    refine⟨_,rfl,A.o,A.dx,_,rfl,C.ob,d_o (by decide+kernel) (by decide+kernel) (by decide+kernel) (by decide+kernel) (by decide+kernel) (by decide+kernel),_,rfl,a,_,_,_,rfl,rfl,SqT.of hd,a_e (j:=1) rfl,A,n,room,l,st,ms,rfl,C,htl,λc r ρ hfi hρ=> ?_, λc=>k2 ?_⟩
    ·refine k1 (.ref r) H (Same.refl H) ?_ (NewA.tup hρ)
     simp only[c_s,hfi]
     exact .row hρ
    ·simp only[c_s,b_I c]
  | within x lo hi=>
    refine⟨_,rfl,a,_,_,_,rfl,rfl,SqT.of hd,a_e (j:=0) rfl,rfl,_,rfl,a_x (λq=>absurd q (by decide+kernel)) (λ_=> ?_)⟩
    refine⟨_,rfl,a,_,_,_,rfl,rfl,SqT.of hd,a_e (j:=0) rfl,rfl,_,rfl,a_x (λ_=> ?_) (λq=>absurd (r_S rfl) q)⟩
    refine⟨_,rfl,_,rfl,a,_,_,_,rfl,rfl,SqT.of hd,a_e (j:=1) rfl,_,rfl,a,_,_,_,rfl,rfl,SqT.of hd,a_e (j:=2) rfl,_,rfl,a,_,_,_,rfl,rfl,SqT.of hd,a_e (j:=3) rfl,A,x,lo,hi,room,l,st,ms,rfl,C,hn,by omega,λw hw=>⟨λρ=> ?_, λρ=> ?_, λt H' ht s' hL=>tell ht s' hL ?_⟩,λhw=>⟨h_e hf.2 hw,k3 ?_⟩⟩
    ·have he:=hf.1
     unfold b_D at he
     unfold b_4 at hw
     split at hw
     ·rename_i e
      cases hw
      rw[e,if_neg (λz=>f_E z.symm)] at he
      obtain⟨i,j,rfl,rfl⟩:=he
      rfl
     ·split at hw
      ·rename_i e
       cases hw
       rw[if_pos e] at he
       obtain⟨i,j,rfl,rfl⟩:=he
       rfl
      ·cases hw
    ·have he:=hf.1
     unfold b_D at he
     unfold b_4 at hw
     split at hw
     ·rename_i e
      cases hw
      rw[e,if_neg (λz=>f_E z.symm)] at he
      obtain⟨i,j,rfl,rfl⟩:=he
      rfl
     ·split at hw
      ·rename_i e
       cases hw
       rw[if_pos e] at he
       obtain⟨i,j,rfl,rfl⟩:=he
       rfl
      ·cases hw
    ·simp only[c_s,hw]
    ·simp only[c_s,hw]
  | both lo hi t0=>
    refine⟨_,rfl,a,_,_,_,rfl,rfl,SqT.of hd,a_e (j:=0) rfl,rfl,_,rfl,a_x (λq=>absurd q (by decide+kernel)) (λ_=> ?_)⟩
    refine⟨_,rfl,a,_,_,_,rfl,rfl,SqT.of hd,a_e (j:=0) rfl,rfl,_,rfl,a_x (λq=>absurd q (by decide+kernel)) (λ_=> ?_)⟩
    refine⟨_,rfl,a,_,_,_,rfl,rfl,SqT.of hd,a_e (j:=0) rfl,rfl,_,rfl,a_x (λ_=> ?_) (λq=>absurd (r_S rfl) q)⟩
    exact⟨_,rfl,_,rfl,a,_,_,_,rfl,rfl,SqT.of hd,a_e (j:=1) rfl,_,rfl,a,_,_,_,rfl,rfl,SqT.of hd,a_e (j:=2) rfl,_,rfl,a,_,_,_,rfl,rfl,SqT.of hd,a_e (j:=3) rfl,A,lo,hi,t0,room,l,st,ms,rfl,C,hn,by omega,λt H' ht s' hL=>tell ht s' hL rfl⟩
  | «from» x k m=>
    refine⟨_,rfl,a,_,_,_,rfl,rfl,SqT.of hd,a_e (j:=0) rfl,rfl,_,rfl,a_x (λq=>absurd q (by decide+kernel)) (λ_=> ?_)⟩
    refine⟨_,rfl,a,_,_,_,rfl,rfl,SqT.of hd,a_e (j:=0) rfl,rfl,_,rfl,a_x (λq=>absurd q (by decide+kernel)) (λ_=> ?_)⟩
    refine⟨_,rfl,a,_,_,_,rfl,rfl,SqT.of hd,a_e (j:=0) rfl,rfl,_,rfl,a_x (λq=>absurd q (by decide+kernel)) (λ_=> ?_)⟩
    refine⟨_,rfl,a,_,_,_,rfl,rfl,SqT.of hd,a_e (j:=0) rfl,rfl,_,rfl,a_x (λ_=> ?_) (λq=>absurd (r_S rfl) q)⟩
    refine⟨_,rfl,_,rfl,a,_,_,_,rfl,rfl,SqT.of hd,a_e (j:=1) rfl,_,rfl,a,_,_,_,rfl,rfl,SqT.of hd,a_e (j:=2) rfl,_,rfl,a,_,_,_,rfl,rfl,SqT.of hd,a_e (j:=3) rfl,A,x,k,m,room,l,st,ms,rfl,C,hn,by omega,λw hw t H' ht s' hL=>tell ht s' hL ?_, λhw=>⟨h_e hf.1 hw,k3 ?_⟩⟩
    ·simp only[c_s,hw,f_1]
    ·simp only[c_s,hw]
  | spot x n=>
    refine⟨_,rfl,a,_,_,_,rfl,rfl,SqT.of hd,a_e (j:=0) rfl,rfl,_,rfl,a_x (λq=>absurd q (by decide+kernel)) (λ_=> ?_)⟩
    refine⟨_,rfl,a,_,_,_,rfl,rfl,SqT.of hd,a_e (j:=0) rfl,rfl,_,rfl,a_x (λq=>absurd q (by decide+kernel)) (λ_=> ?_)⟩
    refine⟨_,rfl,a,_,_,_,rfl,rfl,SqT.of hd,a_e (j:=0) rfl,rfl,_,rfl,a_x (λq=>absurd q (by decide+kernel)) (λ_=> ?_)⟩
    refine⟨_,rfl,a,_,_,_,rfl,rfl,SqT.of hd,a_e (j:=0) rfl,rfl,_,rfl,a_x (λq=>absurd q (by decide+kernel)) (λ_=> ?_)⟩
    refine⟨_,rfl,_,rfl,a,_,_,_,rfl,rfl,SqT.of hd,a_e (j:=1) rfl,_,rfl,a,_,_,_,rfl,rfl,SqT.of hd,a_e (j:=2) rfl,A,x,n,room,l,st,ms,rfl,C,hn,by omega,htl,λw hw=>⟨λc=>k2 ?_, λρ hfi H' s'=>k1 _ H' s' ?_ λt xs e=>by cases e⟩,λhw=>⟨h_e hf hw,k3 ?_⟩⟩
    ·simp only[c_s,hw,b_I c]
    ·simp only[c_s,hw,hfi]
     exact .int _
    ·simp only[c_s,hw]
  | _=>exact has.elim
end
theorem o_O {X:Cx} (K:PySem.W.Frag) (hK:X.K=K:=by rfl):OpR X (compareOp .In) (rIn K false):=by subst hK;exact e_x
structure p_M (K:PySem.W.Frag) (mg:Str->Option Value):Prop where
 done:∃t,mg "DONE"=some (.str "done" t)
 qs:∃a,mg "QUESTIONS"=some (.ref a)/\∀H:Hp,SqT K H a [V.str "row",V.str "within",V.str "both",V.str "from",V.str "spot"]
 len:mg "len"=none
 range:mg "range"=none
theorem SAt.ob {CS CO:Addr} {H:Hp} {A:Ads} {N:Nat} {room:Int} {s:Sto} (S:SAt CS CO H A N room s):∃fl dx,H A.o=some (.ins CS dx fl)/\∀m:Str,¬ m="room"->¬ m="by_number"->¬ m="by_rank"->¬ m="by_text"->¬ m="steps"->¬ m="marks"->fl.lookup m=none:=by
 obtain⟨l,st,ms,C,_⟩:=S.ex
 exact⟨_,_,C.ob,λm a b c d e f=>d_o a b c d e f⟩
theorem SAt.fpin {CS CO:Addr} {H:Hp} {A:Ads} {N:Nat} {room:Int} {s:Sto} (S:SAt CS CO H A N room s):∀b∈A.fp,∃u,H b=some u/\∀xs,u≠ .tup xs:=λb hb=>by
 obtain⟨l,st,ms,C,_⟩:=S.ex
 simp only[Ads.fp,r_n] at hb
 rcases hb with e | e | e
 ·rw[e];exact⟨_,C.ob,λxs z=>by cases z⟩
 ·obtain⟨rs,q,_⟩:=C.nb;rw[e];exact⟨_,q,λxs z=>by cases z⟩
 ·obtain⟨xs,q⟩:=C.list b e;exact⟨_,q,λxs z=>by cases z⟩
theorem j_U {H H':Hp} (s:Same H H'):a_R H H':=λb xs q=>s _ _ q
section
variable {P:Program} {w:World} {K:PySem.W.Frag} {mg:Str->Option Value} {base:Heap}
def m_y (CS CO:Addr):Sp:=λvs H Q _=>∃(A:Ads) (a:Addr) (d:Deed) (N:Nat) (room sd:Int) (s:Sto),vs= [.ref A.o,.ref a]/\SAt CS CO H A N room s/\DeedAt H a d/\(d.plain\/d.asks)/\d.form/\d.tell sd/\N<=8000/\s.inML sd/\p_k CS CO H A (N+1) room Q (s.step room d)
theorem q_k:a_s ["store","deed"] ["store","deed"] (a_m p_X):=⟨rfl,rfl,rfl,by decide+kernel,rfl,by decide+kernel,by decide+kernel⟩
theorem n_2 {f fA fD CS CO CT CF CM CN CNo:Addr} {fd fdA fdD:FuncData} (F:Fun K "answer_of_one" "answer_of_one" p_X f fd) (TD:p_M K mg) (ex:o_m K mg CT CF CM CN) (eO:Exc K mg "NoOrder" CNo) (xm:o_8 K CT CM CF CN CNo)
 (gA:Gf K mg "answer_to_question" fA fdA ["store","deed"]) (GA:FnOk P w K mg base (CXR P w) 6 fA fdA ["store","deed"] (l_Z CS CO CNo CM)) (gD:Gf K mg "do_change" fD fdD ["store","deed"]) (GD:FnOk P w K mg base (CXR P w) 8 fD fdD ["store","deed"] (q_w CS CO CT CF CM CN)):
 FnOk P w K mg base CX0 9 f fd ["store","deed"] (m_y CS CO):=by
 refine F.ok q_k (λvs H Q E h=> ?_) (λcdv A outer s H vs Q E hr h=> ?_)
 ·obtain⟨A,a,d,N,room,sd,s,rfl,_⟩:=h
  rfl
 ·obtain⟨A,a,d,N,room,sd,so,rfl,S,hd,hpa,hf,htl,hN,hml,fin⟩:=h
  obtain⟨t0,hdone⟩:=TD.done
  obtain⟨aq,hq,hQ⟩:=TD.qs
  have hr6:Room 6 _:=hr.mono (by decide)
  refine⟨_,a_g (o_q (.cons rfl ex.t.at_ (by decide) (λe=>a_g (a_n a_l)) (.cons rfl ex.m.at_ (by decide) (λe=>a_g (a_n a_l)) (.cons rfl ex.f.at_ (by decide) (λe=>a_g (a_n a_l)) (.cons rfl ex.n.at_ (by decide) (λe=>a_g (a_n a_l)) (.cons rfl eO.at_ (by decide) (λe=>a_g (a_n a_l)) .nil)))))
   λpn xe E hx=>a_c (a_C (a_k (o_O K) (a_r (b_o K) (pv 1) a_f (λ_ _=>rfl)) (g_Q (v:= .ref aq) rfl hq rfl) (by with_unfolding_all rfl)) (a_g (a_n (a_j GA hr6 rfl gA.mg gA.kp gA.b .nil hx (a_a (pv 0) (a_a (pv 1) a_d))))) a_q)
    (a_c (a_z (a_j GD hr rfl gD.mg gD.kp gD.b .nil hx (a_a (pv 0) (a_a (pv 1) a_d)))) (a_g (a_n (d_C hdone))))),?_⟩
  have same0:∀H',Same H H'->∀(x:Str),(so.step room d).2= .str x->(so.step room d).1=so->Q (.str x) H':=λH' s' x e1 e2=>by
   refine fin (.str x) A H' ?_ rfl (Stp.of_same s') (j_U s') ?_ (NewA.str x)
   ·rw[e2];exact (S.same s').mono (Nat.le_succ _)
   ·rw[e1];exact .str x
  rcases hpa with hpl | has
  ·have hw:∃x r,H a=some (.tup (.str x::r))∧inV (.str x) [V.str "row",V.str "within",V.str "both",V.str "from",V.str "spot"]=false:=by
    cases d with
    | chg c=>
      cases c with
      | bring ρ=>obtain⟨r,h1,h2⟩:=id hd;exact⟨"bring",_,h1,by decide+kernel⟩
      | alter ρ=>obtain⟨r,h1,h2⟩:=id hd;exact⟨"alter",_,h1,by decide+kernel⟩
      | cut n=>exact⟨"cut",_,hd,by decide+kernel⟩
    | begin=>exact⟨"begin",_,hd,by decide+kernel⟩
    | keep=>exact⟨"keep",_,hd,by decide+kernel⟩
    | brk=>exact⟨"break",_,hd,by decide+kernel⟩
    | _=>exact hpl.elim
   obtain⟨x,r,hw,hin⟩:=hw
   refine⟨_,rfl,a,_,_,_,rfl,rfl,SqT.of hw,a_e (j:=0) rfl,aq,_,rfl,.inr (hQ H),rfl,by decide+kernel,_,rfl,?_⟩
   rw[if_neg r_t,hin]
   refine g_u ?_
   refine⟨_,rfl,_,rfl,A,a,d,N,room,sd,so,rfl,S,hd,hpl,htl,hN,λhw' A' H' S' e' F' tk=> ?_, ?_⟩
   ·refine fin (.str "done") A' H' S' e' F' tk ?_ (NewA.str _)
    rw[f_D hpl,hw']
    exact .str _
   ·have go:∀y:Str,c_p room so d=y->¬ y="done"->Q (.str y) H:=λy e hy=>same0 H (Same.refl H) y (by rw[f_D hpl,e]) (l_r hpl (by rw[e];exact hy))
    refine⟨λe=> ?_, λe=> ?_, λe=> ?_, λe=> ?_⟩
    ·exact .inl ⟨xm.tt,go _ e (by decide+kernel)⟩
    ·exact .inr ⟨xm.ft,.inr ⟨xm.fm,.inl ⟨xm.ff,go _ e (by decide+kernel)⟩⟩⟩
    ·exact .inr ⟨xm.mt,.inl ⟨xm.mm,go _ e (by decide+kernel)⟩⟩
    ·exact .inr ⟨xm.nt,.inr ⟨xm.nm,.inr ⟨xm.nf,.inl ⟨xm.nn,go _ e (by decide+kernel)⟩⟩⟩⟩
  ·have hw:∃x r,H a=some (.tup (.str x::r))∧inV (.str x) [V.str "row",V.str "within",V.str "both",V.str "from",V.str "spot"]=true:=by
    cases d with
    | row n=>exact⟨"row",_,hd,by decide+kernel⟩
    | within x lo hi=>exact⟨"within",_,hd,by decide+kernel⟩
    | both lo hi t=>exact⟨"both",_,hd,by decide+kernel⟩
    | «from» x k m=>exact⟨"from",_,hd,by decide+kernel⟩
    | spot x n=>exact⟨"spot",_,hd,by decide+kernel⟩
    | _=>exact has.elim
   obtain⟨x,r,hw,hin⟩:=hw
   rw[k_E has] at fin same0
   refine⟨_,rfl,a,_,_,_,rfl,rfl,SqT.of hw,a_e (j:=0) rfl,aq,_,rfl,.inr (hQ H),rfl,by decide+kernel,_,rfl,?_⟩
   rw[if_neg r_t,hin]
   refine k_w ?_
   refine⟨_,rfl,_,rfl,A,a,d,N,room,sd,so,rfl,S,hd,has,hf,htl,hN,d_f S.nums hml.kept,λv H' s' hA hnew=> ?_, λe=> ?_, λe H' s'=> ?_⟩
   ·exact fin v A H' ((S.same s').mono (Nat.le_succ _)) rfl (Stp.of_same s') (j_U s') hA hnew
   ·exact .inr ⟨xm.mt,.inl ⟨xm.mm,same0 H (Same.refl H) _ e rfl⟩⟩
   ·exact .inr ⟨xm.ot,.inr ⟨xm.om,.inr ⟨xm.of,.inr ⟨xm.on,.inl ⟨xm.oo,same0 H' s' _ e rfl⟩⟩⟩⟩⟩
def l_7 (CS CO:Addr):Sp:=λvs H Q _=>∃(A:Ads) (la:Addr) (as:List Addr) (cs:List Chg) (N:Nat) (room sd:Int) (s:Sto),vs= [.ref A.o,.ref la]/\SAt CS CO H A N room s/\H la=some (.lst (as.map V.ref))/\Paired (ChgAt H) as cs/\la∉A.fp/\(∀c∈cs,c.tell sd)/\N+cs.length<=7000/\s.inML sd/\
 p_k CS CO H A (N+cs.length+1) room Q (s.step room (.all cs))
theorem i_Q:a_s ["store","changes","place","answer"] ["store","changes"] (a_m p_o):=⟨rfl,rfl,rfl,by decide+kernel,rfl,by decide+kernel,by decide+kernel⟩
theorem m_j {f fO fBe fKe fBk CS CO CN:Addr} {fd fdO fdBe fdKe fdBk:FuncData} (F:Fun K "all_or_none" "all_or_none" p_o f fd) (TS:e_L K mg CS CO) (TD:p_M K mg) (gO:Gf K mg "answer_of_one" fO fdO ["store","deed"]) (GO:FnOk P w K mg base CX0 9 fO fdO ["store","deed"] (m_y CS CO))
 (mBe:Mf K CS "begin" fBe fdBe ["self"]) (GBe:FnOk P w K mg base CX0 1 fBe fdBe ["self"] (g_7 CS CO)) (mKe:Mf K CS "keep" fKe fdKe ["self"]) (GKe:FnOk P w K mg base (CXR P w) 2 fKe fdKe ["self"] (j_Z CS CO CN)) (mBk:Mf K CS "break_off" fBk fdBk ["self"]) (GBk:FnOk P w K mg base (CXR P w) 6 fBk fdBk ["self"] (g_x CS CO CN)):
 FnOk P w K mg base CX0 10 f fd ["store","changes"] (l_7 CS CO):=by
 refine F.ok i_Q (λvs H Q E h=> ?_) (λcdv A outer s H vs Q E hr h=> ?_)
 ·obtain⟨A,la,as,cs,N,room,sd,s,rfl,_⟩:=h
  rfl
 ·obtain⟨A,la,as,cs,N,room,sd,so,rfl,S,hla,hC,hnf,htl,hN,hml,fin⟩:=h
  obtain⟨t0,hdone⟩:=TD.done
  have hr6:Room 6 _:=hr.mono (by decide)
  have hr2:Room 2 _:=hr.mono (by decide)
  have hr1:Room 1 _:=hr.mono (by decide)
  refine⟨_,a_c (a_z (b_w (pv 0) TS.cl mBe.m GBe hr1 mBe.b .nil a_u))
   (a_c (c_g PassesOwn.never rfl (b_L rfl TD.range (a_a (a_y a_v (by rfl) TD.len r_V (a_a (pv 1) a_d)) a_d)) (b_d (i:=2) i_Q.nd rfl (Or.inl rfl))
     (a_c (a_w (i:=3) i_Q.nd rfl (Or.inl rfl) (a_j GO hr rfl gO.mg gO.kp gO.b .nil a_u (a_a (pv 0) (a_a (a_r a_M (pv 1) (pv 2) (λ_ _=>rfl)) a_d))))
     (a_g (a_C (a_k d_D (pv 3) (d_C hdone) (a_o _)) (a_c (a_z (b_w (pv 0) TS.cl mBk.m GBk hr6 mBk.b .nil l_T)) (a_g (a_n (a_J (a_a (pv 2) (a_a (pv 3) a_d)))))) a_q))))
   (a_c (a_z (b_w (pv 0) TS.cl mKe.m GKe hr2 mKe.b .nil l_T)) (a_g (a_n (d_C hdone))))),?_⟩
  obtain⟨fl,dx,hob,hno⟩:=S.ob
  refine⟨_,rfl,A.o,dx,_,rfl,hob,hno _ (by decide+kernel) (by decide+kernel) (by decide+kernel) (by decide+kernel) (by decide+kernel) (by decide+kernel),A,N,room,so,rfl,S,by omega,λA0 H0 S0 e0 F0 tk0=> ?_⟩
  have hal:=Paired.length hC
  have hla':∀{A1:Ads} {H1:Hp},Stp H H1 A.fp A1.fp->H1 la=some (.lst (as.map V.ref)):=λF1=>F1.keep _ _ hla hnf
  have hn:((((as.map V.ref).length:Nat):Int)).toNat=cs.length:=by rw[r_c];omega
  refine⟨_,rfl,la,_,rfl,.inl (SqL.of (hla' F0)),_,rfl,by omega,by rw[r_c];omega,b_X (lo:=0) (n:=((((as.map V.ref).length:Nat):Int)).toNat) (λi σ H1=>∃(A1:Ads) (l1:List Row) (v2 v3:Option V),σ= [some (.ref A.o),some (.ref la),v2,v3]/\SAt CS CO H1 A1 (N+1+i) room ⟨l1,so.kept::so.marks⟩/\A1.o=A.o/\Stp H H1 A.fp A1.fp/\a_R H H1/\c_i room so.kept i l1 (cs.drop i)=c_i room so.kept 0 so.kept cs/\∀x∈l1,x.n∈ML sd)
   ⟨A0,so.kept,none,none,rfl,S0,e0,F0,tk0,rfl,hml.kept⟩ ?_ ?_⟩
  ·rintro i σ H1 hi ⟨A1,l1,v2,v3,rfl,S1,e1,F1,tk1,hA,hm1⟩
   rw[hn] at hi
   obtain⟨c,hc⟩:∃c,cs[i]? =some c:=⟨_,r_d hi⟩
   obtain⟨a,ea,hca⟩:=a_T hC hc
   have ga:(as.map V.ref)[i]? =some (V.ref a):=by rw[r_o,ea];rfl
   have gi:atI (as.map V.ref) (0+(i:Int))=some (V.ref a):=by rw[Int.zero_add];exact a_e ga
   have hct:=htl c (r_C hc)
   refine⟨_,rfl,_,rfl,_,rfl,la,_,_,_,rfl,rfl,SqL.of (hla' F1),gi,A1,a,.chg c,N+1+i,room,sd,⟨l1,so.kept::so.marks⟩,by rw[e1];rfl,S1,hca.mono tk1,.inl trivial,trivial,hct,by omega,⟨hm1,λk hk=> ?_⟩,λv A2 H2 S2 e2 F2 tk2 hAn hnew=> ?_⟩
   ·rcases r_n.mp hk with e | e
    ·rw[e];exact hml.kept
    ·exact hml.marks k e
   have ed:cs.drop i=c::cs.drop (i+1):=by
    rw[List.drop_eq_getElem_cons hi,(r_q.mp hc).2]
   rw[ed] at hA
   have ev:v= .str (b_f room l1 c).2:=by cases hAn;rfl
   subst ev
   have F02:=F1.trans F2
   have tk02:a_R H H2:=λb xs e=>tk2 _ _ (tk1 _ _ e)
   refine⟨_,rfl,rfl,_,rfl,a_x (λq=> ?_) (λq=> ?_)⟩
   ·have hq:¬ (b_f room l1 c).2="done":=λe=>by rw[e] at q;exact absurd q (by decide+kernel)
    obtain⟨fl2,dx2,hob2,hno2⟩:=S2.ob
    have e12:A2.o=A.o:=e2.trans e1
    rw[e12] at hob2
    refine⟨_,rfl,A.o,dx2,_,rfl,hob2,hno2 _ (by decide+kernel) (by decide+kernel) (by decide+kernel) (by decide+kernel) (by decide+kernel) (by decide+kernel),A2,N+1+i+1,room,_,by rw[e12];rfl,S2,by omega,λz=>(by cases z),λk r ek A3 H3 S3 e3 F3 tk3=> ?_⟩
    cases ek
    refine⟨_,rfl,_,rfl,by show 2<=sizeLine;decide,λt ht=> ?_⟩
    have s4:=Same.upd_new (o:= .tup [V.int (0+(i:Int)),V.str (b_f room l1 c).2]) ht
    have eA:so.step room (.all cs)=(so,D.tup [.int (i:Int),.str (b_f room l1 c).2]):=by
     show (({ so with kept:=(c_i room so.kept 0 so.kept cs).1 }:Sto),(c_i room so.kept 0 so.kept cs).2)=_
     rw[<-hA]
     simp only[c_i,if_neg hq]
    rw[eA] at fin
    refine fin (.ref t) A3 _ ((S3.same s4).mono (by omega)) (e3.trans e12) ((F02.trans F3).trans (Stp.of_same s4)) (λb xs e=>s4 _ _ (tk3 _ _ (tk02 _ _ e))) (.pair (by rw[Int.zero_add];exact a_b)) (NewA.tup a_b)
   ·have hq:(b_f room l1 c).2="done":=by
     cases e:decide ((b_f room l1 c).2=("done":Str)) with
     | true=>exact r_U e
     | false=>
       exfalso
       apply q
       have:¬ V.str (b_f room l1 c).2=V.str "done":=λz=>(of_decide_eq_false e) (by injection z)
       rw[r_T this];rfl
    refine⟨A2,(b_f room l1 c).1,_,_,rfl,S2,e2.trans e1,F02,tk02,?_, h_b hct hm1⟩
    rw[<-hA]
    simp only[c_i,if_pos hq]
  ·rintro σ H1 ⟨A1,l1,v2,v3,rfl,S1,e1,F1,tk1,hA,hm1⟩
   rw[hn,List.drop_of_length_le (r_l _)] at hA
   rw[hn] at S1
   obtain⟨fl1,dx1,hob1,hno1⟩:=S1.ob
   rw[e1] at hob1
   refine⟨_,rfl,A.o,dx1,_,rfl,hob1,hno1 _ (by decide+kernel) (by decide+kernel) (by decide+kernel) (by decide+kernel) (by decide+kernel) (by decide+kernel),A1,_,room,_,by rw[e1];rfl,S1,λz=>(by cases z),λk r ek A3 H3 S3 e3 F3 tk3=> ?_⟩
   cases ek
   have eA:so.step room (.all cs)=(⟨l1,so.marks⟩,D.str "done"):=by
    show (({ so with kept:=(c_i room so.kept 0 so.kept cs).1 }:Sto),(c_i room so.kept 0 so.kept cs).2)=_
    rw[<-hA]
    rfl
   rw[eA] at fin
   exact fin (.str "done") A3 H3 (S3.mono (by omega)) (e3.trans e1) (F1.trans F3) (λb xs e=>tk3 _ _ (tk1 _ _ e)) (.str _) (NewA.str _)
end
end K1
namespace TO
open PySem L2
def Deed.wsz:Deed->Nat
 | .all cs=>cs.length
 | _=>0
def tot (ds:List Deed):Nat:=(ds.map λd=>d.wsz+1).sum
theorem h_S (ds:List Deed) (d:Deed):tot (ds++ [d])=tot ds+(d.wsz+1):=by simp[tot]
theorem k_9 (ds:List Deed) (i:Nat):tot (ds.take i)<=tot ds:=by
 have e:tot ds=tot (ds.take i)+tot (ds.drop i):=by
  unfold tot
  rw[<-List.sum_append,<-r_k,r_P]
 omega
theorem d_e (room:Int):∀(ds:List Deed) (s:Sto) (d:Deed),s.run room (ds++ [d])=(((s.run room ds).1.step room d).1,(s.run room ds).2++ [((s.run room ds).1.step room d).2])
 | [],s,d=>rfl
 | e::r,s,d=>by
   show (((s.step room e).1.run room (r++ [d])).1,(s.step room e).2::((s.step room e).1.run room (r++ [d])).2)=_
   rw[d_e room r]
   rfl
theorem f_O {room sd:Int}:∀{ds:List Deed} {s:Sto},(∀d∈ds,d.tell sd)->s.inML sd->(s.run room ds).1.inML sd
 | [],s,_,h=>h
 | d::r,s,hd,h=>f_O (ds:=r) (λe he=>hd e (r_f _ he)) (m_M (hd d (r_g ..)) h)
end TO
namespace K1
open PySem L2 TO
theorem SAt.mvd {CS CO:Addr} {H H':Hp} {A:Ads} {N:Nat} {room:Int} {s:Sto} (h:SAt CS CO H A N room s) {f:List Addr} (m:Mvd H H' f) (hf:∀b∈f,b∉A.fp):SAt CS CO H' A N room s:=by
 obtain⟨l,st,ms,a,r⟩:=h.ex
 exact⟨l,st,ms,a.mvd m hf,r⟩
theorem k_d {H:Hp} {a:Addr} {d:Deed} (h:DeedAt H a d) {la:Addr} (e:H a=some (.tup [.str "all",.ref la])):∃cs as,d= .all cs/\H la=some (.lst (as.map V.ref))/\Paired (ChgAt H) as cs:=by
 have aux:∀{x:Str} {r:List V},H a=some (.tup (.str x::r))->¬ x="all"->False:=λe1 hx=>by
  rw[e1] at e
  injection e with e
  injection e with e
  injection e with e _
  injection e with e
  exact hx e
 cases d with
 | chg c=>
   exfalso
   cases c with
   | bring ρ=>obtain⟨r,h1,_⟩:=h;exact aux h1 (by decide+kernel)
   | alter ρ=>obtain⟨r,h1,_⟩:=h;exact aux h1 (by decide+kernel)
   | cut n=>exact aux h (by decide+kernel)
 | all cs=>
   obtain⟨l,as,h1,h2,h3⟩:=h
   rw[h1] at e
   injection e with e
   injection e with e
   injection e with _ e
   injection e with e _
   injection e with e
   subst e
   exact⟨cs,as,rfl,h2,h3⟩
 | begin=>exact (aux h (by decide+kernel)).elim
 | keep=>exact (aux h (by decide+kernel)).elim
 | brk=>exact (aux h (by decide+kernel)).elim
 | row n=>exact (aux h (by decide+kernel)).elim
 | within x lo hi=>exact (aux h (by decide+kernel)).elim
 | both lo hi t=>exact (aux h (by decide+kernel)).elim
 | «from» x k m=>exact (aux h (by decide+kernel)).elim
 | spot x n=>exact (aux h (by decide+kernel)).elim
section
variable {P:Program} {w:World} {K:PySem.W.Frag} {mg:Str->Option Value} {base:Heap}
def q_v (CS CO:Addr):Sp:=λvs H Q _=>∃(A:Ads) (a:Addr) (d:Deed) (N:Nat) (room sd:Int) (s:Sto),vs= [.ref A.o,.ref a]/\SAt CS CO H A N room s/\DeedAt H a d/\(∀la,H a=some (.tup [.str "all",.ref la])->la∉A.fp)/\d.form/\d.tell sd/\N+d.wsz<=7000/\s.inML sd/\p_k CS CO H A (N+(d.wsz+1)) room Q (s.step room d)
theorem q_P:a_s ["store","deed"] ["store","deed"] (a_m j_R):=⟨rfl,rfl,rfl,by decide+kernel,rfl,by decide+kernel,by decide+kernel⟩
theorem q_g {f fA fO CS CO:Addr} {fd fdA fdO:FuncData} (F:Fun K "answer_of" "answer_of" j_R f fd) (gA:Gf K mg "all_or_none" fA fdA ["store","changes"]) (GA:FnOk P w K mg base CX0 10 fA fdA ["store","changes"] (l_7 CS CO))
 (gO:Gf K mg "answer_of_one" fO fdO ["store","deed"]) (GO:FnOk P w K mg base CX0 9 fO fdO ["store","deed"] (m_y CS CO)):FnOk P w K mg base CX0 11 f fd ["store","deed"] (q_v CS CO):=by
 refine F.ok q_P (λvs H Q E h=> ?_) (λcdv A outer s H vs Q E hr h=> ?_)
 ·obtain⟨A,a,d,N,room,sd,s,rfl,_⟩:=h
  rfl
 ·obtain⟨A,a,d,N,room,sd,so,rfl,S,hd,hla,hf,htl,hN,hml,fin⟩:=h
  have hr9:Room 9 _:=hr.mono (by decide)
  refine⟨_,a_c (a_C (a_k a_H (a_r a_p (pv 1) a_f (λ_ _=>rfl)) a_l (a_o _)) (a_g (a_n (a_j GA hr rfl gA.mg gA.kp gA.b .nil a_u (a_a (pv 0) (a_a (a_r a_p (pv 1) a_f (λ_ _=>rfl)) a_d))))) a_q)
   (a_g (a_n (a_j GO hr9 rfl gO.mg gO.kp gO.b .nil a_u (a_a (pv 0) (a_a (pv 1) a_d))))),?_⟩
  have hh:(∃cs,d= .all cs)\/∃(x:Str) (r:List V),H a=some (.tup (.str x::r))/\¬ x="all"/\(d.plain\/d.asks)/\d.wsz=0:=by
   cases d with
   | all cs=>exact .inl ⟨cs,rfl⟩
   | chg c=>
     cases c with
     | bring ρ=>obtain⟨r,h1,_⟩:=id hd;exact .inr ⟨_,_,h1,by decide+kernel,.inl trivial,rfl⟩
     | alter ρ=>obtain⟨r,h1,_⟩:=id hd;exact .inr ⟨_,_,h1,by decide+kernel,.inl trivial,rfl⟩
     | cut n=>exact .inr ⟨_,_,hd,by decide+kernel,.inl trivial,rfl⟩
   | begin=>exact .inr ⟨_,_,hd,by decide+kernel,.inl trivial,rfl⟩
   | keep=>exact .inr ⟨_,_,hd,by decide+kernel,.inl trivial,rfl⟩
   | brk=>exact .inr ⟨_,_,hd,by decide+kernel,.inl trivial,rfl⟩
   | row n=>exact .inr ⟨_,_,hd,by decide+kernel,.inr trivial,rfl⟩
   | within x lo hi=>exact .inr ⟨_,_,hd,by decide+kernel,.inr trivial,rfl⟩
   | both lo hi t=>exact .inr ⟨_,_,hd,by decide+kernel,.inr trivial,rfl⟩
   | «from» x k m=>exact .inr ⟨_,_,hd,by decide+kernel,.inr trivial,rfl⟩
   | spot x n=>exact .inr ⟨_,_,hd,by decide+kernel,.inr trivial,rfl⟩
  rcases hh with⟨cs,rfl⟩ | ⟨x,r,hx,hne,hpa,hw⟩
  ·obtain⟨la,as,h1,h2,h3⟩:=id hd
   refine⟨_,rfl,a,_,_,_,rfl,rfl,SqT.of h1,a_e (j:=0) rfl,rfl,_,rfl,a_x (λ_=> ?_) (λq=>absurd (r_S rfl) q)⟩
   exact⟨_,rfl,_,rfl,a,_,_,_,rfl,rfl,SqT.of h1,a_e (j:=1) rfl,A,la,as,cs,N,room,sd,so,rfl,S,h2,h3,hla la h1,htl,hN,hml,fin⟩
  ·refine⟨_,rfl,a,_,_,_,rfl,rfl,SqT.of hx,a_e (j:=0) rfl,rfl,_,rfl,a_x (λq=>absurd (r_U q) (λz=>hne (by injection z))) (λ_=> ?_)⟩
   refine⟨_,rfl,_,rfl,A,a,d,N,room,sd,so,rfl,S,hd,hpa,hf,htl,by omega,hml,?_⟩
   rw[hw] at fin
   exact fin
theorem Ans.more {H:Hp} {f:List Addr} {d:D} {v:V} {lf:Addr} (h:Ans H f d v) (hl:∀t xs,v= .ref t->H t=some (.lst xs)->t≠lf):Ans H (lf::f) d v:=by
 cases h with
 | str x=>exact .str x
 | int x=>exact .int x
 | row h=>exact .row h
 | pair h=>exact .pair h
 | rows h hn=>
   refine .rows h λhc=> ?_
   rcases r_n.mp hc with q | q
   ·obtain⟨as',hq,_⟩:=h
    exact hl _ _ rfl hq q
   ·exact hn q
theorem d_B {H:Hp} {f:List Addr}:∀{ds:List D} {vs:List V},Paired (Ans H f) ds vs->BearsL H ds vs
 | _,_,.nil=> .nil
 | _,_,.cons h t=> .cons h.bears (d_B t)
theorem g_v {H H':Hp} {f f':List Addr} (S:Stp H H' f f') (tk:a_R H H'):∀{ds:List D} {vs:List V},Paired (Ans H f) ds vs->Paired (Ans H' f') ds vs
 | _,_,.nil=> .nil
 | _,_,.cons h t=> .cons (h.mov S tk) (g_v S tk t)
def p_G (CS CO:Addr):Sp:=λvs H Q _=>∃(H0:Hp) (A:Ads) (ld:Addr) (as:List Addr) (ds:List Deed) (N:Nat) (room sd:Int) (s:Sto),vs= [.ref A.o,.ref ld]/\SAt CS CO H A N room s/\Same H0 H/\(∀b∈A.fp,H0 b=none)/\H0 ld=some (.lst (as.map V.ref))/\Paired (DeedAt H0) as ds/\
 (∀d∈ds,d.form/\d.tell sd)/\N+tot ds<=6000/\ds.length<=5000/\s.inML sd/\
 ∀(lf:Addr) (vs':List V) (A':Ads) (H':Hp),H0 lf=none->Same H0 H'->H' lf=some (.lst vs')->BearsL H' (s.run room ds).2 vs'->SAt CS CO H' A' (N+tot ds) room (s.run room ds).1->A'.o=A.o->(∀b∈A'.fp,H0 b=none)->lf∉A'.fp->Q (.ref lf) H'
theorem p_W:a_s ["store","deeds","found","deed"] ["store","deeds"] (a_m j_l):=⟨rfl,rfl,rfl,by decide+kernel,rfl,by decide+kernel,by decide+kernel⟩
theorem q_m {f fO CS CO:Addr} {fd fdO:FuncData} (F:Fun K "answers_in" "answers_in" j_l f fd) (gO:Gf K mg "answer_of" fO fdO ["store","deed"]) (GO:FnOk P w K mg base CX0 11 fO fdO ["store","deed"] (q_v CS CO)):FnOk P w K mg base CX0 12 f fd ["store","deeds"] (p_G CS CO):=by
 refine F.ok p_W (λvs H Q E h=> ?_) (λcdv A outer s H vs Q E hr h=> ?_)
 ·obtain⟨H0,A,ld,as,ds,N,room,sd,s,rfl,_⟩:=h
  rfl
 ·obtain⟨H0,A,ld,as,ds,N,room,sd,so,rfl,S,s0,hfp,hld,hD,hds,hN,hlen,hml,fin⟩:=h
  refine⟨_,a_c (a_w (i:=2) p_W.nd rfl (Or.inl rfl) (a_U a_d))
   (a_c (c_g PassesOwn.never rfl (b_e (pv 1)) (b_d (i:=3) p_W.nd rfl (Or.inl rfl)) (a_g (a_z (b_C r_W r_Y r_X a_Q (pv 2) (a_a (a_j GO hr rfl gO.mg gO.kp gO.b .nil a_u (a_a (pv 0) (a_a (pv 3) a_d))) a_d)))))
   (a_g (a_n (pv 2)))),?_⟩
  refine⟨by show 0<=sizeLine;decide,λlf hlf=> ?_⟩
  have s1:Same H (upd H lf (.lst [])):=Same.upd_new hlf
  have hal:=Paired.length hD
  have hlf0:H0 lf=none:=s0.free hlf
  have lfA:lf∉A.fp:=λhc=>by obtain⟨u,q,_⟩:=S.fpin lf hc;rw[hlf] at q;cases q
  refine⟨_,rfl,ld,rfl,⟨_,SqL.of (s1 _ _ (s0 _ _ hld))⟩,c_F (K:=K) (a:=ld) (xs:=as.map V.ref) (λi σ H1=>∃(A1:Ads) (vs:List V) (v3:Option V),σ= [some (.ref A.o),some (.ref ld),some (.ref lf),v3]/\SAt CS CO H1 A1 (N+tot (ds.take i)) room (so.run room (ds.take i)).1/\A1.o=A.o/\Same H0 H1/\(∀b∈A1.fp,H0 b=none)/\lf∉A1.fp/\H1 lf=some (.lst vs)/\vs.length=i/\Paired (Ans H1 (lf::A1.fp)) (so.run room (ds.take i)).2 vs)
   ⟨A, [],none,rfl,S.same s1,rfl,s0.trans s1,hfp,lfA,a_b,rfl,.nil⟩ (λi σ H1 _ ⟨_,_,_,_,_,_,s',_⟩=>SqL.of (s' _ _ hld)) ?_ ?_⟩
  ·rintro i v σ H1 hi ⟨A1,vs,v3,rfl,S1,e1,sm1,fp1,lf1,hl1,hvl,hA1⟩
   rw[r_o] at hi
   cases ea:as[i]? with
   | none=>rw[ea] at hi;cases hi
   | some a=>
     rw[ea] at hi
     obtain rfl:V.ref a=v:=r_j hi
     have hil:=(r_q.mp ea).1
     obtain⟨d,hd⟩:∃d,ds[i]? =some d:=⟨_,r_d (by omega)⟩
     obtain⟨a',e',hda⟩:=a_T hD hd
     rw[ea] at e'
     obtain rfl:a=a':=r_j e'
     obtain⟨hdf,hdt⟩:=hds d (r_C hd)
     have et:ds.take (i+1)=ds.take i++ [d]:=by rw[r_D,hd];rfl
     have htot:=k_9 ds (i+1)
     rw[et,h_S] at htot
     have hda1:DeedAt H1 a d:=DeedAt.same sm1 hda
     have ml1:(so.run room (ds.take i)).1.inML sd:=f_O (λe he=>(hds e (List.mem_of_mem_take he)).2) hml
     refine⟨_,rfl,.inl ⟨rfl,_,SqL.of hl1⟩,_,rfl,_,rfl,A1,a,d,N+tot (ds.take i),room,sd,_,by rw[e1];rfl,S1,hda1,λla hla hc=> ?_, hdf,hdt,by omega,ml1,λu A2 H2 S2 e2 F2 tk2 hAn hnew=> ?_⟩
     ·obtain⟨xs,hx⟩:=hda.head
      have hx1:=sm1 _ _ hx
      rw[hla] at hx1
      have hx0:H0 a=some (.tup [.str "all",.ref la]):=by rw[hx];exact hx1.symm
      obtain⟨cs,as',_,hl0,_⟩:=k_d hda hx0
      rw[fp1 la hc] at hl0;cases hl0
     ·have hl2:H2 lf=some (.lst vs):=F2.keep _ _ hl1 lf1
      have lf2:lf∉A2.fp:=λhc=>by
       rcases F2.new _ hc with q | q
       ·exact lf1 q
       ·rw[hl1] at q;cases q
      have sm2:Same H0 H2:=λb u hb=>F2.keep _ _ (sm1 _ _ hb) λhc=>by rw[fp1 b hc] at hb;cases hb
      have fp2:∀b∈A2.fp,H0 b=none:=λb hb=>by
       rcases F2.new b hb with q | q
       ·exact fp1 b q
       ·exact sm1.free q
      have F3:Stp H1 H2 (lf::A1.fp) (lf::A2.fp):=F2.wide (λb hb=>r_f _ hb) λb hb=>by
       rcases r_n.mp hb with q | q
       ·exact .inl (by rw[q];exact r_g ..)
       ·exact .inr q
      have tk4:a_R H2 (upd H2 lf (.lst (vs++ [u]))):=λb xs e=>by rw[a_i (λq=>by rw[q,hl2] at e;cases e)];exact e
      have F4:Stp H2 (upd H2 lf (.lst (vs++ [u]))) (lf::A2.fp) (lf::A2.fp):=⟨λb u' e hn=>by rw[a_i λq=>hn (by rw[q];exact r_g ..)];exact e,λb hb=> .inl hb⟩
      have hAn2:=hAn.more (lf:=lf) λt xs e1 e2 q=>by
       have:=hnew t xs e1 e2
       rw[q,hl1] at this;cases this
      refine⟨lf,_,_,rfl,rfl,hl2,by rw[hvl];exact r_R (m:=5000) (by omega) (by decide),A2,vs++ [u],_,rfl,?_, e2.trans e1,?_, fp2,lf2,a_b,by simp[hvl],?_⟩
      ·rw[et,d_e,h_S,<-Nat.add_assoc]
       exact S2.mvd (f:= [lf]) ⟨λb u' e hn=>by rw[a_i λq=>hn (by rw[q];exact r_h.mpr rfl)];exact e,λb hb u' e=>by rw[r_h.mp hb,hl2] at e;exact .inl ⟨_,(r_j e).symm⟩⟩ λb hb=>by rw[r_h.mp hb];exact lf2
      ·exact λb u' hb=>by rw[a_i (a_h hb hlf0)];exact sm2 _ _ hb
      ·rw[et,d_e]
       exact g_v F4 tk4 (a_F (g_v F3 tk2 hA1) (.cons hAn2 .nil))
  ·rintro σ H1 ⟨A1,vs,v3,rfl,S1,e1,sm1,fp1,lf1,hl1,hvl,hA1⟩
   rw[r_c,hal,r_w (r_l _)] at S1 hA1
   exact⟨_,rfl,fin lf vs A1 H1 hlf0 sm1 hl1 (d_B hA1) S1 e1 fp1 lf1⟩
def f_2:Sp:=λvs H Q _=>∃(room sd:Int) (ld:Addr) (as:List Addr) (ds:List Deed),vs= [.int room,.ref ld]/\H ld=some (.lst (as.map V.ref))/\Paired (DeedAt H) as ds/\(∀d∈ds,d.form/\d.tell sd)/\tot ds<=6000/\ds.length<=5000/\
 ∀(lf:Addr) (vs':List V) (H':Hp),H lf=none->Same H H'->H' lf=some (.lst vs')->BearsL H' ((⟨[], []⟩:Sto).run room ds).2 vs'->Q (.ref lf) H'
theorem j_8:a_s ["room","deeds"] ["room","deeds"] (a_m e_4):=⟨rfl,rfl,rfl,by decide+kernel,rfl,by decide+kernel,by decide+kernel⟩
theorem g_m {H H':Hp} {p dx C:Addr} (hp:H p=none) (hd:H dx=none) (kp:∀b u,(upd (upd H dx (.own p)) p (.ins C dx [])) b=some u->b≠p->H' b=some u):Same H H':=λb u hb=>
 kp b u (by rw[a_i (a_h hb hp),a_i (a_h hb hd)];exact hb) (a_h hb hp)
theorem f_5 {H:Hp} {p dx C b:Addr} (hp:H p=none) (hd:H dx=none) (h:b=p\/(upd (upd H dx (.own p)) p (.ins C dx [])) b=none):H b=none:=by
 rcases h with e | e
 ·rw[e];exact hp
 ·cases q:H b with
  | none=>rfl
  | some u=>rw[a_i (a_h q hp),a_i (a_h q hd),q] at e;cases e
theorem i_s {f fN fI CS CO:Addr} {fd fdN fdI:FuncData} (F:Fun K "answers" "answers" e_4 f fd) (TS:e_L K mg CS CO) (M:Mk K CS fI) (bI:Binds K fdI ["self","room"] []) (GI:FnOk P w K mg base CX0 4 fI fdI ["self","room"] (h_a CS CO))
 (gN:Gf K mg "answers_in" fN fdN ["store","deeds"]) (GN:FnOk P w K mg base CX0 12 fN fdN ["store","deeds"] (p_G CS CO)):FnOk P w K mg base CX0 13 f fd ["room","deeds"] f_2:=by
 refine F.ok j_8 (λvs H Q E h=> ?_) (λcdv A outer s H vs Q E hr h=> ?_)
 ·obtain⟨room,sd,ld,as,ds,rfl,_⟩:=h
  rfl
 ·obtain⟨room,sd,ld,as,ds,rfl,hld,hD,hds,hN,hlen,fin⟩:=h
  have hr5:Room 5 _:=hr.mono (by decide)
  refine⟨_,a_g (a_n (a_j GN hr rfl gN.mg gN.kp gN.b .nil a_u (a_a (e_7 M GI hr5 rfl TS.mgS bI .nil a_u (a_a (pv 0) a_d)) (a_a (pv 1) a_d)))),?_⟩
  refine⟨_,rfl,λp dx np nd ne=>⟨p,dx,room,rfl,a_b,λA' H1 S e hf kp=>⟨rfl,?_⟩⟩⟩
  have s1:=g_m np nd kp
  refine⟨_,rfl,H,A',ld,as,ds,0,room,sd,⟨[], []⟩,by rw[e];rfl,S,s1,λb hb=>f_5 np nd (hf b hb),hld,hD,hds,by omega,hlen,⟨λx hx=>(by cases hx),λk hk=>(by cases hk)⟩,λlf vs' A2 H2 h1 h2 h3 h4 _ _ _ _=>fin lf vs' H2 h1 h2 h3 h4⟩
def i_8:Sp:=λvs H Q _=>∃(room sd:Int) (ld:Addr) (as:List Addr) (ds:List Deed),vs= [.int room,.ref ld]/\H ld=some (.lst (as.map V.ref))/\Paired (DeedAt H) as ds/\(∀d∈ds,d.form/\d.tell sd)/\tot ds<=6000/\ds.length<=5000/\
 ∀(t r1 r2:Addr) (H':Hp),H t=none->H r1=none->H r2=none->Same H H'->H' t=some (.tup [.ref r1,.ref r2])->LstAt H' r1 (a_3 false ((⟨[], []⟩:Sto).run room ds).1.kept)->LstAt H' r2 (a_3 true ((⟨[], []⟩:Sto).run room ds).1.kept)->Q (.ref t) H'
theorem j_B:a_s ["room","deeds","store"] ["room","deeds"] (a_m j_Q):=⟨rfl,rfl,rfl,by decide+kernel,rfl,by decide+kernel,by decide+kernel⟩
theorem l_z {f fN fI fRo CS CO:Addr} {fd fdN fdI fdRo:FuncData} (F:Fun K "both_orders" "both_orders" j_Q f fd) (T:Txt K mg CO) (TS:e_L K mg CS CO) (M:Mk K CS fI) (bI:Binds K fdI ["self","room"] []) (GI:FnOk P w K mg base CX0 4 fI fdI ["self","room"] (h_a CS CO))
 (gN:Gf K mg "answers_in" fN fdN ["store","deeds"]) (GN:FnOk P w K mg base CX0 12 fN fdN ["store","deeds"] (p_G CS CO)) (mRo:Mf K CO "rows" fRo fdRo ["self"]) (GRo:FnOk P w K mg base CX0 1 fRo fdRo ["self"] (l_3 CO)):FnOk P w K mg base CX0 13 f fd ["room","deeds"] i_8:=by
 refine F.ok j_B (λvs H Q E h=> ?_) (λcdv A outer s H vs Q E hr h=> ?_)
 ·obtain⟨room,sd,ld,as,ds,rfl,_⟩:=h
  rfl
 ·obtain⟨room,sd,ld,as,ds,rfl,hld,hD,hds,hN,hlen,fin⟩:=h
  have hr5:Room 5 _:=hr.mono (by decide)
  have hr1:Room 1 _:=hr.mono (by decide)
  refine⟨_,a_c (a_w (i:=2) j_B.nd rfl (Or.inl rfl) (e_7 M GI hr5 rfl TS.mgS bI .nil a_u (a_a (pv 0) a_d)))
   (a_c (a_z (a_j GN hr rfl gN.mg gN.kp gN.b .nil a_u (a_a (pv 2) (a_a (pv 1) a_d))))
   (a_g (a_n (a_J (a_a (b_w (a_D (pv 2) rfl) T.cl mRo.m GRo hr1 mRo.b .nil a_u) (a_a (b_w (a_D (pv 2) rfl) T.cl mRo.m GRo hr1 mRo.b .nil a_u) a_d)))))),?_⟩
  refine⟨_,rfl,λp dx np nd ne=>⟨p,dx,room,rfl,a_b,λA' H1 S e hf kp=>⟨rfl,?_⟩⟩⟩
  have s1:=g_m np nd kp
  have ml0:(⟨[], []⟩:Sto).inML sd:=⟨λx hx=>(by cases hx),λk hk=>(by cases hk)⟩
  refine⟨_,rfl,_,rfl,H,A',ld,as,ds,0,room,sd,⟨[], []⟩,by rw[e];rfl,S,s1,λb hb=>f_5 np nd (hf b hb),hld,hD,hds,by omega,hlen,ml0,λlf vs' A2 H2 h1 h2 h3 h4 S2 eo _ _=> ?_⟩
  obtain⟨l,st,ms,C,hs,hp,_,_⟩:=S2.ex
  have hn:=hs.nums
  have hml:=f_O (room:=room) (λd hd=>(hds d hd).2) ml0
  have hl64:l.length < 64:=by rw[hp.length_eq];exact d_f (b_K hp hn) hml.kept
  obtain⟨bl1,bas1,B1,O1,G1,e1⟩:=StrC.ordW C hn false
  obtain⟨bl2,bas2,B2,O2,G2,e2⟩:=StrC.ordW C hn true
  obtain⟨dx1,ho1⟩:=O1.ob
  obtain⟨dx2,ho2⟩:=O2.ob
  have e0:A2.o=p:=eo.trans e
  have hob:=C.ob
  rw[e0] at hob
  refine⟨_,rfl,p,CS,A2.dx,_,_,rfl,hob,TS.cl,TS.nRank,f_s,A2.o1,dx1,_,rfl,ho1,a_X _ _ (by decide+kernel) (by decide+kernel),false,A2.o1,bl1,bas1,B1,rfl,O1,by rw[e1,a_8];omega,λr1 H3 hr1' s3 hL1=> ?_⟩
  refine⟨_,rfl,p,CS,A2.dx,_,_,rfl,s3 _ _ hob,TS.cl,TS.nText,e_b,A2.o2,dx2,_,rfl,s3 _ _ ho2,a_X _ _ (by decide+kernel) (by decide+kernel),true,A2.o2,bl2,bas2,B2,rfl,O2.same s3,by rw[e2,a_8];omega,λr2 H4 hr2' s4 hL2=>⟨by show 2<=sizeLine;decide,λt ht=> ?_⟩⟩
  have s5:=Same.upd_new (o:= .tup [V.ref r1,V.ref r2]) ht
  have s24:=s3.trans s4
  rw[e1,b_p hn hp] at hL1
  rw[e2,b_p hn hp] at hL2
  exact fin t r1 r2 _ (h2.free (s24.free ht)) (h2.free hr1') (h2.free (s3.free hr2')) ((h2.trans s24).trans s5) a_b (LstAt.sameS hL1 (s4.trans s5)) (LstAt.sameS hL2 s5)
def atF (ns:List Int) (k:Int):Int:=if ns= [] then 0 else ns.getD (k % (ns.length:Int)).toNat 0+3 * (k / (ns.length:Int))
def m_s (K:PySem.W.Frag):Sp:=λvs H Q _=>∃(a:Addr) (ns:List Int) (k:Int),vs= [.ref a,.int k]/\SqL K H a (ns.map V.int)/\ns.length<=1000/\0<=k/\k < 2 ^ 60/\∀H',Same H H'->Q (.int (atF ns k)) H'
theorem o_V {f:Addr} {fd:FuncData} (F:Fun K "_law_at" "_law_at" sAt f fd) (B:Bt mg):FnOk P w K mg base CX0 1 f fd ["_law_script","_law_k"] (m_s K):=by
 refine F.ok q_H (λvs H Q E h=> ?_) (λcdv A outer s H vs Q E hr h=> ?_)
 ·obtain⟨a,ns,k,rfl,_⟩:=h
  rfl
 ·obtain⟨a,ns,k,rfl,ha,hl,hk0,hk1,fin⟩:=h
  have hu:=hr.units0
  refine⟨_,(a_c (a_C (a_k (h_N hu) (pv 0) (a_U a_d) (a_o _)) (a_g (a_n a_f)) a_q)
   (a_g (a_n (a_t a_S (a_r a_M (pv 0) (a_t a_P (pv 1) (a_y a_v (by rfl) B.len r_V (a_a (pv 0) a_d))) (λ_ _=>rfl)) (a_t b_M a_f (a_t a_2 (pv 1) (a_y a_v (by rfl) B.len r_V (a_a (pv 0) a_d)))))))),?_⟩
  refine⟨_,rfl,by show 0<=sizeLine;decide,λn hn=> ?_⟩
  have s1:Same H (upd H n (.lst [])):=Same.upd_new hn
  refine⟨a,n,_,rfl,rfl,s1.seq ha,a_b,_,rfl,?_⟩
  cases ns with
  | nil=>exact fin _ s1
  | cons z r=>
    refine g_u ?_
    have hlen:((((z::r).map V.int).length:Nat):Int)=((z::r).length:Int):=by simp
    have hp:(0:Int) < ((((z::r).map V.int).length:Nat):Int):=by rw[hlen];simp
    have hz:((((z::r).map V.int).length:Nat):Int) < 1073741824:=by rw[hlen];omega
    have hv:atI ((z::r).map V.int) (k % ((((z::r).map V.int).length:Nat):Int))=some (.int ((z::r).getD (k % ((z::r).length:Int)).toNat 0)):=by
     have h1:=Int.emod_nonneg k (show ((((z::r).map V.int).length:Nat):Int)≠0 by omega)
     have h2:=Int.emod_lt_of_pos k hp
     obtain⟨j,hj⟩:∃j:Nat,k % ((((z::r).map V.int).length:Nat):Int)=(j:Int):=⟨(k % ((((z::r).map V.int).length:Nat):Int)).toNat,by omega⟩
     have hjl:j < (z::r).length:=by rw[hlen] at h2 hj;omega
     have hj2:(k % ((z::r).length:Int)).toNat=j:=by rw[<-hlen,hj];rfl
     rw[hj,hj2]
     exact a_e (by rw[r_o,r_v,r_d hjl];rfl)
    refine⟨_,rfl,_,rfl,_,rfl,a,_,rfl,.inl (s1.seq ha),_,_,rfl,rfl,hp,?_⟩
    refine⟨a,_,_,_,rfl,rfl,s1.seq ha,hv,?_⟩
    refine⟨_,rfl,_,rfl,a,_,rfl,.inl (s1.seq ha),_,_,rfl,rfl,⟨hp,hz⟩,_,_,rfl,rfl,.inl ⟨by decide,by decide⟩,_,_,rfl,rfl,?_⟩
    have:=fin _ s1
    unfold atF at this
    rw[if_neg (by simp)] at this
    rw[hlen]
    exact this
def n_4 (K:PySem.W.Frag):Sp:=λvs H Q _=>∃(a:Addr) (ns:List Int) (k:Int),vs= [.ref a,.int k]/\SqL K H a (ns.map V.int)/\ns.length<=1000/\0<=k/\k < 2 ^ 60/\∀i H',Same H H'->Q (.int i) H'
theorem o_D {f:Addr} {fd:FuncData} (G:FnOk P w K mg base CX0 1 f fd ["_law_script","_law_k"] (m_s K)):FnOk P w K mg base CX0 1 f fd ["_law_script","_law_k"] (n_4 K):=
 G.imp λvs H Q E ⟨a,ns,k,e,ha,hl,h0,h1,fin⟩=>⟨a,ns,k,e,ha,hl,h0,h1,λH' s=>fin _ H' s⟩
def e_X:Sp:=λvs H Q _=>∃(y n c:Int),vs= [.int y,.int n,.int c]/\-1<=n/\n<=25/\∀(a:Addr) (ch:Chg) (H':Hp),H a=none->Same H H'->ChgAt H' a ch->ch.short->Q (.ref a) H'
theorem i_v:a_s ["_law_way","_law_number","_law_cell"] ["_law_way","_law_number","_law_cell"] (a_m d_8):=⟨rfl,rfl,rfl,by decide+kernel,rfl,by decide+kernel,by decide+kernel⟩
theorem g_W {f fFar fDr:Addr} {fd fdFar fdDr:FuncData} (F:Fun K "_law_change_of" "_law_change_of" d_8 f fd) (gFar:Gf K mg "_law_far" fFar fdFar ["_law_number"]) (GFar:FnOk P w K mg base CX0 1 fFar fdFar ["_law_number"] i_L)
 (gDr:Gf K mg "_law_drawn_row" fDr fdDr ["_law_number","_law_cell"]) (GDr:FnOk P w K mg base CX0 2 fDr fdDr ["_law_number","_law_cell"] f_l):FnOk P w K mg base CX0 3 f fd ["_law_way","_law_number","_law_cell"] e_X:=by
 refine F.ok i_v (λvs H Q E h=> ?_) (λcdv A outer s H vs Q E hr h=> ?_)
 ·obtain⟨y,n,c,rfl,_⟩:=h
  rfl
 ·obtain⟨y,n,c,rfl,hb1,hb2,fin⟩:=h
  have hr1:Room 1 _:=hr.mono (by decide)
  have hr2:Room 2 _:=hr.mono (by decide)
  refine⟨_,(a_c (a_C (a_k e_E (a_t a_P (pv 0) a_f) a_f (a_o _)) (a_g (a_n (a_J (a_a a_l (a_a (a_j GDr hr2 rfl gDr.mg gDr.kp gDr.b .nil a_u (a_a (a_j GFar hr1 rfl gFar.mg gFar.kp gFar.b .nil a_u (a_a (pv 1) a_d)) (a_a (pv 2) a_d))) a_d))))) a_q)
   (a_c (a_C (a_k a_H (a_t a_P (pv 0) a_f) a_f (a_o _)) (a_g (a_n (a_J (a_a a_l (a_a (a_j GDr hr2 rfl gDr.mg gDr.kp gDr.b .nil a_u (a_a (a_j GFar hr1 rfl gFar.mg gFar.kp gFar.b .nil a_u (a_a (pv 1) a_d)) (a_a (pv 2) a_d))) a_d))))) a_q)
   (a_g (a_n (a_J (a_a a_l (a_a (a_j GFar hr1 rfl gFar.mg gFar.kp gFar.b .nil a_u (a_a (pv 1) a_d)) a_d))))))),?_⟩
  refine⟨_,rfl,_,_,rfl,rfl,(show (0:Int) < 5 by decide),_,_,rfl,rfl,_,rfl,?_⟩
  refine a_x (λ_=> ?_) (λ_=> ?_)
  ·refine⟨_,rfl,_,rfl,λH1 s1=>⟨_,rfl,_,_,rfl,λr ρ H2 hf s2 hr en ht=>⟨by show 2<=sizeLine;decide,λa ha=> ?_⟩⟩⟩
   exact fin a (.bring ρ) _ (s1.free (s2.free ha)) ((s1.trans s2).trans (Same.upd_new ha)) ⟨r,a_b,Same.upd_new ha _ _ hr⟩ ⟨ht,by rw[en];exact f_F hb1 hb2⟩
  refine⟨_,rfl,_,_,rfl,rfl,(show (0:Int) < 5 by decide),rfl,_,rfl,?_⟩
  refine a_x (λ_=> ?_) (λ_=> ?_)
  ·refine⟨_,rfl,_,rfl,λH1 s1=>⟨_,rfl,_,_,rfl,λr ρ H2 hf s2 hr en ht=>⟨by show 2<=sizeLine;decide,λa ha=> ?_⟩⟩⟩
   exact fin a (.alter ρ) _ (s1.free (s2.free ha)) ((s1.trans s2).trans (Same.upd_new ha)) ⟨r,a_b,Same.upd_new ha _ _ hr⟩ ⟨ht,by rw[en];exact f_F hb1 hb2⟩
  refine⟨_,rfl,_,rfl,λH1 s1=>⟨by show 2<=sizeLine;decide,λa ha=> ?_⟩⟩
  exact fin a (.cut (far n)) _ (s1.free ha) (s1.trans (Same.upd_new ha)) a_b (f_F hb1 hb2)
structure DNew (H H':Hp) (a:Addr) (d:Deed):Prop where
 new:H a=none
 same:Same H H'
 at_:DeedAt H' a d
 form:d.form
 short:d.short
 inn:∀l',H' a=some (.tup [.str "all",.ref l'])->H l'=none
theorem b_r {H':Hp} {H:Hp} {a:Addr} {x:Str} {r:List V} (e:H' a=some (.tup (.str x::r))) (hx:¬ x="all"):∀l',H' a=some (.tup [.str "all",.ref l'])->H l'=none:=λl' e'=>by
 rw[e] at e'
 injection e' with e'
 injection e' with e'
 injection e' with e1 _
 injection e1 with e1
 exact absurd e1 hx
def d_x:Sp:=λvs H Q _=>∃(y n c:Int),vs= [.int y,.int n,.int c]/\-1000<=n/\n<=1000/\∀(a:Addr) (d:Deed) (H':Hp),DNew H H' a d->d.asks->Q (.ref a) H'
theorem k_K (z:Int):∃x:Str,atI [V.str "rank",V.str "text",V.str "rank",V.str "text",V.str "ranks"] (z % 5)=some (.str x)/\c_u x:=by
 rcases (show z % 5=0\/z % 5=1\/z % 5=2\/z % 5=3\/z % 5=4 by omega) with e | e | e | e | e <;> rw[e]
 ·exact⟨_,a_e (j:=0) rfl,.inl rfl⟩
 ·exact⟨_,a_e (j:=1) rfl,.inr (.inl rfl)⟩
 ·exact⟨_,a_e (j:=2) rfl,.inl rfl⟩
 ·exact⟨_,a_e (j:=3) rfl,.inr (.inl rfl)⟩
 ·exact⟨_,a_e (j:=4) rfl,.inr (.inr rfl)⟩
theorem m_v (i j k z:Int):∃v:Int,atI [V.int i,V.int j,V.int k] (z % 3)=some (.int v):=by
 rcases (show z % 3=0\/z % 3=1\/z % 3=2 by omega) with e | e | e <;> rw[e]
 ·exact⟨_,a_e (j:=0) rfl⟩
 ·exact⟨_,a_e (j:=1) rfl⟩
 ·exact⟨_,a_e (j:=2) rfl⟩
theorem n_E (i j z:Int) (hi:0<=i) (hj:0<=j):∃v:Int,atI [V.int i,V.int j] (z % 3 / 2)=some (.int v)/\0<=v:=by
 rcases (show z % 3 / 2=0\/z % 3 / 2=1 by omega) with e | e <;> rw[e]
 ·exact⟨_,a_e (j:=0) rfl,hi⟩
 ·exact⟨_,a_e (j:=1) rfl,hj⟩
theorem c_o:a_s ["_law_way","_law_number","_law_cell","_law_word","_law_high"] ["_law_way","_law_number","_law_cell"] (a_m c_R):=⟨rfl,rfl,rfl,by decide+kernel,rfl,by decide+kernel,by decide+kernel⟩
theorem f_g {f fFar fTx:Addr} {fd fdFar fdTx:FuncData} (F:Fun K "_law_question_of" "_law_question_of" c_R f fd) (gFar:Gf K mg "_law_far" fFar fdFar ["_law_number"]) (GFar:FnOk P w K mg base CX0 1 fFar fdFar ["_law_number"] i_L)
 (gTx:Gf K mg "_law_texts" fTx fdTx []) (GTx:FnOk P w K mg base CX0 1 fTx fdTx [] g_M):FnOk P w K mg base CX0 2 f fd ["_law_way","_law_number","_law_cell"] d_x:=by
 refine F.ok c_o (λvs H Q E h=> ?_) (λcdv A outer s H vs Q E hr h=> ?_)
 ·obtain⟨y,n,c,rfl,_⟩:=h
  rfl
 ·obtain⟨y,n,c,rfl,hb1,hb2,fin⟩:=h
  have hr1:Room 1 _:=hr.mono (by decide)
  refine⟨_,(a_c (a_w (i:=3) c_o.nd rfl (Or.inl rfl) (a_r a_M (a_U (a_a a_l (a_a a_l (a_a a_l (a_a a_l (a_a a_l a_d)))))) (a_t a_P (a_t a_S (a_t a_2 (pv 2) a_f) (pv 0)) a_f) (λ_ _=>rfl)))
   (a_c (a_C (a_k a_H (pv 0) a_f (a_o _)) (a_g (a_n (a_J (a_a a_l (a_a (a_j GFar hr1 rfl gFar.mg gFar.kp gFar.b .nil a_u (a_a (pv 1) a_d)) a_d))))) a_q)
   (a_c (a_C (PW.pt (e_j (a_k a_H (pv 0) a_f (a_o _)) (c_Y (a_k a_H (pv 3) a_l (a_o _))))) (a_g (a_n (a_J (a_a a_l (a_a (pv 3) (a_a (a_r a_M (d_F GTx hr1 rfl gTx.mg gTx.kp gTx.b .nil a_u) (a_t a_P (pv 2) a_f) (λ_ _=>rfl)) (a_a (a_r a_M (d_F GTx hr1 rfl gTx.mg gTx.kp gTx.b .nil a_u) (a_t a_P (a_t a_2 (pv 2) a_f) a_f) (λ_ _=>rfl)) a_d))))))) a_q)
   (a_c (a_C (a_k a_H (pv 0) a_f (a_o _)) (a_g (a_n (a_J (a_a a_l (a_a (pv 3) (a_a (a_t b_R (a_t a_P (pv 2) a_f) a_f) (a_a (a_t a_S (a_t b_R (a_t a_P (pv 2) a_f) a_f) (a_t a_P (a_t a_2 (pv 2) a_f) a_f)) a_d))))))) a_q)
   (a_c (a_C (a_k a_H (pv 0) a_f (a_o _)) (a_c (a_w (i:=4) c_o.nd rfl (Or.inl rfl) (a_r a_M (a_U (a_a a_f (a_a a_f (a_a a_f a_d)))) (a_t a_P (pv 1) a_f) (λ_ _=>rfl)))
   (a_g (a_n (a_J (a_a a_l (a_a (a_t b_R (a_t a_P (pv 2) a_f) a_f) (a_a (pv 4) (a_a (a_r a_M (d_F GTx hr1 rfl gTx.mg gTx.kp gTx.b .nil a_u) (a_t a_P (a_t a_2 (pv 2) a_f) a_f) (λ_ _=>rfl)) a_d)))))))) a_q)
   (a_c (a_C (a_k a_H (pv 0) a_f (a_o _)) (a_g (a_n (a_J (a_a a_l (a_a (pv 3) (a_a (a_t b_R (pv 1) a_f) (a_a (a_r a_M (a_U (a_a (a_t a_P (pv 2) a_f) (a_a (a_t a_P (a_t a_2 (pv 2) a_f) a_f) a_d))) (a_t a_2 (a_t a_P (pv 2) a_f) a_f) (λ_ _=>rfl)) a_d))))))) a_q)
   (a_g (a_n (a_J (a_a a_l (a_a (pv 3) (a_a (a_j GFar hr1 rfl gFar.mg gFar.kp gFar.b .nil a_u (a_a (pv 1) a_d)) a_d)))))))))))),?_⟩
  obtain⟨x,hx,hwx⟩:=k_K (c / 16+y)
  refine⟨by show 5<=sizeLine;decide,λn1 hn1=> ?_⟩
  have s1:Same H (upd H n1 (.lst [V.str "rank",V.str "text",V.str "rank",V.str "text",V.str "ranks"])):=Same.upd_new hn1
  refine⟨_,rfl,_,_,rfl,rfl,⟨by decide,by decide⟩,_,rfl,_,_,rfl,rfl,_,_,rfl,rfl,(show (0:Int) < 5 by decide),n1,_,_,_,rfl,rfl,SqL.of a_b,hx,?_⟩
  refine⟨_,rfl,rfl,_,rfl,?_⟩
  refine a_x (λ_=> ?_) (λ_=> ?_)
  ·refine⟨_,rfl,_,rfl,λH2 s2=>⟨by show 2<=sizeLine;decide,λa ha=> ?_⟩⟩
   exact fin a (.row (far n)) _ ⟨s1.free (s2.free ha),(s1.trans s2).trans (Same.upd_new ha),a_b,trivial,l_Y hb1 hb2,b_r a_b (by decide+kernel)⟩ trivial
  refine⟨_,rfl,rfl,_,rfl,?_⟩
  by_cases hy:y=1
  ·have dy:decide (V.int y=V.int 1)=true:=by rw[hy];exact r_S rfl
   refine a_x (λ_=> ?_) (λq=>absurd dy q)
   refine⟨_,rfl,rfl,_,rfl,?_⟩
   refine a_x (λq=> ?_) (λq=> ?_)
   ·obtain⟨t1,h1,l1⟩:=h_Q c
    obtain⟨t2,h2,l2⟩:=h_Q (c / 3)
    refine⟨_,rfl,rfl,λla H2 hla s2 hL2=>⟨_,rfl,_,_,rfl,rfl,(show (0:Int) < 6 by decide),la,_,_,_,rfl,rfl,SqL.of hL2,h1,rfl,λlb H3 hlb s3 hL3=>⟨_,rfl,_,_,rfl,rfl,⟨by decide,by decide⟩,_,_,rfl,rfl,(show (0:Int) < 6 by decide),lb,_,_,_,rfl,rfl,SqL.of hL3,h2,by show 4<=sizeLine;decide,λa ha=> ?_⟩⟩⟩
    have hxt:x="text":=by have:=r_U q;injection this
    refine fin a (.within x (.str t1) (.str t2)) _ ⟨s1.free (s2.free (s3.free ha)),((s1.trans s2).trans s3).trans (Same.upd_new ha),a_b,?_, ⟨λs e=>by cases e;exact l1,λs e=>by cases e;exact l2⟩,b_r a_b (by decide+kernel)⟩ trivial
    show b_D x _ _/\c_u x
    rw[b_D,if_pos hxt]
    exact⟨⟨_,_,rfl,rfl⟩,hwx⟩
   ·have hxt:¬ x="text":=λe=>q (by rw[e];exact r_S rfl)
    refine⟨_,rfl,rfl,_,rfl,?_⟩
    refine a_x (λ_=> ?_) (λq=>absurd dy q)
    refine⟨_,rfl,_,rfl,_,_,rfl,rfl,(show (0:Int) < 9 by decide),_,_,rfl,rfl,_,rfl,_,_,rfl,rfl,(show (0:Int) < 9 by decide),_,_,rfl,rfl,_,rfl,_,_,rfl,rfl,⟨by decide,by decide⟩,_,_,rfl,rfl,(show (0:Int) < 7 by decide),_,_,rfl,rfl,by show 4<=sizeLine;decide,λa ha=> ?_⟩
    refine fin a (.within x (.int (c % 9 - 4)) (.int (c % 9 - 5+c / 9 % 7))) _ ⟨s1.free ha,s1.trans (Same.upd_new ha),a_b,?_, ⟨λs e=>(by cases e),λs e=>(by cases e)⟩,b_r a_b (by decide+kernel)⟩ trivial
    show b_D x _ _/\c_u x
    rw[b_D,if_neg hxt]
    exact⟨⟨_,_,rfl,rfl⟩,hwx⟩
  ·have dy:¬ decide (V.int y=V.int 1)=true:=λq=>hy (by have:=r_U q;injection this)
   refine a_x (λq=>absurd q dy) (λ_=>g_u ?_)
   refine⟨_,rfl,rfl,_,rfl,?_⟩
   refine a_x (λq=>absurd q dy) (λ_=> ?_)
   refine⟨_,rfl,rfl,_,rfl,?_⟩
   refine a_x (λ_=> ?_) (λ_=> ?_)
   ·obtain⟨v,hv⟩:=m_v 1 5 1000000000000 n
    obtain⟨t,ht,lt⟩:=h_Q (c / 9)
    refine⟨by show 3<=sizeLine;decide,λn2 hn2=> ?_⟩
    have s2:=Same.upd_new (o:= .lst [V.int 1,V.int 5,V.int 1000000000000]) hn2
    refine⟨_,rfl,_,_,rfl,rfl,(show (0:Int) < 3 by decide),n2,_,_,_,rfl,rfl,SqL.of a_b,hv,?_⟩
    refine⟨_,rfl,_,_,rfl,rfl,(show (0:Int) < 9 by decide),_,_,rfl,rfl,_,rfl,rfl,λla H3 hla s3 hL3=>⟨_,rfl,_,_,rfl,rfl,⟨by decide,by decide⟩,_,_,rfl,rfl,(show (0:Int) < 6 by decide),la,_,_,_,rfl,rfl,SqL.of hL3,ht,by show 4<=sizeLine;decide,λa ha=> ?_⟩⟩
    exact fin a (.both (c % 9 - 4) v t) _ ⟨s1.free (s2.free (s3.free ha)),((s1.trans s2).trans s3).trans (Same.upd_new ha),a_b,trivial,lt,b_r a_b (by decide+kernel)⟩ trivial
   refine⟨_,rfl,rfl,_,rfl,?_⟩
   refine a_x (λ_=> ?_) (λ_=> ?_)
   ·obtain⟨v,hv,hv0⟩:=n_E (c % 7) (c / 9 % 40) c (by omega) (by omega)
    refine⟨_,rfl,_,rfl,_,_,rfl,rfl,_,rfl,_,_,rfl,rfl,(show (0:Int) < 7 by decide),_,rfl,_,_,rfl,rfl,⟨by decide,by decide⟩,_,_,rfl,rfl,(show (0:Int) < 40 by decide),by show 2<=sizeLine;decide,λn2 hn2=> ?_⟩
    have s2:=Same.upd_new (o:= .lst [V.int (c % 7),V.int (c / 9 % 40)]) hn2
    refine⟨_,rfl,_,_,rfl,rfl,(show (0:Int) < 3 by decide),_,_,rfl,rfl,⟨by decide,by decide⟩,n2,_,_,_,rfl,rfl,SqL.of a_b,hv,by show 4<=sizeLine;decide,λa ha=> ?_⟩
    exact fin a (.from x (n - 2) v) _ ⟨s1.free (s2.free ha),(s1.trans s2).trans (Same.upd_new ha),a_b,⟨hwx,hv0⟩,trivial,b_r a_b (by decide+kernel)⟩ trivial
   ·refine⟨_,rfl,_,rfl,_,rfl,λH2 s2=>⟨by show 3<=sizeLine;decide,λa ha=> ?_⟩⟩
    exact fin a (.spot x (far n)) _ ⟨s1.free (s2.free ha),(s1.trans s2).trans (Same.upd_new ha),a_b,hwx,l_Y hb1 hb2,b_r a_b (by decide+kernel)⟩ trivial
end
theorem i_V {ns:List Int} {j:Nat} (h:j < ns.length) {z:Int} (e:z=(j:Int)):atI (ns.map V.int) z=some (.int (ns.getD j 0)):=by
 rw[e]
 refine a_e ?_
 rw[r_o,r_v,r_d h]
 rfl
def LD (H:Hp) (l:Addr) (ds:List Deed):Prop:=∃as:List Addr,H l=some (.lst (as.map V.ref))/\Paired (DeedBy l H) as ds
def Oks (n:Nat) (ds:List Deed):Prop:=ds.length<=n/\∀d∈ds,d.form/\d.short
theorem LD.grow {H:Hp} {l a:Addr} {as:List Addr} {ds:List Deed} {d:Deed} (h1:H l=some (.lst (as.map V.ref))) (h2:Paired (DeedBy l H) as ds) (hd:DeedBy l H a d):LD (upd H l (.lst (as.map V.ref++ [V.ref a]))) l (ds++ [d]):=
 ⟨as++ [a],by rw[r_k];exact a_b,j_z h1 (a_F h2 (.cons hd .nil))⟩
theorem Oks.snoc {n:Nat} {ds:List Deed} {d:Deed} (h:Oks n ds) (hd:d.form/\d.short):Oks (n+1) (ds++ [d]):=⟨by have:=h.1;simp;omega,λx hx=>by
 rcases r_u.mp hx with q | q
 ·exact h.2 x q
 ·rw[r_h.mp q];exact hd⟩
theorem DNew.by {H H':Hp} {a l:Addr} {d:Deed} {u:HO} (h:DNew H H' a d) (hl:H l=some u):DeedBy l H' a d:=⟨h.at_,λl' e q=>by rw[<-q,h.inn l' e] at hl;cases hl⟩
theorem ChgAt.noAll {H:Hp} {a:Addr} {c:Chg} (h:ChgAt H a c):∀l',¬ H a=some (.tup [.str "all",.ref l']):=λl' e=>by
 have aux:∀{x:Str} {r:List V},H a=some (.tup (.str x::r))->¬ x="all"->False:=λe1 hx=>by
  rw[e1] at e
  injection e with e
  injection e with e
  injection e with e _
  injection e with e
  exact hx e
 cases c with
 | bring ρ=>obtain⟨r,h1,_⟩:=h;exact aux h1 (by decide+kernel)
 | alter ρ=>obtain⟨r,h1,_⟩:=h;exact aux h1 (by decide+kernel)
 | cut n=>exact aux h (by decide+kernel)
theorem DNew.of_chg {H H':Hp} {a:Addr} {c:Chg} (h0:H a=none) (s:Same H H') (h:ChgAt H' a c) (hs:c.short):DNew H H' a (.chg c):=⟨h0,s,h,trivial,hs,λl' e=>absurd e (ChgAt.noAll h l')⟩
theorem l_u {z:Int} (h:11<=z) (h2:z < 15):∃(x:Str) (d:Deed),atI [V.str "begin",V.str "keep",V.str "break",V.str "begin"] (z - 11)=some (.str x)/\¬ x="all"/\(∀H a,H a=some (.tup [.str x])->DeedAt H a d)/\d.form/\d.short:=by
 rcases (show z - 11=0\/z - 11=1\/z - 11=2\/z - 11=3 by omega) with e | e | e | e <;> rw[e]
 ·exact⟨"begin",.begin,a_e (j:=0) rfl,by decide+kernel,λH a h=>h,trivial,trivial⟩
 ·exact⟨"keep",.keep,a_e (j:=1) rfl,by decide+kernel,λH a h=>h,trivial,trivial⟩
 ·exact⟨"break",.brk,a_e (j:=2) rfl,by decide+kernel,λH a h=>h,trivial,trivial⟩
 ·exact⟨"begin",.begin,a_e (j:=3) rfl,by decide+kernel,λH a h=>h,trivial,trivial⟩
section
variable {P:Program} {w:World} {K:PySem.W.Frag} {mg:Str->Option Value} {base:Heap}
def e_Z (K:PySem.W.Frag):Sp:=λvs H Q _=>∃(a:Addr) (ns:List Int),vs= [.ref a]/\SqL K H a (ns.map V.int)/\ns.length<=1000/\∀(l:Addr) (ds:List Deed) (H':Hp),H l=none->Same H H'->LD H' l ds->Oks 26 ds->Q (.ref l) H'
theorem b_3:a_s ["_law_script","_law_deeds","_law_k","_law_number","_law_row"] ["_law_script"] (a_m d_5):=⟨rfl,rfl,rfl,by decide+kernel,rfl,by decide+kernel,by decide+kernel⟩
theorem h_h {f fAt fFar fDr:Addr} {fd fdAt fdFar fdDr:FuncData} (F:Fun K "_law_brings_of" "_law_brings_of" d_5 f fd) (B:Bt mg) (gAt:Gf K mg "_law_at" fAt fdAt ["_law_script","_law_k"]) (GAt:FnOk P w K mg base CX0 1 fAt fdAt ["_law_script","_law_k"] (n_4 K))
 (gFar:Gf K mg "_law_far" fFar fdFar ["_law_number"]) (GFar:FnOk P w K mg base CX0 1 fFar fdFar ["_law_number"] i_L)
 (gDr:Gf K mg "_law_drawn_row" fDr fdDr ["_law_number","_law_cell"]) (GDr:FnOk P w K mg base CX0 2 fDr fdDr ["_law_number","_law_cell"] f_l):FnOk P w K mg base CX0 3 f fd ["_law_script"] (e_Z K):=by
 refine F.ok b_3 (λvs H Q E h=> ?_) (λcdv A outer s H vs Q E hr h=> ?_)
 ·obtain⟨a,ns,rfl,_⟩:=h
  rfl
 ·obtain⟨a,ns,rfl,hS,hlen,fin⟩:=h
  have hr1:Room 1 _:=hr.mono (by decide)
  have hr2:Room 2 _:=hr.mono (by decide)
  refine⟨_,(a_c (a_w (i:=1) b_3.nd rfl (Or.inl rfl) (a_U a_d))
   (a_c (c_g PassesOwn.never rfl (b_L rfl B.range (a_a (a_t a_P (a_j GAt hr1 rfl gAt.mg gAt.kp gAt.b .nil a_u (a_a (pv 0) (a_a a_f a_d))) a_f) a_d)) (b_d (i:=2) b_3.nd rfl (Or.inl rfl))
   (a_c (a_w (i:=3) b_3.nd rfl (Or.inl rfl) (a_t a_P (a_t a_S (a_t b_M a_f (pv 2)) (a_j GAt hr1 rfl gAt.mg gAt.kp gAt.b .nil a_u (a_a (pv 0) (a_a a_f a_d)))) a_f))
   (a_c (a_w (i:=4) b_3.nd rfl (Or.inl rfl) (a_j GDr hr2 rfl gDr.mg gDr.kp gDr.b .nil a_u (a_a (a_j GFar hr1 rfl gFar.mg gFar.kp gFar.b .nil a_u (a_a (pv 3) a_d)) (a_a (a_t a_S (a_t b_M a_f (pv 2)) (a_j GAt hr1 rfl gAt.mg gAt.kp gAt.b .nil a_u (a_a (pv 0) (a_a a_f a_d)))) a_d))))
   (a_g (a_z (b_C r_W r_Y r_X a_Q (pv 1) (a_a (a_J (a_a a_l (a_a (pv 4) a_d))) a_d)))))))
   (a_g (a_n (pv 1))))),?_⟩
  refine⟨by show 0<=sizeLine;decide,λl hl=> ?_⟩
  have s1:Same H (upd H l (.lst [])):=Same.upd_new hl
  refine⟨_,rfl,a,ns,1,rfl,s1.seq hS,hlen,by decide,by decide,λz H2 s2=> ?_⟩
  have e1:=Int.emod_nonneg z (show (27:Int)≠0 by decide)
  have e2:=Int.emod_lt_of_pos z (show (0:Int) < 27 by decide)
  have s02:=s1.trans s2
  refine⟨_,_,rfl,rfl,(show (0:Int) < 27 by decide),_,rfl,by omega,by omega,b_X (lo:=0) (n:=(z % 27).toNat) (λi σ Hx=>∃(ds:List Deed) (v2 v3 v4:Option V),σ= [some (.ref a),some (.ref l),v2,v3,v4]/\Same H Hx/\LD Hx l ds/\Oks i ds) ⟨[],none,none,none,rfl,s02,⟨[],s2 _ _ a_b,.nil⟩,by simp[Oks]⟩ ?_ ?_⟩
  ·rintro i σ Hx hi ⟨ds,v2,v3,v4,rfl,sx,⟨as,hla,hP⟩,ho⟩
   have hi26:i < 27:=by omega
   refine⟨_,rfl,_,_,rfl,rfl,.inl ⟨by decide,by decide⟩,_,rfl,a,ns,2,rfl,sx.seq hS,hlen,by decide,by decide,λz2 H3 s3=> ?_⟩
   refine⟨_,_,rfl,rfl,_,_,rfl,rfl,(show (0:Int) < 26 by decide),?_⟩
   refine⟨_,rfl,_,rfl,λH4 s4=> ?_⟩
   have s34:=s3.trans s4
   refine⟨_,rfl,_,_,rfl,rfl,.inl ⟨by decide,by decide⟩,_,rfl,a,ns,3,rfl,(sx.trans s34).seq hS,hlen,by decide,by decide,λz3 H5 s5=> ?_⟩
   refine⟨_,_,rfl,rfl,_,_,rfl,λr ρ H6 hf6 s6 hρ en ht=> ?_⟩
   have s36:=(s34.trans s5).trans s6
   have hl6:=s36 _ _ hla
   refine⟨_,rfl,.inl ⟨rfl,_,SqL.of hl6⟩,_,rfl,by show 2<=sizeLine;decide,λt ht'=> ?_⟩
   have s7:=Same.upd_new (o:= .tup [.str "bring",.ref r]) ht'
   have hl7:=s7 _ _ hl6
   have hlt:(as.map V.ref).length < sizeLine:=by
    have:=Paired.length hP
    have h1:=ho.1
    rw[r_c]
    exact a_G (by omega)
   have hb:ChgAt (upd H6 t (.tup [.str "bring",.ref r])) t (.bring ρ):=⟨r,a_b,s7 _ _ hρ⟩
   have hsm:ρ.t.length<=2/\ρ.n∈BL:=⟨ht,by rw[en];exact f_F (by omega) (by omega)⟩
   have hD:DNew H6 (upd H6 t (.tup [.str "bring",.ref r])) t (.chg (.bring ρ)):= .of_chg ht' s7 hb hsm
   refine⟨l,_,_,rfl,rfl,hl7,hlt,ds++ [.chg (.bring ρ)],_,_,_,rfl,?_, LD.grow hl7 (d_4 (s36.trans s7) hP) (hD.by hl6),ho.snoc (d:= .chg (.bring ρ)) ⟨trivial,hsm⟩⟩
   exact (Mov.upd hl7).same ((sx.trans s36).trans s7) λb hb=>by rw[r_h.mp hb];exact hl
  ·rintro σ Hx ⟨ds,v2,v3,v4,rfl,sx,hL,ho⟩
   exact⟨_,rfl,fin l ds Hx hl sx hL ⟨by have:=ho.1;omega,ho.2⟩⟩
def g_l (K:PySem.W.Frag):Sp:=λvs H Q _=>∃(a:Addr) (ns:List Int),vs= [.ref a]/\SqL K H a (ns.map V.int)/\ns.length<=63/\∀(l:Addr) (ds:List Deed) (H':Hp),H l=none->Same H H'->LD H' l ds->Oks 32 ds->Q (.ref l) H'
theorem b_i:a_s ["_law_cells","_law_deeds","_law_k","_law_way","_law_number","_law_cell","_law_words","_law_some","_law_j","_law_other"] ["_law_cells"] (a_m f_o):=⟨rfl,rfl,rfl,by decide+kernel,rfl,by decide+kernel,by decide+kernel⟩
theorem h_3 {f fCh fQu:Addr} {fd fdCh fdQu:FuncData} (F:Fun K "_law_deeds_of" "_law_deeds_of" f_o f fd) (B:Bt mg) (gCh:Gf K mg "_law_change_of" fCh fdCh ["_law_way","_law_number","_law_cell"]) (GCh:FnOk P w K mg base CX0 3 fCh fdCh ["_law_way","_law_number","_law_cell"] e_X)
 (gQu:Gf K mg "_law_question_of" fQu fdQu ["_law_way","_law_number","_law_cell"]) (GQu:FnOk P w K mg base CX0 2 fQu fdQu ["_law_way","_law_number","_law_cell"] d_x):FnOk P w K mg base CX0 4 f fd ["_law_cells"] (g_l K):=by
 refine F.ok b_i (λvs H Q E h=> ?_) (λcdv A outer s H vs Q E hr h=> ?_)
 ·obtain⟨a,ns,rfl,_⟩:=h
  rfl
 ·obtain⟨a,ns,rfl,hS,hlen,fin⟩:=h
  have hr3:Room 3 _:=hr.mono (by decide)
  have hr2:Room 2 _:=hr.mono (by decide)
  refine⟨_,(a_c (a_w (i:=1) b_i.nd rfl (Or.inl rfl) (a_U a_d))
   (a_c (c_g PassesOwn.never rfl (b_L rfl B.range (a_a (a_t a_2 (a_y a_v (by rfl) B.len r_V (a_a (pv 0) a_d)) a_f) a_d)) (b_d (i:=2) b_i.nd rfl (Or.inl rfl))
   (a_c (a_w (i:=3) b_i.nd rfl (Or.inl rfl) (a_t a_P (a_t a_S (a_r a_M (pv 0) (a_t b_M a_f (pv 2)) (λ_ _=>rfl)) (a_t b_M a_f (pv 2))) a_f))
   (a_c (a_w (i:=4) b_i.nd rfl (Or.inl rfl) (a_t b_R (a_t a_P (a_t a_S (a_t a_2 (a_r a_M (pv 0) (a_t b_M a_f (pv 2)) (λ_ _=>rfl)) a_f) (a_t b_M a_f (pv 2))) a_f) a_f))
   (a_c (a_w (i:=5) b_i.nd rfl (Or.inl rfl) (a_r a_M (pv 0) (a_t a_S (a_t b_M a_f (pv 2)) a_f) (λ_ _=>rfl)))
   (a_g (a_C (a_k e_E (pv 3) a_f (a_o _)) (a_g (a_z (b_C r_W r_Y r_X a_Q (pv 1) (a_a (a_j GCh hr3 rfl gCh.mg gCh.kp gCh.b .nil a_u (a_a (pv 3) (a_a (pv 4) (a_a (pv 5) a_d)))) a_d)))) (a_g (a_C (a_k e_E (pv 3) a_f (a_o _)) (a_g (a_z (b_C r_W r_Y r_X a_Q (pv 1) (a_a (a_j GQu hr2 rfl gQu.mg gQu.kp gQu.b .nil a_u (a_a (a_t b_R (pv 3) a_f) (a_a (pv 4) (a_a (pv 5) a_d)))) a_d)))) (a_g (a_C (a_k e_E (pv 3) a_f (a_o _)) (a_c (a_w (i:=6) b_i.nd rfl (Or.inl rfl) (a_U (a_a a_l (a_a a_l (a_a a_l (a_a a_l a_d))))))
   (a_g (a_z (b_C r_W r_Y r_X a_Q (pv 1) (a_a (a_J (a_a (a_r a_M (pv 6) (a_t b_R (pv 3) a_f) (λ_ _=>rfl)) a_d)) a_d))))) (a_c (a_w (i:=7) b_i.nd rfl (Or.inl rfl) (a_U a_d))
   (a_c (c_g PassesOwn.never rfl (b_L rfl B.range (a_a a_f a_d)) (b_d (i:=8) b_i.nd rfl (Or.inl rfl))
   (a_c (a_w (i:=9) b_i.nd rfl (Or.inl rfl) (a_t a_P (a_t a_S (pv 4) (a_t b_M a_f (pv 8))) a_f))
   (a_g (a_z (b_C r_W r_Y r_X a_Q (pv 7) (a_a (a_j GCh hr3 rfl gCh.mg gCh.kp gCh.b .nil a_u (a_a (a_t a_S (pv 5) (pv 8)) (a_a (pv 9) (a_a (a_t a_S (pv 5) (a_t b_M a_f (pv 8))) a_d)))) a_d))))))
   (a_g (a_z (b_C r_W r_Y r_X a_Q (pv 1) (a_a (a_J (a_a a_l (a_a (pv 7) a_d))) a_d))))))))))))))))
   (a_g (a_n (pv 1))))),?_⟩
  refine⟨by show 0<=sizeLine;decide,λl hl=> ?_⟩
  have s1:Same H (upd H l (.lst [])):=Same.upd_new hl
  have hn0:(((ns.map V.int).length:Nat):Int) / 2 < 32:=by rw[r_c];omega
  have hn1:0<=(((ns.map V.int).length:Nat):Int) / 2:=by rw[r_c];omega
  refine⟨_,rfl,a,_,rfl,.inl (s1.seq hS),_,_,rfl,rfl,⟨by decide,by decide⟩,_,rfl,by omega,by omega,b_X (lo:=0) (n:=((((ns.map V.int).length:Nat):Int) / 2).toNat) (λi σ Hx=>∃(ds:List Deed) (v2 v3 v4 v5 v6 v7 v8 v9:Option V),σ= [some (.ref a),some (.ref l),v2,v3,v4,v5,v6,v7,v8,v9]/\Same H Hx/\LD Hx l ds/\Oks i ds) ⟨[],none,none,none,none,none,none,none,none,rfl,s1,⟨[],a_b,.nil⟩,by simp[Oks]⟩ ?_ ?_⟩
  ·rintro i σ Hx hi ⟨ds,v2,v3,v4,v5,v6,v7,v8,v9,rfl,sx,⟨as,hla,hP⟩,ho⟩
   have hi2:2 * i+1 < ns.length:=by rw[r_c] at hi;omega
   have hi26:i < 32:=by omega
   have hal:=Paired.length hP
   have ho1:=ho.1
   have hlt:(as.map V.ref).length < sizeLine:=by
    rw[r_c]
    exact a_G (by omega)
   have a1:atI (ns.map V.int) (2 * (0+(i:Int)))=some (.int (ns.getD (2 * i) 0)):=i_V (j:=2 * i) (by omega) (by omega)
   have a2:atI (ns.map V.int) (2 * (0+(i:Int))+1)=some (.int (ns.getD (2 * i+1) 0)):=i_V (j:=2 * i+1) (by omega) (by omega)
   refine⟨_,rfl,_,rfl,_,_,rfl,rfl,.inl ⟨by decide,by decide⟩,a,_,_,_,rfl,rfl,sx.seq hS,a1,_,rfl,_,_,rfl,rfl,.inl ⟨by decide,by decide⟩,_,_,rfl,rfl,_,_,rfl,rfl,(show (0:Int) < 16 by decide),?_⟩
   refine⟨_,rfl,_,rfl,_,_,rfl,rfl,.inl ⟨by decide,by decide⟩,a,_,_,_,rfl,rfl,sx.seq hS,a1,_,_,rfl,rfl,⟨by decide,by decide⟩,_,rfl,_,_,rfl,rfl,.inl ⟨by decide,by decide⟩,_,_,rfl,rfl,_,_,rfl,rfl,(show (0:Int) < 27 by decide),_,_,rfl,rfl,?_⟩
   refine⟨_,rfl,_,rfl,_,_,rfl,rfl,.inl ⟨by decide,by decide⟩,_,_,rfl,rfl,a,_,_,_,rfl,rfl,sx.seq hS,a2,?_⟩
   dsimp only
   generalize hway:(ns.getD (2 * i) 0+3 * (0+(i:Int))) % 16=way
   generalize hnum:(ns.getD (2 * i) 0 / 16+5 * (0+(i:Int))) % 27 - 1=number
   generalize hcel:ns.getD (2 * i+1) 0=cell
   have hnb: -1<=number/\number<=25:=by omega
   have done:∀(t:Addr) (d:Deed) (H2:Hp),DNew Hx H2 t d->Same H (upd H2 l (.lst (as.map V.ref++ [V.ref t])))/\LD (upd H2 l (.lst (as.map V.ref++ [V.ref t]))) l (ds++ [d])/\Oks (i+1) (ds++ [d]):=λt d H2 N=>
    ⟨(Mov.upd (N.same _ _ hla)).same (sx.trans N.same) λb hb=>by rw[r_h.mp hb];exact hl,LD.grow (N.same _ _ hla) (d_4 N.same hP) (N.by hla),ho.snoc ⟨N.form,N.short⟩⟩
   refine⟨_,rfl,_,_,rfl,rfl,_,rfl,?_⟩
   refine a_x (λ_=> ?_) (λ_=> ?_)
   ·refine⟨_,rfl,.inl ⟨rfl,_,SqL.of hla⟩,_,rfl,_,rfl,_,rfl,_,_,_,rfl,by omega,by omega,λt ch H2 h0 s2 hc hs=> ?_⟩
    have N:=DNew.of_chg h0 s2 hc hs
    obtain⟨d1,d2,d3⟩:=done t _ H2 N
    exact⟨l,_,_,rfl,rfl,s2 _ _ hla,hlt,_,_,_,_,_,_,_,_,_,rfl,d1,d2,d3⟩
   refine⟨_,rfl,_,_,rfl,rfl,_,rfl,?_⟩
   refine a_x (λ_=> ?_) (λc11=> ?_)
   ·refine⟨_,rfl,.inl ⟨rfl,_,SqL.of hla⟩,_,rfl,_,_,rfl,rfl,_,rfl,_,rfl,_,_,_,rfl,by omega,by omega,λt d H2 N _=> ?_⟩
    obtain⟨d1,d2,d3⟩:=done t _ H2 N
    exact⟨l,_,_,rfl,rfl,N.same _ _ hla,hlt,_,_,_,_,_,_,_,_,_,rfl,d1,d2,d3⟩
   refine⟨_,rfl,_,_,rfl,rfl,_,rfl,?_⟩
   refine a_x (λc15=> ?_) (λ_=> ?_)
   ·have h11:11≤way:=by
     have:¬ way < 11:=λq=>c11 (r_S q)
     omega
    obtain⟨x,d,hx,hxa,hd,hdf,hds⟩:=l_u h11 (r_U c15)
    refine⟨by show 4<=sizeLine;decide,λn1 hn1=> ?_⟩
    have s2:=Same.upd_new (o:= .lst [V.str "begin",V.str "keep",V.str "break",V.str "begin"]) hn1
    have hl2:=s2 _ _ hla
    refine⟨_,rfl,.inl ⟨rfl,_,SqL.of hl2⟩,_,rfl,_,rfl,_,_,rfl,rfl,n1,_,_,_,rfl,rfl,SqL.of a_b,hx,by show 1<=sizeLine;decide,λt ht=> ?_⟩
    have s3:=Same.upd_new (o:= .tup [.str x]) ht
    have N:DNew Hx _ t d:=⟨s2.free ht,s2.trans s3,hd _ _ a_b,hdf,hds,b_r a_b hxa⟩
    obtain⟨d1,d2,d3⟩:=done t _ _ N
    exact⟨l,_,_,rfl,rfl,s3 _ _ hl2,hlt,_,_,_,_,_,_,_,_,_,rfl,d1,d2,d3⟩
   refine⟨by show 0<=sizeLine;decide,λsm hsm=> ?_⟩
   have s2:=Same.upd_new (o:= .lst []) hsm
   refine⟨3,rfl,by decide,by decide,b_X (lo:=0) (n:=3) (λj σ Hy=>∃(cs:List Chg) (bs:List Addr) (v6 v8 v9:Option V),σ= [some (.ref a),some (.ref l),some (.int (0+(i:Int))),some (.int way),some (.int number),some (.int cell),v6,some (.ref sm),v8,v9]/\Same Hx Hy/\Hy sm=some (.lst (bs.map V.ref))/\Paired (ChgAt Hy) bs cs/\cs.length<=j/\∀c∈cs,c.short)
    ⟨[], [],_,_,_,rfl,s2,a_b,.nil,by simp,by simp⟩ ?_ ?_⟩
   ·rintro j σ Hy hj ⟨cs,bs,w6,w8,w9,rfl,sy,hsy,hC,hcl,hcs⟩
    have hbl:=Paired.length hC
    have hbz:(bs.map V.ref).length < sizeLine:=by rw[r_c];exact a_G (by omega)
    refine⟨_,rfl,_,rfl,_,_,rfl,rfl,.inl ⟨by decide,by decide⟩,_,_,rfl,rfl,_,_,rfl,rfl,(show (0:Int) < 26 by decide),?_⟩
    refine⟨_,rfl,.inl ⟨rfl,_,SqL.of hsy⟩,_,rfl,_,rfl,_,_,rfl,rfl,_,rfl,_,rfl,_,rfl,_,_,rfl,rfl,.inl ⟨by decide,by decide⟩,_,_,rfl,rfl,_,_,_,rfl,by omega,by omega,λt ch H2 h0 s3 hc hs=> ?_⟩
    have hs3:=s3 _ _ hsy
    refine⟨sm,_,_,rfl,rfl,hs3,hbz,cs++ [ch],bs++ [t],_,_,_,rfl,(Mov.upd hs3).same (sy.trans s3) λb hb=>(by rw[r_h.mp hb];exact hsm),by rw[r_k];exact a_b,?_, by simp;omega,λc hc'=> ?_⟩
    ·exact a_E (NoTup.keep (NoTup.lst hs3)) (a_F (a_E (λb xs q=>s3 _ _ q) hC) (.cons hc .nil))
    ·rcases r_u.mp hc' with q | q
     ·exact hcs c q
     ·rw[r_h.mp q];exact hs
   ·rintro σ Hy ⟨cs,bs,w6,w8,w9,rfl,sy,hsy,hC,hcl,hcs⟩
    have hly:=sy _ _ hla
    refine⟨_,rfl,.inl ⟨rfl,_,SqL.of hly⟩,_,rfl,by show 2<=sizeLine;decide,λt ht=> ?_⟩
    have s3:=Same.upd_new (o:= .tup [.str "all",.ref sm]) ht
    have N:DNew Hx (upd Hy t (.tup [.str "all",.ref sm])) t (.all cs):=⟨sy.free ht,sy.trans s3,⟨sm,bs,a_b,s3 _ _ hsy,a_E (λb xs q=>s3 _ _ q) hC⟩,(show cs.length<=24 by omega),hcs,λl' e=>by
     rw[a_b] at e
     injection e with e
     injection e with e
     injection e with _ e
     injection e with e _
     injection e with e
     rw[<-e];exact hsm⟩
    obtain⟨d1,d2,d3⟩:=done t _ _ N
    exact⟨l,_,_,rfl,rfl,s3 _ _ hly,hlt,_,_,_,_,_,_,_,_,_,rfl,d1,d2,d3⟩
  ·rintro σ Hx ⟨ds,v2,v3,v4,v5,v6,v7,v8,v9,rfl,sx,hL,ho⟩
   exact⟨_,rfl,fin l ds Hx hl sx hL ⟨by have:=ho.1;omega,ho.2⟩⟩
end
def Deed.word:Deed->Str
 | .chg (.bring _)=>"bring"
 | .chg (.alter _)=>"alter"
 | .chg (.cut _)=>"cut"
 | .all _=>"all"
 | .begin=>"begin"
 | .keep=>"keep"
 | .brk=>"break"
 | .row _=>"row"
 | .within .. =>"within"
 | .both .. =>"both"
 | .from .. =>"from"
 | .spot .. =>"spot"
theorem DeedAt.word {H:Hp} {a:Addr} {d:Deed} (h:DeedAt H a d):∃r,H a=some (.tup (.str (Deed.word d)::r)):=by
 cases d with
 | chg c=>cases c with
   | bring ρ=>obtain⟨r,h1,_⟩:=h;exact⟨_,h1⟩
   | alter ρ=>obtain⟨r,h1,_⟩:=h;exact⟨_,h1⟩
   | cut n=>exact⟨_,h⟩
 | all cs=>obtain⟨l,as,h1,_⟩:=h;exact⟨_,h1⟩
 | _=>exact⟨_,h⟩
theorem k_4 {d:Deed} (h:Deed.word d="all"):∃cs,d= .all cs:=by
 cases d with
 | all cs=>exact⟨cs,rfl⟩
 | chg c=>cases c <;> exact absurd h (by dsimp only[Deed.word];decide+kernel)
 | _=>exact absurd h (by dsimp only[Deed.word];decide+kernel)
section
variable {P:Program} {w:World} {K:PySem.W.Frag} {mg:Str->Option Value} {base:Heap}
def h_k:Sp:=λvs H Q _=>∃c,vs= [.int c]/\∀i H',Same H H'->Q (.int i) H'
theorem m_6 (a b c d e f z:Int):∃v:Int,atI [V.int a,V.int b,V.int c,V.int d,V.int e,V.int f] (z % 6)=some (.int v):=by
 rcases (show z % 6=0\/z % 6=1\/z % 6=2\/z % 6=3\/z % 6=4\/z % 6=5 by omega) with e | e | e | e | e | e <;> rw[e]
 ·exact⟨_,a_e (j:=0) rfl⟩
 ·exact⟨_,a_e (j:=1) rfl⟩
 ·exact⟨_,a_e (j:=2) rfl⟩
 ·exact⟨_,a_e (j:=3) rfl⟩
 ·exact⟨_,a_e (j:=4) rfl⟩
 ·exact⟨_,a_e (j:=5) rfl⟩
theorem l_A:a_s ["_law_cell"] ["_law_cell"] (a_m g_J):=⟨rfl,rfl,rfl,by decide+kernel,rfl,by decide+kernel,by decide+kernel⟩
theorem j_Y {f:Addr} {fd:FuncData} (F:Fun K "_law_room_of" "_law_room_of" g_J f fd):FnOk P w K mg base CX0 1 f fd ["_law_cell"] h_k:=by
 refine F.ok l_A (λvs H Q E h=> ?_) (λcdv A outer s H vs Q E hr h=> ?_)
 ·obtain⟨c,rfl,_⟩:=h
  rfl
 ·obtain⟨c,rfl,fin⟩:=h
  refine⟨_,(a_g (a_n (a_r a_M (a_U (a_a a_f (a_a a_f (a_a a_f (a_a a_f (a_a (a_t a_S a_f (a_t a_P (a_t a_2 (pv 0) a_f) a_f)) (a_a (a_t a_P (pv 0) (a_t h_p a_f a_f)) a_d))))))) (a_t a_P (pv 0) a_f) (λ_ _=>rfl)))),?_⟩
  obtain⟨v,hv⟩:=m_6 40 12 26 1000000000000 (13+c / 6 % 60) (c % 10 ^ (30:Int).toNat) c
  refine⟨_,rfl,_,_,rfl,rfl,⟨by decide,by decide⟩,_,_,rfl,rfl,(show (0:Int) < 60 by decide),_,_,rfl,rfl,_,rfl,_,_,rfl,rfl,⟨by decide,by decide,by decide⟩,_,_,rfl,rfl,(show (0:Int) < 10 ^ 30 by decide),by show 6<=sizeLine;decide,λl hl=> ?_⟩
  exact⟨_,rfl,_,_,rfl,rfl,(show (0:Int) < 6 by decide),l,_,_,_,rfl,rfl,SqL.of a_b,hv,fin v _ (Same.upd_new hl)⟩
def h_O:Sp:=λvs H Q _=>∃(l:Addr) (ds:List Deed),vs= [.ref l]/\m_f H l ds/\ds.length<=900/\∀(m:Addr) (H':Hp),H m=none->Same H H'->LD H' m ds->Q (.ref m) H'
theorem f_p:a_s ["_law_deeds","_law_made","_law_deed"] ["_law_deeds"] (a_m g_A):=⟨rfl,rfl,rfl,by decide+kernel,rfl,by decide+kernel,by decide+kernel⟩
theorem i_S {f:Addr} {fd:FuncData} (F:Fun K "_law_copied" "_law_copied" g_A f fd) (B:Bt mg):FnOk P w K mg base CX0 1 f fd ["_law_deeds"] h_O:=by
 refine F.ok f_p (λvs H Q E h=> ?_) (λcdv A outer s H vs Q E hr h=> ?_)
 ·obtain⟨l,ds,rfl,_⟩:=h
  rfl
 ·obtain⟨l,ds,rfl,⟨as,hl,hP⟩,hn,fin⟩:=h
  have hal:=Paired.length hP
  refine⟨_,(a_c (a_w (i:=1) f_p.nd rfl (Or.inl rfl) (a_U a_d))
   (a_c (c_g PassesOwn.never rfl (b_e (pv 0)) (b_d (i:=2) f_p.nd rfl (Or.inl rfl))
   (a_g (a_C (a_k a_H (a_r a_p (pv 2) a_f (λ_ _=>rfl)) a_l (a_o _)) (a_g (a_z (b_C r_W r_Y r_X a_Q (pv 1) (a_a (a_J (a_a (a_r a_p (pv 2) a_f (λ_ _=>rfl)) (a_a (a_9 b_T (by rfl) B.list d_A (a_a (a_r a_p (pv 2) a_f (λ_ _=>rfl)) a_d)) a_d))) a_d)))) (a_g (a_z (b_C r_W r_Y r_X a_Q (pv 1) (a_a (pv 2) a_d)))))))
   (a_g (a_n (pv 1))))),?_⟩
  refine⟨by show 0<=sizeLine;decide,λm hm=> ?_⟩
  have s1:Same H (upd H m (.lst [])):=Same.upd_new hm
  refine⟨_,rfl,l,rfl,⟨_,SqL.of (s1 _ _ hl)⟩,c_F (K:=K) (a:=l) (xs:=as.map V.ref) (λi σ Hx=>∃(v:Option V),σ= [some (.ref l),some (.ref m),v]/\Same H Hx/\LD Hx m (ds.take i)) ⟨none,rfl,s1, [],a_b,.nil⟩ (λi σ Hx _ ⟨_,_,sx,_⟩=>SqL.of (sx _ _ hl)) ?_ ?_⟩
  ·rintro i x σ Hx hi ⟨v,rfl,sx,bs,hb,hB⟩
   rw[r_o] at hi
   cases e:as[i]? with
   | none=>rw[e] at hi;cases hi
   | some a=>
     rw[e] at hi
     obtain rfl:V.ref a=x:=r_j hi
     have hil:=(r_q.mp e).1
     obtain⟨d,hd⟩:∃d,ds[i]? =some d:=⟨_,r_d (by omega)⟩
     obtain⟨a',e',hda⟩:=a_T hP hd
     rw[e] at e'
     obtain rfl:a=a':=r_j e'
     have hdx:=DeedAt.same sx hda
     obtain⟨r,hw⟩:=DeedAt.word hdx
     have hbl:=Paired.length hB
     rw[r_y] at hbl
     have hbz:(bs.map V.ref).length < sizeLine:=by rw[r_c];exact a_G (by omega)
     have et:ds.take (i+1)=ds.take i++ [d]:=by rw[r_D,hd];rfl
     refine⟨_,rfl,a,_,_,_,rfl,rfl,SqT.of hw,a_e (j:=0) rfl,rfl,_,rfl,?_⟩
     refine a_x (λq=> ?_) (λq=> ?_)
     ·obtain⟨cs,rfl⟩:=k_4 (by have:=r_U q;injection this)
      obtain⟨la,cas,h1,h2,h3⟩:=hdx
      rw[h1] at hw
      refine⟨_,rfl,.inl ⟨rfl,_,SqL.of hb⟩,_,rfl,a,_,_,_,rfl,rfl,SqT.of h1,a_e (j:=0) rfl,_,rfl,a,_,_,_,rfl,rfl,SqT.of h1,a_e (j:=1) rfl,la,_,rfl,.inl (SqL.of h2),λlc hlc=>⟨by show 2<=sizeLine;decide,λt ht=> ?_⟩⟩
      have s2:=Same.upd_new (o:= .lst (cas.map V.ref)) hlc
      have s3:=Same.upd_new (o:= .tup [.str "all",.ref lc]) ht
      have s23:=s2.trans s3
      have hb3:=s23 _ _ hb
      have hne:lc≠m:=(a_h hb hlc).symm
      refine⟨m,_,_,rfl,rfl,hb3,hbz,_,rfl,(Mov.upd hb3).same (sx.trans s23) λb' hb'=>(by rw[r_h.mp hb'];exact hm),?_⟩
      rw[et]
      refine LD.grow hb3 (d_4 s23 hB) ⟨⟨lc,cas,a_b,s3 _ _ a_b,a_E (λb xs q=>s23 _ _ q) h3⟩,λl' e=> ?_⟩
      rw[a_b] at e
      injection e with e
      injection e with e
      injection e with _ e
      injection e with e _
      injection e with e
      rw[<-e];exact hne
     ·refine⟨_,rfl,.inl ⟨rfl,_,SqL.of hb⟩,_,rfl,m,_,_,rfl,rfl,hb,hbz,_,rfl,(Mov.upd hb).same sx λb' hb'=>(by rw[r_h.mp hb'];exact hm),?_⟩
      rw[et]
      refine LD.grow hb hB ⟨hdx,λl' e=> ?_⟩
      rw[hw] at e
      injection e with e
      injection e with e
      injection e with e _
      exact absurd (r_S e) q
  ·rintro σ Hx ⟨v,rfl,sx,hL⟩
   rw[r_c,hal,r_w (r_l _)] at hL
   exact⟨_,rfl,fin m Hx hm sx hL⟩
theorem b_l:a_s ["_law_deed","_law_seed","_law_word","_law_low"] ["_law_deed","_law_seed"] (a_m b_Y):=⟨rfl,rfl,rfl,by decide+kernel,rfl,by decide+kernel,by decide+kernel⟩
def q_y:Sp:=λ_ _ _ _=>False
theorem p_L {f:Addr} {fd:FuncData} {k:Nat} (F:Fun K "_law_moved" "_law_moved" b_Y f fd):FnOk P w K mg base CX0 (k+1) f fd ["_law_deed","_law_seed"] q_y:=
 F.ok b_l (λvs H Q E h=>h.elim) (λcdv A outer s H vs Q E hr h=>h.elim)
def n_p:Sp:=λvs H Q _=>∃(a:Addr) (c:Chg) (sd:Int),vs= [.ref a,.int sd]/\ChgAt H a c/\c.short/\∀(b:Addr) (c':Chg) (H':Hp),H b=none->Same H H'->ChgAt H' b c'->c'.tell sd->Q (.ref b) H'
theorem m_b {f fRa fRk fSg fRm:Addr} {fd fdRa fdRk fdSg fdRm:FuncData} (F:Fun K "_law_moved" "_law_moved" b_Y f fd) (gMv:Gf K mg "_law_moved" f fd ["_law_deed","_law_seed"])
 (gRa:Gf K mg "_law_raised" fRa fdRa ["_law_number","_law_seed"]) (GRa:FnOk P w K mg base CX0 2 fRa fdRa ["_law_number","_law_seed"] d_Q) (gRk:Gf K mg "_law_ranked" fRk fdRk ["_law_rank","_law_seed"]) (GRk:FnOk P w K mg base CX0 2 fRk fdRk ["_law_rank","_law_seed"] d_K)
 (gSg:Gf K mg "_law_signed" fSg fdSg ["_law_letters","_law_seed"]) (GSg:FnOk P w K mg base CX0 1 fSg fdSg ["_law_letters","_law_seed"] d_S) (gRm:Gf K mg "_law_row_moved" fRm fdRm ["_law_row","_law_seed"]) (GRm:FnOk P w K mg base CX0 3 fRm fdRm ["_law_row","_law_seed"] g_T):
 FnOk P w K mg base CX0 5 f fd ["_law_deed","_law_seed"] n_p:=by
 have GMv:FnOk P w K mg base CX0 4 f fd ["_law_deed","_law_seed"] q_y:=p_L F
 refine F.ok b_l (λvs H Q E h=> ?_) (λcdv A outer s H vs Q E hr h=> ?_)
 ·obtain⟨a,c,sd,rfl,_⟩:=h
  rfl
 ·obtain⟨a,c,sd,rfl,hc,hs,fin⟩:=h
  have hr1:Room 1 _:=hr.mono (by decide)
  have hr2:Room 2 _:=hr.mono (by decide)
  have hr3:Room 3 _:=hr.mono (by decide)
  have hr4:Room 4 _:=hr.mono (by decide)
  refine⟨_,(a_c (a_w (i:=2) b_l.nd rfl (Or.inl rfl) (a_r a_p (pv 0) a_f (λ_ _=>rfl)))
   (a_c (a_C (PW.pt (e_c (a_k a_H (pv 2) a_l (a_o _)) (c_y (a_k a_H (pv 2) a_l (a_o _))))) (a_g (a_n (a_J (a_a (pv 2) (a_a (a_j GRm hr3 rfl gRm.mg gRm.kp gRm.b .nil a_u (a_a (a_r a_p (pv 0) a_f (λ_ _=>rfl)) (a_a (pv 1) a_d))) a_d))))) a_q)
   (a_c (a_C (PW.pt (e_c (a_k a_H (pv 2) a_l (a_o _)) (c_y (a_k a_H (pv 2) a_l (a_o _))))) (a_g (a_n (a_J (a_a (pv 2) (a_a (a_j GRa hr2 rfl gRa.mg gRa.kp gRa.b .nil a_u (a_a (a_r a_p (pv 0) a_f (λ_ _=>rfl)) (a_a (pv 1) a_d))) a_d))))) a_q)
   (a_c (a_C (a_k a_H (pv 2) a_l (a_o _)) (a_g (a_n (a_J (a_a (pv 2) (a_a (c_Z (x:="_law_one") (fns:= ["_law_seed"]) (js:= [1]) rfl ⟨rfl,by decide+kernel,by decide+kernel,rfl,by decide+kernel,by decide+kernel,rfl,by simp[Env.kindOf];exact rfl,rfl,by decide+kernel⟩ (b_e (a_r a_p (pv 0) a_f (λ_ _=>rfl))) (λ_ _ _ _=>c_a) (λ_ _ _ _=>(a_j GMv hr4 rfl gMv.mg gMv.kp gMv.b .nil a_u (a_a (pv 0) (a_a (pv 1) a_d))))) a_d))))) a_q)
   (a_c (a_C (a_k a_H (pv 2) a_l (a_o _)) (a_g (a_n (a_J (a_a (pv 2) (a_a (a_r a_p (pv 0) a_f (λ_ _=>rfl)) (a_a (a_j GRa hr2 rfl gRa.mg gRa.kp gRa.b .nil a_u (a_a (a_r a_p (pv 0) a_f (λ_ _=>rfl)) (a_a (pv 1) a_d))) a_d)))))) a_q)
   (a_c (a_C (PW.pt (e_j (a_k a_H (pv 2) a_l (a_o _)) (c_Y (a_k a_H (a_r a_p (pv 0) a_f (λ_ _=>rfl)) a_l (a_o _))))) (a_g (a_n (a_J (a_a (pv 2) (a_a (a_r a_p (pv 0) a_f (λ_ _=>rfl)) (a_a (a_j GSg hr1 rfl gSg.mg gSg.kp gSg.b .nil a_u (a_a (a_r a_p (pv 0) a_f (λ_ _=>rfl)) (a_a (pv 1) a_d))) (a_a (a_j GSg hr1 rfl gSg.mg gSg.kp gSg.b .nil a_u (a_a (a_r a_p (pv 0) a_f (λ_ _=>rfl)) (a_a (pv 1) a_d))) a_d))))))) a_q)
   (a_c (a_C (a_k a_H (pv 2) a_l (a_o _)) (a_g (a_n (a_J (a_a (pv 2) (a_a (a_r a_p (pv 0) a_f (λ_ _=>rfl)) (a_a (a_j GRk hr2 rfl gRk.mg gRk.kp gRk.b .nil a_u (a_a (a_r a_p (pv 0) a_f (λ_ _=>rfl)) (a_a (pv 1) a_d))) (a_a (a_j GRk hr2 rfl gRk.mg gRk.kp gRk.b .nil a_u (a_a (a_r a_p (pv 0) a_f (λ_ _=>rfl)) (a_a (pv 1) a_d))) a_d))))))) a_q)
   (a_c (a_C (a_k a_H (pv 2) a_l (a_o _)) (a_c (a_w (i:=3) b_l.nd rfl (Or.inl rfl) (a_j GRk hr2 rfl gRk.mg gRk.kp gRk.b .nil a_u (a_a (a_r a_p (pv 0) a_f (λ_ _=>rfl)) (a_a (pv 1) a_d))))
   (a_g (a_n (a_J (a_a (pv 2) (a_a (pv 3) (a_a (a_j GRk hr2 rfl gRk.mg gRk.kp gRk.b .nil a_u (a_a (a_r a_p (pv 0) a_f (λ_ _=>rfl)) (a_a (pv 1) a_d))) (a_a (a_j GSg hr1 rfl gSg.mg gSg.kp gSg.b .nil a_u (a_a (a_r a_p (pv 0) a_f (λ_ _=>rfl)) (a_a (pv 1) a_d))) a_d)))))))) a_q)
   (a_g (a_n (pv 0))))))))))),?_⟩
  have body:True:=trivial
  cases c with
  | bring ρ=>
    obtain⟨r,h1,hρ⟩:=hc
    refine⟨_,rfl,a,_,_,_,rfl,rfl,SqT.of h1,a_e (j:=0) rfl,?_⟩
    refine⟨_,rfl,rfl,_,rfl,a_x (λ_=>k_w ?_) (λq=>absurd (r_S rfl) q)⟩
    refine⟨_,rfl,_,rfl,a,_,_,_,rfl,rfl,SqT.of h1,a_e (j:=1) rfl,_,rfl,r,ρ,sd,rfl,hρ,hs.1,λb ρ' H2 hb s2 hρ' en=>⟨by show 2<=sizeLine;decide,λt ht=> ?_⟩⟩
    exact fin t (.bring ρ') _ (s2.free ht) (s2.trans (Same.upd_new ht)) ⟨b,a_b,Same.upd_new ht _ _ hρ'⟩ (show ρ'.n∈ML sd by rw[en];exact i_A hs.2)
  | alter ρ=>
    obtain⟨r,h1,hρ⟩:=hc
    refine⟨_,rfl,a,_,_,_,rfl,rfl,SqT.of h1,a_e (j:=0) rfl,?_⟩
    refine⟨_,rfl,rfl,_,rfl,a_x (λq=>absurd q (by decide+kernel)) (λ_=> ?_)⟩
    refine⟨_,rfl,rfl,_,rfl,a_x (λ_=> ?_) (λq=>absurd (r_S rfl) q)⟩
    refine⟨_,rfl,_,rfl,a,_,_,_,rfl,rfl,SqT.of h1,a_e (j:=1) rfl,_,rfl,r,ρ,sd,rfl,hρ,hs.1,λb ρ' H2 hb s2 hρ' en=>⟨by show 2<=sizeLine;decide,λt ht=> ?_⟩⟩
    exact fin t (.alter ρ') _ (s2.free ht) (s2.trans (Same.upd_new ht)) ⟨b,a_b,Same.upd_new ht _ _ hρ'⟩ (show ρ'.n∈ML sd by rw[en];exact i_A hs.2)
  | cut n=>
    refine⟨_,rfl,a,_,_,_,rfl,rfl,SqT.of hc,a_e (j:=0) rfl,?_⟩
    refine⟨_,rfl,rfl,_,rfl,a_x (λq=>absurd q (by decide+kernel)) (λ_=> ?_)⟩
    refine⟨_,rfl,rfl,_,rfl,a_x (λq=>absurd q (by decide+kernel)) (λ_=> ?_)⟩
    refine⟨_,rfl,rfl,_,rfl,a_x (λ_=>k_w ?_) (λq=>absurd (r_S rfl) q)⟩
    refine⟨_,rfl,_,rfl,a,_,_,_,rfl,rfl,SqT.of hc,a_e (j:=1) rfl,_,rfl,n,sd,rfl,by show 2<=sizeLine;decide,λt ht=> ?_⟩
    exact fin t (.cut (b_u n sd)) _ ht (Same.upd_new ht) a_b (i_A hs)
def q_q:Sp:=λvs H Q _=>∃(a:Addr) (d:Deed) (sd:Int),vs= [.ref a,.int sd]/\DeedAt H a d/\d.form/\d.short/\∀(b:Addr) (d':Deed) (H':Hp),Same H H'->DeedAt H' b d'->d'.form->d'.tell sd->(∀l',H' b=some (.tup [.str "all",.ref l'])->H l'=none)->(d.asks->d'.asks)->Q (.ref b) H'
theorem p_K {f fRa fRk fSg fRm:Addr} {fd fdRa fdRk fdSg fdRm:FuncData} (F:Fun K "_law_moved" "_law_moved" b_Y f fd) (gMv:Gf K mg "_law_moved" f fd ["_law_deed","_law_seed"])
 (gRa:Gf K mg "_law_raised" fRa fdRa ["_law_number","_law_seed"]) (GRa:FnOk P w K mg base CX0 2 fRa fdRa ["_law_number","_law_seed"] d_Q) (gRk:Gf K mg "_law_ranked" fRk fdRk ["_law_rank","_law_seed"]) (GRk:FnOk P w K mg base CX0 2 fRk fdRk ["_law_rank","_law_seed"] d_K)
 (gSg:Gf K mg "_law_signed" fSg fdSg ["_law_letters","_law_seed"]) (GSg:FnOk P w K mg base CX0 1 fSg fdSg ["_law_letters","_law_seed"] d_S) (gRm:Gf K mg "_law_row_moved" fRm fdRm ["_law_row","_law_seed"]) (GRm:FnOk P w K mg base CX0 3 fRm fdRm ["_law_row","_law_seed"] g_T):
 FnOk P w K mg base CX0 6 f fd ["_law_deed","_law_seed"] q_q:=by
 have GMv:FnOk P w K mg base CX0 5 f fd ["_law_deed","_law_seed"] n_p:=m_b F gMv gRa GRa gRk GRk gSg GSg gRm GRm
 refine F.ok b_l (λvs H Q E h=> ?_) (λcdv A outer s H vs Q E hr h=> ?_)
 ·obtain⟨a,d,sd,rfl,_⟩:=h
  rfl
 ·obtain⟨a,d,sd,rfl,hd,hf,hs,fin⟩:=h
  have hr1:Room 1 _:=hr.mono (by decide)
  have hr2:Room 2 _:=hr.mono (by decide)
  have hr3:Room 3 _:=hr.mono (by decide)
  have hr4:Room 5 _:=hr
  refine⟨_,(a_c (a_w (i:=2) b_l.nd rfl (Or.inl rfl) (a_r a_p (pv 0) a_f (λ_ _=>rfl)))
   (a_c (a_C (PW.pt (e_c (a_k a_H (pv 2) a_l (a_o _)) (c_y (a_k a_H (pv 2) a_l (a_o _))))) (a_g (a_n (a_J (a_a (pv 2) (a_a (a_j GRm hr3 rfl gRm.mg gRm.kp gRm.b .nil a_u (a_a (a_r a_p (pv 0) a_f (λ_ _=>rfl)) (a_a (pv 1) a_d))) a_d))))) a_q)
   (a_c (a_C (PW.pt (e_c (a_k a_H (pv 2) a_l (a_o _)) (c_y (a_k a_H (pv 2) a_l (a_o _))))) (a_g (a_n (a_J (a_a (pv 2) (a_a (a_j GRa hr2 rfl gRa.mg gRa.kp gRa.b .nil a_u (a_a (a_r a_p (pv 0) a_f (λ_ _=>rfl)) (a_a (pv 1) a_d))) a_d))))) a_q)
   (a_c (a_C (a_k a_H (pv 2) a_l (a_o _)) (a_g (a_n (a_J (a_a (pv 2) (a_a (c_Z (x:="_law_one") (fns:= ["_law_seed"]) (js:= [1]) rfl ⟨rfl,by decide+kernel,by decide+kernel,rfl,by decide+kernel,by decide+kernel,rfl,by simp[Env.kindOf];exact rfl,rfl,by decide+kernel⟩ (b_e (a_r a_p (pv 0) a_f (λ_ _=>rfl))) (λ_ _ _ _=>c_a) (λ_ _ _ _=>(a_j GMv hr4 rfl gMv.mg gMv.kp gMv.b .nil a_u (a_a (pv 0) (a_a (pv 1) a_d))))) a_d))))) a_q)
   (a_c (a_C (a_k a_H (pv 2) a_l (a_o _)) (a_g (a_n (a_J (a_a (pv 2) (a_a (a_r a_p (pv 0) a_f (λ_ _=>rfl)) (a_a (a_j GRa hr2 rfl gRa.mg gRa.kp gRa.b .nil a_u (a_a (a_r a_p (pv 0) a_f (λ_ _=>rfl)) (a_a (pv 1) a_d))) a_d)))))) a_q)
   (a_c (a_C (PW.pt (e_j (a_k a_H (pv 2) a_l (a_o _)) (c_Y (a_k a_H (a_r a_p (pv 0) a_f (λ_ _=>rfl)) a_l (a_o _))))) (a_g (a_n (a_J (a_a (pv 2) (a_a (a_r a_p (pv 0) a_f (λ_ _=>rfl)) (a_a (a_j GSg hr1 rfl gSg.mg gSg.kp gSg.b .nil a_u (a_a (a_r a_p (pv 0) a_f (λ_ _=>rfl)) (a_a (pv 1) a_d))) (a_a (a_j GSg hr1 rfl gSg.mg gSg.kp gSg.b .nil a_u (a_a (a_r a_p (pv 0) a_f (λ_ _=>rfl)) (a_a (pv 1) a_d))) a_d))))))) a_q)
   (a_c (a_C (a_k a_H (pv 2) a_l (a_o _)) (a_g (a_n (a_J (a_a (pv 2) (a_a (a_r a_p (pv 0) a_f (λ_ _=>rfl)) (a_a (a_j GRk hr2 rfl gRk.mg gRk.kp gRk.b .nil a_u (a_a (a_r a_p (pv 0) a_f (λ_ _=>rfl)) (a_a (pv 1) a_d))) (a_a (a_j GRk hr2 rfl gRk.mg gRk.kp gRk.b .nil a_u (a_a (a_r a_p (pv 0) a_f (λ_ _=>rfl)) (a_a (pv 1) a_d))) a_d))))))) a_q)
   (a_c (a_C (a_k a_H (pv 2) a_l (a_o _)) (a_c (a_w (i:=3) b_l.nd rfl (Or.inl rfl) (a_j GRk hr2 rfl gRk.mg gRk.kp gRk.b .nil a_u (a_a (a_r a_p (pv 0) a_f (λ_ _=>rfl)) (a_a (pv 1) a_d))))
   (a_g (a_n (a_J (a_a (pv 2) (a_a (pv 3) (a_a (a_j GRk hr2 rfl gRk.mg gRk.kp gRk.b .nil a_u (a_a (a_r a_p (pv 0) a_f (λ_ _=>rfl)) (a_a (pv 1) a_d))) (a_a (a_j GSg hr1 rfl gSg.mg gSg.kp gSg.b .nil a_u (a_a (a_r a_p (pv 0) a_f (λ_ _=>rfl)) (a_a (pv 1) a_d))) a_d)))))))) a_q)
   (a_g (a_n (pv 0))))))))))),?_⟩
  have No:∀{x y:Str},(x == y)=false->¬ decide (V.str x=V.str y)=true:=λh q=>by
   have:=r_U q
   injection this with this
   rw[this] at h
   simp at h
  cases d with
  | chg c=>
    cases c with
    | bring ρ=>
      obtain⟨r,h1,hρ⟩:=hd
      refine⟨_,rfl,a,_,_,_,rfl,rfl,SqT.of h1,a_e (j:=0) rfl,?_⟩
      refine⟨_,rfl,rfl,_,rfl,a_x (λ_=>k_w ?_) (λq=>absurd (r_S rfl) q)⟩
      refine⟨_,rfl,_,rfl,a,_,_,_,rfl,rfl,SqT.of h1,a_e (j:=1) rfl,_,rfl,r,ρ,sd,rfl,hρ,hs.1,λb ρ' H2 hb s2 hρ' en=>⟨by show 2<=sizeLine;decide,λt ht=> ?_⟩⟩
      exact fin t (.chg (.bring ρ')) _ (s2.trans (Same.upd_new ht)) ⟨b,a_b,Same.upd_new ht _ _ hρ'⟩ trivial (show ρ'.n∈ML sd by rw[en];exact i_A hs.2) (b_r a_b (by decide+kernel)) id
    | alter ρ=>
      obtain⟨r,h1,hρ⟩:=hd
      refine⟨_,rfl,a,_,_,_,rfl,rfl,SqT.of h1,a_e (j:=0) rfl,?_⟩
      refine⟨_,rfl,rfl,_,rfl,a_x (λq=>absurd q (by decide+kernel)) (λ_=> ?_)⟩
      refine⟨_,rfl,rfl,_,rfl,a_x (λ_=> ?_) (λq=>absurd (r_S rfl) q)⟩
      refine⟨_,rfl,_,rfl,a,_,_,_,rfl,rfl,SqT.of h1,a_e (j:=1) rfl,_,rfl,r,ρ,sd,rfl,hρ,hs.1,λb ρ' H2 hb s2 hρ' en=>⟨by show 2<=sizeLine;decide,λt ht=> ?_⟩⟩
      exact fin t (.chg (.alter ρ')) _ (s2.trans (Same.upd_new ht)) ⟨b,a_b,Same.upd_new ht _ _ hρ'⟩ trivial (show ρ'.n∈ML sd by rw[en];exact i_A hs.2) (b_r a_b (by decide+kernel)) id
    | cut n=>
      refine⟨_,rfl,a,_,_,_,rfl,rfl,SqT.of hd,a_e (j:=0) rfl,?_⟩
      refine⟨_,rfl,rfl,_,rfl,a_x (λq=>absurd q (by decide+kernel)) (λ_=> ?_)⟩
      refine⟨_,rfl,rfl,_,rfl,a_x (λq=>absurd q (by decide+kernel)) (λ_=> ?_)⟩
      refine⟨_,rfl,rfl,_,rfl,a_x (λ_=>k_w ?_) (λq=>absurd (r_S rfl) q)⟩
      refine⟨_,rfl,_,rfl,a,_,_,_,rfl,rfl,SqT.of hd,a_e (j:=1) rfl,_,rfl,n,sd,rfl,by show 2<=sizeLine;decide,λt ht=> ?_⟩
      exact fin t (.chg (.cut (b_u n sd))) _ (Same.upd_new ht) a_b trivial (i_A hs) (b_r a_b (by decide+kernel)) id
  | row n=>
    refine⟨_,rfl,a,_,_,_,rfl,rfl,SqT.of hd,a_e (j:=0) rfl,?_⟩
    refine⟨_,rfl,rfl,_,rfl,a_x (λq=>absurd q (by decide+kernel)) (λ_=> ?_)⟩
    refine⟨_,rfl,rfl,_,rfl,a_x (λq=>absurd q (by decide+kernel)) (λ_=> ?_)⟩
    refine⟨_,rfl,rfl,_,rfl,a_x (λq=>absurd q (by decide+kernel)) (λ_=> ?_)⟩
    refine⟨_,rfl,rfl,_,rfl,a_x (λ_=> ?_) (λq=>absurd (r_S rfl) q)⟩
    refine⟨_,rfl,_,rfl,a,_,_,_,rfl,rfl,SqT.of hd,a_e (j:=1) rfl,_,rfl,n,sd,rfl,by show 2<=sizeLine;decide,λt ht=> ?_⟩
    exact fin t (.row (b_u n sd)) _ (Same.upd_new ht) a_b trivial (c_W hs) (b_r a_b (by decide+kernel)) id
  | all cs=>
    obtain⟨l,as,h1,h2,h3⟩:=hd
    refine⟨_,rfl,a,_,_,_,rfl,rfl,SqT.of h1,a_e (j:=0) rfl,?_⟩
    refine⟨_,rfl,rfl,_,rfl,a_x (λq=>absurd q (by decide+kernel)) (λ_=> ?_)⟩
    refine⟨_,rfl,rfl,_,rfl,a_x (λq=>absurd q (by decide+kernel)) (λ_=> ?_)⟩
    refine⟨_,rfl,rfl,_,rfl,a_x (λq=>absurd q (by decide+kernel)) (λ_=> ?_)⟩
    refine⟨_,rfl,rfl,_,rfl,a_x (λq=>absurd q (by decide+kernel)) (λ_=> ?_)⟩
    refine⟨_,rfl,rfl,_,rfl,a_x (λ_=> ?_) (λq=>absurd (r_S rfl) q)⟩
    refine⟨_,rfl,_,rfl,a,_,_,_,rfl,rfl,SqT.of h1,a_e (j:=1) rfl,l,rfl,⟨_,SqL.of h2⟩,λL hL=> ?_⟩
    have s1:=Same.upd_new (o:= .lst []) hL
    have hal:=Paired.length h3
    refine c_x (K:=K) (xs:=as.map V.ref) (λi ys Hx=>Same H Hx/\∃(bs:List Addr) (cs':List Chg),ys=bs.map V.ref/\Paired (ChgAt Hx) bs cs'/\cs'.length=i/\∀c∈cs',c.tell sd) ⟨s1, [], [],rfl,.nil,rfl,by simp⟩ (λi ys Hx _ _ h=>SqL.of (h.1 _ _ h2)) ?_ ?_
    ·rintro i v ys Hx hi hD ⟨sx,bs,cs',rfl,hB,hl',htl⟩
     rw[r_o] at hi
     cases e:as[i]? with
     | none=>rw[e] at hi;cases hi
     | some b=>
       rw[e] at hi
       obtain rfl:V.ref b=v:=r_j hi
       have hil:=(r_q.mp e).1
       obtain⟨c,hc⟩:∃c,cs[i]? =some c:=⟨_,r_d (by omega)⟩
       obtain⟨b',e',hcb⟩:=a_T h3 hc
       rw[e] at e'
       obtain rfl:b=b':=r_j e'
       have hbl:=Paired.length hB
       have hf':cs.length<=24:=hf
       refine⟨_,rfl,_,rfl,b,c,sd,rfl,hcb.mono (λx xs q=>sx _ _ q),hs c (r_C hc),λt c' H2 ht s2 hc' htc=> ?_⟩
       have hD2:=s2 _ _ hD
       refine⟨hD2,by rw[r_c];exact a_G (by omega),(Mov.upd hD2).same (sx.trans s2) (λx hx=>by rw[r_h.mp hx];exact hL),bs++ [t],cs'++ [c'],by rw[r_k];rfl,?_, by simp;omega,λc hc=> ?_⟩
       ·exact a_E (NoTup.keep (NoTup.lst hD2)) (a_F (a_E (λx xs q=>s2 _ _ q) hB) (.cons hc' .nil))
       ·rcases r_u.mp hc with q | q
        ·exact htl c q
        ·rw[r_h.mp q];exact htc
    ·rintro ys Hx hD ⟨sx,bs,cs',rfl,hB,hl',htl⟩
     refine⟨by show 2<=sizeLine;decide,λt ht=> ?_⟩
     have s2:=Same.upd_new (o:= .tup [.str "all",.ref L]) ht
     refine fin t (.all cs') _ (sx.trans s2) ⟨L,bs,a_b,s2 _ _ hD,a_E (λx xs q=>s2 _ _ q) hB⟩ ?_ htl (λl' e=> ?_) id
     ·have hf':cs.length<=24:=hf
      rw[r_c] at hl'
      show cs'.length<=24
      omega
     ·rw[a_b] at e
      injection e with e
      injection e with e
      injection e with _ e
      injection e with e _
      injection e with e
      rw[<-e];exact hL
  | spot x n=>
    refine⟨_,rfl,a,_,_,_,rfl,rfl,SqT.of hd,a_e (j:=0) rfl,?_⟩
    refine⟨_,rfl,rfl,_,rfl,a_x (λq=>absurd q (by decide+kernel)) (λ_=> ?_)⟩
    refine⟨_,rfl,rfl,_,rfl,a_x (λq=>absurd q (by decide+kernel)) (λ_=> ?_)⟩
    refine⟨_,rfl,rfl,_,rfl,a_x (λq=>absurd q (by decide+kernel)) (λ_=> ?_)⟩
    refine⟨_,rfl,rfl,_,rfl,a_x (λq=>absurd q (by decide+kernel)) (λ_=> ?_)⟩
    refine⟨_,rfl,rfl,_,rfl,a_x (λq=>absurd q (by decide+kernel)) (λ_=> ?_)⟩
    refine⟨_,rfl,rfl,_,rfl,a_x (λ_=> ?_) (λq=>absurd (r_S rfl) q)⟩
    refine⟨_,rfl,_,rfl,a,_,_,_,rfl,rfl,SqT.of hd,a_e (j:=1) rfl,_,rfl,a,_,_,_,rfl,rfl,SqT.of hd,a_e (j:=2) rfl,_,rfl,n,sd,rfl,by show 3<=sizeLine;decide,λt ht=> ?_⟩
    exact fin t (.spot x (b_u n sd)) _ (Same.upd_new ht) a_b hf (c_W hs) (b_r a_b (by decide+kernel)) id
  | within x lo hi=>
    refine⟨_,rfl,a,_,_,_,rfl,rfl,SqT.of hd,a_e (j:=0) rfl,?_⟩
    refine⟨_,rfl,rfl,_,rfl,a_x (λq=>absurd q (by decide+kernel)) (λ_=> ?_)⟩
    refine⟨_,rfl,rfl,_,rfl,a_x (λq=>absurd q (by decide+kernel)) (λ_=> ?_)⟩
    refine⟨_,rfl,rfl,_,rfl,a_x (λq=>absurd q (by decide+kernel)) (λ_=> ?_)⟩
    refine⟨_,rfl,rfl,_,rfl,a_x (λq=>absurd q (by decide+kernel)) (λ_=> ?_)⟩
    refine⟨_,rfl,rfl,_,rfl,a_x (λq=>absurd q (by decide+kernel)) (λ_=> ?_)⟩
    refine⟨_,rfl,rfl,_,rfl,a_x (λq=>absurd q (by decide+kernel)) (λ_=> ?_)⟩
    refine⟨_,rfl,rfl,_,rfl,a_x (λ_=> ?_) (λq=>absurd (r_S rfl) q)⟩
    refine⟨_,rfl,a,_,_,_,rfl,rfl,SqT.of hd,a_e (j:=1) rfl,rfl,_,rfl,?_⟩
    have hf':b_D x lo hi:=hf.1
    have hwx:c_u x:=hf.2
    refine a_x (λq=> ?_) (λq=> ?_)
    ·have hx:x="text":=by have:=r_U q;injection this
     rw[b_D,if_pos hx] at hf'
     obtain⟨t1,t2,rfl,rfl⟩:=hf'
     refine⟨_,rfl,_,rfl,a,_,_,_,rfl,rfl,SqT.of hd,a_e (j:=1) rfl,_,rfl,a,_,_,_,rfl,rfl,SqT.of hd,a_e (j:=2) rfl,_,rfl,t1,sd,rfl,hs.1 t1 rfl,λu1 H2 s2=> ?_⟩
     refine⟨_,rfl,a,_,_,_,rfl,rfl,SqT.of (s2 _ _ hd),a_e (j:=3) rfl,_,rfl,t2,sd,rfl,hs.2 t2 rfl,λu2 H3 s3=>⟨by show 4<=sizeLine;decide,λt ht=> ?_⟩⟩
     refine fin t (.within x (.str u1) (.str u2)) _ ((s2.trans s3).trans (Same.upd_new ht)) a_b ?_ trivial (b_r a_b (by decide+kernel)) id
     show b_D x _ _/\c_u x
     rw[b_D,if_pos hx]
     exact⟨⟨_,_,rfl,rfl⟩,hwx⟩
    ·have hx:¬ x="text":=λe=>q (by rw[e];exact r_S rfl)
     rw[b_D,if_neg hx] at hf'
     obtain⟨i,j,rfl,rfl⟩:=hf'
     refine⟨_,rfl,rfl,_,rfl,a_x (λ_=> ?_) (λq=>absurd (r_S rfl) q)⟩
     refine⟨_,rfl,_,rfl,a,_,_,_,rfl,rfl,SqT.of hd,a_e (j:=1) rfl,_,rfl,a,_,_,_,rfl,rfl,SqT.of hd,a_e (j:=2) rfl,_,rfl,i,sd,rfl,λr1=> ?_⟩
     refine⟨_,rfl,a,_,_,_,rfl,rfl,SqT.of hd,a_e (j:=3) rfl,_,rfl,j,sd,rfl,λr2=>⟨by show 4<=sizeLine;decide,λt ht=> ?_⟩⟩
     refine fin t (.within x (.int r1) (.int r2)) _ (Same.upd_new ht) a_b ?_ trivial (b_r a_b (by decide+kernel)) id
     show b_D x _ _/\c_u x
     rw[b_D,if_neg hx]
     exact⟨⟨_,_,rfl,rfl⟩,hwx⟩
  | both lo hi t0=>
    refine⟨_,rfl,a,_,_,_,rfl,rfl,SqT.of hd,a_e (j:=0) rfl,?_⟩
    refine⟨_,rfl,rfl,_,rfl,a_x (λq=>absurd q (by decide+kernel)) (λ_=> ?_)⟩
    refine⟨_,rfl,rfl,_,rfl,a_x (λq=>absurd q (by decide+kernel)) (λ_=> ?_)⟩
    refine⟨_,rfl,rfl,_,rfl,a_x (λq=>absurd q (by decide+kernel)) (λ_=> ?_)⟩
    refine⟨_,rfl,rfl,_,rfl,a_x (λq=>absurd q (by decide+kernel)) (λ_=> ?_)⟩
    refine⟨_,rfl,rfl,_,rfl,a_x (λq=>absurd q (by decide+kernel)) (λ_=> ?_)⟩
    refine⟨_,rfl,rfl,_,rfl,a_x (λq=>absurd q (by decide+kernel)) (λ_=> ?_)⟩
    refine⟨_,rfl,rfl,_,rfl,a_x (λq=>absurd q (by decide+kernel)) (λ_=>g_u ?_)⟩
    refine⟨_,rfl,rfl,_,rfl,a_x (λq=>absurd q (by decide+kernel)) (λ_=> ?_)⟩
    refine⟨_,rfl,rfl,_,rfl,a_x (λ_=> ?_) (λq=>absurd (r_S rfl) q)⟩
    refine⟨_,rfl,a,_,_,_,rfl,rfl,SqT.of hd,a_e (j:=1) rfl,_,rfl,lo,sd,rfl,λr1=> ?_⟩
    refine⟨_,rfl,_,rfl,_,rfl,a,_,_,_,rfl,rfl,SqT.of hd,a_e (j:=2) rfl,_,rfl,hi,sd,rfl,λr2=> ?_⟩
    refine⟨_,rfl,a,_,_,_,rfl,rfl,SqT.of hd,a_e (j:=3) rfl,_,rfl,t0,sd,rfl,hs,λu H3 s3=>⟨by show 4<=sizeLine;decide,λt ht=> ?_⟩⟩
    exact fin t (.both r1 r2 u) _ (s3.trans (Same.upd_new ht)) a_b trivial trivial (b_r a_b (by decide+kernel)) id
  | begin=>
    refine⟨_,rfl,a,_,_,_,rfl,rfl,SqT.of hd,a_e (j:=0) rfl,?_⟩
    refine⟨_,rfl,rfl,_,rfl,a_x (λq=>absurd q (by decide+kernel)) (λ_=> ?_)⟩
    refine⟨_,rfl,rfl,_,rfl,a_x (λq=>absurd q (by decide+kernel)) (λ_=> ?_)⟩
    refine⟨_,rfl,rfl,_,rfl,a_x (λq=>absurd q (by decide+kernel)) (λ_=> ?_)⟩
    refine⟨_,rfl,rfl,_,rfl,a_x (λq=>absurd q (by decide+kernel)) (λ_=> ?_)⟩
    refine⟨_,rfl,rfl,_,rfl,a_x (λq=>absurd q (by decide+kernel)) (λ_=> ?_)⟩
    refine⟨_,rfl,rfl,_,rfl,a_x (λq=>absurd q (by decide+kernel)) (λ_=> ?_)⟩
    refine⟨_,rfl,rfl,_,rfl,a_x (λq=>absurd q (by decide+kernel)) (λ_=>g_u ?_)⟩
    refine⟨_,rfl,rfl,_,rfl,a_x (λq=>absurd q (by decide+kernel)) (λ_=> ?_)⟩
    refine⟨_,rfl,rfl,_,rfl,a_x (λq=>absurd q (by decide+kernel)) (λ_=> ?_)⟩
    exact⟨_,rfl,fin a (.begin) H (Same.refl H) hd hf trivial (b_r hd (by decide+kernel)) id⟩
  | keep=>
    refine⟨_,rfl,a,_,_,_,rfl,rfl,SqT.of hd,a_e (j:=0) rfl,?_⟩
    refine⟨_,rfl,rfl,_,rfl,a_x (λq=>absurd q (by decide+kernel)) (λ_=> ?_)⟩
    refine⟨_,rfl,rfl,_,rfl,a_x (λq=>absurd q (by decide+kernel)) (λ_=> ?_)⟩
    refine⟨_,rfl,rfl,_,rfl,a_x (λq=>absurd q (by decide+kernel)) (λ_=> ?_)⟩
    refine⟨_,rfl,rfl,_,rfl,a_x (λq=>absurd q (by decide+kernel)) (λ_=> ?_)⟩
    refine⟨_,rfl,rfl,_,rfl,a_x (λq=>absurd q (by decide+kernel)) (λ_=> ?_)⟩
    refine⟨_,rfl,rfl,_,rfl,a_x (λq=>absurd q (by decide+kernel)) (λ_=> ?_)⟩
    refine⟨_,rfl,rfl,_,rfl,a_x (λq=>absurd q (by decide+kernel)) (λ_=>g_u ?_)⟩
    refine⟨_,rfl,rfl,_,rfl,a_x (λq=>absurd q (by decide+kernel)) (λ_=> ?_)⟩
    refine⟨_,rfl,rfl,_,rfl,a_x (λq=>absurd q (by decide+kernel)) (λ_=> ?_)⟩
    exact⟨_,rfl,fin a (.keep) H (Same.refl H) hd hf trivial (b_r hd (by decide+kernel)) id⟩
  | brk=>
    refine⟨_,rfl,a,_,_,_,rfl,rfl,SqT.of hd,a_e (j:=0) rfl,?_⟩
    refine⟨_,rfl,rfl,_,rfl,a_x (λq=>absurd q (by decide+kernel)) (λ_=> ?_)⟩
    refine⟨_,rfl,rfl,_,rfl,a_x (λq=>absurd q (by decide+kernel)) (λ_=> ?_)⟩
    refine⟨_,rfl,rfl,_,rfl,a_x (λq=>absurd q (by decide+kernel)) (λ_=> ?_)⟩
    refine⟨_,rfl,rfl,_,rfl,a_x (λq=>absurd q (by decide+kernel)) (λ_=> ?_)⟩
    refine⟨_,rfl,rfl,_,rfl,a_x (λq=>absurd q (by decide+kernel)) (λ_=> ?_)⟩
    refine⟨_,rfl,rfl,_,rfl,a_x (λq=>absurd q (by decide+kernel)) (λ_=> ?_)⟩
    refine⟨_,rfl,rfl,_,rfl,a_x (λq=>absurd q (by decide+kernel)) (λ_=>g_u ?_)⟩
    refine⟨_,rfl,rfl,_,rfl,a_x (λq=>absurd q (by decide+kernel)) (λ_=> ?_)⟩
    refine⟨_,rfl,rfl,_,rfl,a_x (λq=>absurd q (by decide+kernel)) (λ_=> ?_)⟩
    exact⟨_,rfl,fin a (.brk) H (Same.refl H) hd hf trivial (b_r hd (by decide+kernel)) id⟩
  | «from» x k m=>
    refine⟨_,rfl,a,_,_,_,rfl,rfl,SqT.of hd,a_e (j:=0) rfl,?_⟩
    refine⟨_,rfl,rfl,_,rfl,a_x (λq=>absurd q (by decide+kernel)) (λ_=> ?_)⟩
    refine⟨_,rfl,rfl,_,rfl,a_x (λq=>absurd q (by decide+kernel)) (λ_=> ?_)⟩
    refine⟨_,rfl,rfl,_,rfl,a_x (λq=>absurd q (by decide+kernel)) (λ_=> ?_)⟩
    refine⟨_,rfl,rfl,_,rfl,a_x (λq=>absurd q (by decide+kernel)) (λ_=> ?_)⟩
    refine⟨_,rfl,rfl,_,rfl,a_x (λq=>absurd q (by decide+kernel)) (λ_=> ?_)⟩
    refine⟨_,rfl,rfl,_,rfl,a_x (λq=>absurd q (by decide+kernel)) (λ_=> ?_)⟩
    refine⟨_,rfl,rfl,_,rfl,a_x (λq=>absurd q (by decide+kernel)) (λ_=>g_u ?_)⟩
    refine⟨_,rfl,rfl,_,rfl,a_x (λq=>absurd q (by decide+kernel)) (λ_=> ?_)⟩
    refine⟨_,rfl,rfl,_,rfl,a_x (λq=>absurd q (by decide+kernel)) (λ_=> ?_)⟩
    exact⟨_,rfl,fin a (.from x k m) H (Same.refl H) hd hf trivial (b_r hd (by decide+kernel)) id⟩
end
def e_F (room:Int) (kd mk:Addr):List (Key×V):= [(Sum.inr "room",.int room),(Sum.inr "kept",.ref kd),(Sum.inr "marks",.ref mk)]
theorem p_9:¬ ((Sum.inr ("room":Str):Key)=Sum.inr ("kept":Str)):=by decide+kernel
theorem q_s:¬ ((Sum.inr ("room":Str):Key)=Sum.inr ("marks":Str)):=by decide+kernel
theorem q_u:¬ ((Sum.inr ("kept":Str):Key)=Sum.inr ("marks":Str)):=by decide+kernel
theorem k_M (room:Int) (kd mk:Addr):d_u (e_F room kd mk) (Sum.inr "room")=some (.int room):=b_O rfl
theorem k_J (room:Int) (kd mk:Addr):d_u (e_F room kd mk) (Sum.inr "kept")=some (.ref kd):=(b_q p_9).trans (b_O rfl)
theorem j_S (room:Int) (kd mk:Addr):d_u (e_F room kd mk) (Sum.inr "marks")=some (.ref mk):=(b_q q_s).trans ((b_q q_u).trans (b_O rfl))
theorem k_O {H:Hp} {st kd mk:Addr} {room:Int} (h:H st=some (.dK (e_F room kd mk))):DGet H st (.str "room") (some (.int room)):=k_M room kd mk ▸ DGet.k (k:=Sum.inr "room") h
theorem b_N {H:Hp} {st kd mk:Addr} {room:Int} (h:H st=some (.dK (e_F room kd mk))):DGet H st (.str "kept") (some (.ref kd)):=k_J room kd mk ▸ DGet.k (k:=Sum.inr "kept") h
theorem c_w {H:Hp} {st kd mk:Addr} {room:Int} (h:H st=some (.dK (e_F room kd mk))):DGet H st (.str "marks") (some (.ref mk)):=j_S room kd mk ▸ DGet.k (k:=Sum.inr "marks") h
theorem c_S {H:Hp} {d:Addr} {kvs:List (Key×V)} {n:Int} (h:H d=some (.dK kvs)):DGet H d (.int n) (d_u kvs (Sum.inl n)):=DGet.k (k:=Sum.inl n) h
theorem l_w {H:Hp} {d:Addr} {kvs:List (Key×V)} {o:HO} (h:H d=some (.dK kvs)):∀b xs,H b=some (.tup xs)->(upd H d o) b=some (.tup xs):=λb xs e=>by
 rw[a_i (λq=>by rw[q,h] at e;cases e)]
 exact e
theorem m_I {H:Hp} {o:HO} (d:Addr):∀b u,H b=some u->b≠d->(upd H d o) b=some u:=λb u e hn=>by rw[a_i hn];exact e
section
variable {P:Program} {w:World} {K:PySem.W.Frag} {mg:Str->Option Value} {base:Heap}
def d_Z:Sp:=λvs H Q _=>∃(st kd mk a:Addr) (room:Int) (l:List Row) (c:Chg),vs= [.ref st,.ref a]/\H st=some (.dK (e_F room kd mk))/\KeptAt H kd l/\ChgAt H a c/\l.length<=1000/\
 ∀H',KeptAt H' kd (b_f room l c).1->(∀b u,H b=some u->b≠kd->H' b=some u)->Q (.str (b_f room l c).2) H'
theorem f_8:a_s ["_law_store","_law_deed","_law_kept"] ["_law_store","_law_deed"] (a_m f_n):=⟨rfl,rfl,rfl,by decide+kernel,rfl,by decide+kernel,by decide+kernel⟩
theorem i_e {f:Addr} {fd:FuncData} (F:Fun K "_law_changed" "_law_changed" f_n f fd) (B:Bt mg):FnOk P w K mg base CX0 1 f fd ["_law_store","_law_deed"] d_Z:=by
 refine F.ok f_8 (λvs H Q E h=> ?_) (λcdv A outer s H vs Q E hr h=> ?_)
 ·obtain⟨st,kd,mk,a,room,l,c,rfl,_⟩:=h
  rfl
 ·obtain⟨st,kd,mk,a,room,l,c,rfl,hst,⟨rs,hk,hR⟩,hc,hl,fin⟩:=h
  have hu1:=e_G hr
  refine⟨_,(a_c (a_w (i:=2) f_8.nd rfl (Or.inl rfl) (b_j hu1 (pv 0) a_l (λ_ _=>rfl)))
   (a_c (a_C (a_k a_H (a_r a_p (pv 1) a_f (λ_ _=>rfl)) a_l (a_o _)) (a_c (a_C (d_y (l_Q hu1 (a_r a_p (a_r a_p (pv 1) a_f (λ_ _=>rfl)) a_f (λ_ _=>rfl)) (pv 2))) (a_g (a_n a_l)) a_q)
   (a_c (a_C (a_k i_W (a_y f_G (by rfl) B.len r_V (a_a (pv 2) a_d)) (b_j hu1 (pv 0) a_l (λ_ _=>rfl)) (a_o _)) (a_g (a_n a_l)) a_q)
   (a_g (d_9 hu1 (pv 2) (a_r a_p (a_r a_p (pv 1) a_f (λ_ _=>rfl)) a_f (λ_ _=>rfl)) (a_r a_p (pv 1) a_f (λ_ _=>rfl)) rfl)))) (a_g (a_C (a_k a_H (a_r a_p (pv 1) a_f (λ_ _=>rfl)) a_l (a_o _)) (a_c (a_C (d_y (c_6 hu1 (a_r a_p (a_r a_p (pv 1) a_f (λ_ _=>rfl)) a_f (λ_ _=>rfl)) (pv 2))) (a_g (a_n a_l)) a_q)
   (a_g (d_9 hu1 (pv 2) (a_r a_p (a_r a_p (pv 1) a_f (λ_ _=>rfl)) a_f (λ_ _=>rfl)) (a_r a_p (pv 1) a_f (λ_ _=>rfl)) rfl))) (a_c (a_C (d_y (c_6 hu1 (a_r a_p (pv 1) a_f (λ_ _=>rfl)) (pv 2))) (a_g (a_n a_l)) a_q)
   (a_g (a_z (h_T (pv 2) (a_r a_p (pv 1) a_f (λ_ _=>rfl)) ⟨rfl,rfl,rfl,rfl⟩)))))))
   (a_g (a_n a_l)))),?_⟩
  have hkz:(a_L rs l).length < sizeLine:=by rw[c_O hR];exact a_G hl
  refine⟨_,rfl,st,_,rfl,b_N hst,?_⟩
  have same:∀b u,H b=some u->b≠kd->H b=some u:=λb u h _=>h
  cases c with
  | bring ρ=>
    obtain⟨r,h1,hρ⟩:=hc
    obtain⟨v1,v2⟩:=b_U (n:=ρ.n) hR
    refine⟨_,rfl,a,_,_,_,rfl,rfl,SqT.of h1,a_e (j:=0) rfl,rfl,_,rfl,a_x (λ_=> ?_) (λq=>absurd (r_S rfl) q)⟩
    refine⟨_,rfl,a,_,_,_,rfl,rfl,SqT.of h1,a_e (j:=1) rfl,r,_,_,_,rfl,rfl,SqT.of hρ,a_e (j:=0) rfl,_,rfl,kd,_,rfl,c_S hk,_,rfl,?_⟩
    rw[v1]
    refine a_x (λc1=> ?_) (λc1=> ?_)
    ·have e:b_f room l (.bring ρ)=(l,("taken":Str)):=by simp[b_f,c1]
     have:=fin H
     rw[e] at this
     exact this ⟨rs,hk,hR⟩ same
    refine⟨_,rfl,kd,_,rfl,hk,_,rfl,st,_,rfl,k_O hst,_,_,rfl,rfl,_,rfl,?_⟩
    refine a_x (λc2=> ?_) (λc2=> ?_)
    ·have c2':room<=(l.length:Int):=by have:=r_U c2;rw[c_O hR] at this;exact this
     have e:b_f room l (.bring ρ)=(l,("full":Str)):=by simp[b_f,c1,c2']
     have:=fin H
     rw[e] at this
     exact this ⟨rs,hk,hR⟩ same
    have c2':¬ room<=(l.length:Int):=λq=>c2 (r_S (by rw[c_O hR];exact q))
    obtain⟨rs',e1,e2⟩:=g_1 hρ hR
    refine⟨_,rfl,a,_,_,_,rfl,rfl,SqT.of h1,a_e (j:=1) rfl,_,rfl,_,rfl,a,_,_,_,rfl,rfl,SqT.of h1,a_e (j:=1) rfl,r,_,_,_,rfl,rfl,SqT.of hρ,a_e (j:=0) rfl,kd,_,rfl,DPut.k (k:=Sum.inl ρ.n) hk hkz,?_⟩
    have e:b_f room l (.bring ρ)=(c_e l ρ,("done":Str)):=by simp only[b_f,if_neg c1,if_neg c2']
    have:=fin (upd H kd (.dK (d_k (a_L rs l) (Sum.inl ρ.n) (V.ref r))))
    rw[e] at this
    exact this ⟨rs',by rw[e1];exact a_b,e2.same (l_w hk)⟩ (m_I kd)
  | alter ρ=>
    obtain⟨r,h1,hρ⟩:=hc
    obtain⟨v1,v2⟩:=b_U (n:=ρ.n) hR
    refine⟨_,rfl,a,_,_,_,rfl,rfl,SqT.of h1,a_e (j:=0) rfl,rfl,_,rfl,a_x (λq=>absurd q (by decide+kernel)) (λ_=> ?_)⟩
    refine⟨_,rfl,a,_,_,_,rfl,rfl,SqT.of h1,a_e (j:=0) rfl,rfl,_,rfl,a_x (λ_=> ?_) (λq=>absurd (r_S rfl) q)⟩
    refine⟨_,rfl,a,_,_,_,rfl,rfl,SqT.of h1,a_e (j:=1) rfl,r,_,_,_,rfl,rfl,SqT.of hρ,a_e (j:=0) rfl,_,rfl,kd,_,rfl,c_S hk,_,rfl,?_⟩
    rw[v1]
    refine a_x (λc1=> ?_) (λc1=> ?_)
    ·have c1':¬ b_s l ρ.n=true:=λq=>by rw[q] at c1;cases c1
     have e:b_f room l (.alter ρ)=(l,("missing":Str)):=by simp only[b_f,if_neg c1']
     have:=fin H
     rw[e] at this
     exact this ⟨rs,hk,hR⟩ same
    have c1':b_s l ρ.n=true:=by
     cases q:b_s l ρ.n with
     | true=>rfl
     | false=>rw[q] at c1;exact absurd rfl c1
    obtain⟨rs',e1,e2⟩:=g_1 hρ hR
    refine⟨_,rfl,a,_,_,_,rfl,rfl,SqT.of h1,a_e (j:=1) rfl,_,rfl,_,rfl,a,_,_,_,rfl,rfl,SqT.of h1,a_e (j:=1) rfl,r,_,_,_,rfl,rfl,SqT.of hρ,a_e (j:=0) rfl,kd,_,rfl,DPut.k (k:=Sum.inl ρ.n) hk hkz,?_⟩
    have e:b_f room l (.alter ρ)=(c_e l ρ,("done":Str)):=by simp only[b_f,if_pos c1']
    have:=fin (upd H kd (.dK (d_k (a_L rs l) (Sum.inl ρ.n) (V.ref r))))
    rw[e] at this
    exact this ⟨rs',by rw[e1];exact a_b,e2.same (l_w hk)⟩ (m_I kd)
  | cut n=>
    obtain⟨v1,v2⟩:=b_U (n:=n) hR
    refine⟨_,rfl,a,_,_,_,rfl,rfl,SqT.of hc,a_e (j:=0) rfl,rfl,_,rfl,a_x (λq=>absurd q (by decide+kernel)) (λ_=> ?_)⟩
    refine⟨_,rfl,a,_,_,_,rfl,rfl,SqT.of hc,a_e (j:=0) rfl,rfl,_,rfl,a_x (λq=>absurd q (by decide+kernel)) (λ_=> ?_)⟩
    refine⟨_,rfl,a,_,_,_,rfl,rfl,SqT.of hc,a_e (j:=1) rfl,_,rfl,kd,_,rfl,c_S hk,_,rfl,?_⟩
    rw[v1]
    refine a_x (λc1=> ?_) (λc1=> ?_)
    ·have c1':¬ b_s l n=true:=λq=>by rw[q] at c1;cases c1
     have e:b_f room l (.cut n)=(l,("missing":Str)):=by simp only[b_f,if_neg c1']
     have:=fin H
     rw[e] at this
     exact this ⟨rs,hk,hR⟩ same
    have c1':b_s l n=true:=by
     cases q:b_s l n with
     | true=>rfl
     | false=>rw[q] at c1;exact absurd rfl c1
    obtain⟨rs',e1,e2⟩:=f_d (n:=n) hR
    obtain⟨r,ρ,g1,_⟩:=v2 c1'
    refine⟨_,rfl,kd,rfl,.inl ⟨_,.inl hk⟩,_,rfl,a,_,_,_,rfl,rfl,SqT.of hc,a_e (j:=1) rfl,_,Sum.inl n,_,hk,rfl,g1,?_⟩
    have e:b_f room l (.cut n)=(b_a l n,("done":Str)):=by simp only[b_f,if_pos c1']
    have:=fin (upd H kd (.dK (d_s (a_L rs l) (Sum.inl n))))
    rw[e] at this
    exact this ⟨rs',by rw[e1];exact a_b,e2.same (l_w hk)⟩ (m_I kd)
end
end K1
namespace L2
open PySem PySem.Spec PyProof.Rows
section
variable {X:Cx}
def n_X:V->List V->Hp->VK->Prop:=λx vs H Q=>∃a kvs,x= .ref a/\vs= []/\H a=some (.dK kvs)/\∀p,H p=none->Q (.ref p) (upd H p (.dK kvs))
theorem h_s:MtM X "dict.copy" n_X:=by
 intro pins s σ H x vs v us Q I rx rv h
 obtain⟨a,kvs,rfl,rfl,hH,q⟩:=h
 cases rx
 cases rv
 obtain⟨z,hd,ws,rel,dd⟩:=i_j I.hok hH
 refine call_meetsIn PySem.F.slot_dict_copy dd.typeIs PySem.F.entry_dict_copy (PySem.F.args_dict_copy_1 _) (meets_dict_copy (a_W X.prog X.w) a hd) ⟨ws,dd,by rw[<-rel.length];exact z,λh' d1 d2 hs=> ?_⟩
 exact⟨.ref s.heap.objs.size,_,I.laid (a:=s.heap.objs.size) (o:= .dK kvs) (t':=s.toks) hs (r_l _) (f_Q z (beq_eq_false_iff_ne.mpr (Ne.symm (r_A I.big))) rel d1),rfl,q _ (I.hok.fresh (r_l _))⟩
end
end L2
namespace K1
open PySem L2 TO
section
variable {P:Program} {w:World} {K:PySem.W.Frag} {mg:Str->Option Value} {base:Heap}
def e_U:Sp:=λvs H Q _=>∃room,vs= [.int room]/\∀(st kd mk:Addr) (H':Hp),H st=none->H kd=none->H mk=none-> [st,kd,mk].Nodup->Same H H'->H' st=some (.dK (e_F room kd mk))->H' kd=some (.dK [])->H' mk=some (.lst [])->Q (.ref st) H'
def c_l:Sp:=λvs H Q _=>∃(st kd mk la:Addr) (as:List Addr) (room:Int) (l:List Row) (cs:List Chg),vs= [.ref st,.ref la]/\H st=some (.dK (e_F room kd mk))/\KeptAt H kd l/\H la=some (.lst (as.map V.ref))/\Paired (ChgAt H) as cs/\cs.length+l.length<=1000/\kd≠st/\
 ∀(v:V) (kd':Addr) (H':Hp),H' st=some (.dK (e_F room kd' mk))->KeptAt H' kd' (c_i room l 0 l cs).1->(kd'=kd\/H kd'=none)->(∀b u,H b=some u->b≠kd->b≠st->H' b=some u)->Bears H' (c_i room l 0 l cs).2 v->Q v H'
theorem b_P:a_s ["_law_store","_law_deeds","_law_before","_law_place","_law_told"] ["_law_store","_law_deeds"] (a_m c_T):=⟨rfl,rfl,rfl,by decide+kernel,rfl,by decide+kernel,by decide+kernel⟩
theorem q_Z:¬ ((Sum.inr ("marks":Str):Key)=Sum.inr ("kept":Str)):=by decide+kernel
theorem j_x (room:Int) (kd mk bd:Addr):d_k (e_F room kd mk) (Sum.inr ("kept":Str)) (.ref bd)=e_F room bd mk:=by
 unfold d_k e_F
 simp only[List.any_cons,r_r,List.map_nil,if_neg p_9,if_neg q_Z,if_true,decide_true,Bool.true_or,Bool.or_true]
theorem n_o (l:List Row) (ρ:Row):(c_e l ρ).length<=l.length+1:=by
 unfold c_e
 split <;> simp
theorem n_B (room:Int) (l:List Row) (c:Chg):(b_f room l c).1.length<=l.length+1:=by
 cases c <;> unfold b_f <;> (repeat' split) <;> first | exact Nat.le_succ _ | exact n_o _ _ | exact Nat.le_succ_of_le (r_N _ _)
theorem f_u {f fCd:Addr} {fd fdCd:FuncData} (F:Fun K "_law_all_changed" "_law_all_changed" c_T f fd) (B:Bt mg) (gCd:Gf K mg "_law_changed" fCd fdCd ["_law_store","_law_deed"]) (GCd:FnOk P w K mg base CX0 1 fCd fdCd ["_law_store","_law_deed"] d_Z):FnOk P w K mg base CX0 2 f fd ["_law_store","_law_deeds"] c_l:=by
 refine F.ok b_P (λvs H Q E h=> ?_) (λcdv A outer s H vs Q E hr h=> ?_)
 ·obtain⟨st,kd,mk,la,as,room,l,cs,rfl,_⟩:=h
  rfl
 ·obtain⟨st,kd,mk,la,as,room,l,cs,rfl,hst,hk,hla,hC,hsz,hks,fin⟩:=h
  have hu1:=e_G hr
  have hr1:Room 1 _:=hr.mono (by decide)
  refine⟨_,(a_c (a_w (i:=2) b_P.nd rfl (Or.inl rfl) (e_p PySem.F.plainAttrs_dict PySem.F.slot_dict_copy PySem.F.type_dict_copy h_s (b_j hu1 (pv 0) a_l (λ_ _=>rfl))))
   (a_c (c_g PassesOwn.never rfl (b_L rfl B.range (a_a (a_y a_v (by rfl) B.len r_V (a_a (pv 1) a_d)) a_d)) (b_d (i:=3) b_P.nd rfl (Or.inl rfl))
   (a_c (a_w (i:=4) b_P.nd rfl (Or.inl rfl) (a_j GCd hr1 rfl gCd.mg gCd.kp gCd.b .nil a_u (a_a (pv 0) (a_a (a_r a_M (pv 1) (pv 3) (λ_ _=>rfl)) a_d))))
   (a_g (a_C (a_k d_D (pv 4) a_l (a_o _)) (a_c (d_9 hu1 (pv 0) a_l (pv 2) rfl)
   (a_g (a_n (a_J (a_a (pv 3) (a_a (pv 4) a_d)))))) a_q))))
   (a_g (a_n a_l)))),?_⟩
  obtain⟨rs,hkd,hR⟩:=id hk
  have hal:=Paired.length hC
  refine⟨_,rfl,st,_,rfl,b_N hst,.inr (.inr (.inl ⟨rfl,.inl ⟨_,hkd⟩⟩)),kd,_,rfl,rfl,hkd,λbd hbd=> ?_⟩
  have s1:Same H (upd H bd (.dK (a_L rs l))):=Same.upd_new hbd
  have hbk:bd≠kd:=(a_h hkd hbd).symm
  have hbs:bd≠st:=(a_h hst hbd).symm
  have hB1:KeptAt (upd H bd (.dK (a_L rs l))) bd l:=⟨rs,a_b,hR.same λb xs q=>s1 _ _ q⟩
  have hn:((((as.map V.ref).length:Nat):Int)).toNat=cs.length:=by rw[r_c];omega
  refine⟨_,rfl,la,_,rfl,.inl (SqL.of (s1 _ _ hla)),_,rfl,by omega,by rw[r_c];omega,b_X (lo:=0) (n:=((((as.map V.ref).length:Nat):Int)).toNat) (λi σ Hx=>∃(li:List Row) (v3 v4:Option V),σ= [some (.ref st),some (.ref la),some (.ref bd),v3,v4]/\c_i room l i li (cs.drop i)=c_i room l 0 l cs/\Hx st=some (.dK (e_F room kd mk))/\KeptAt Hx kd li/\KeptAt Hx bd l/\li.length<=l.length+i/\∀b u,H b=some u->b≠kd->Hx b=some u)
   ⟨l,none,none,rfl,rfl,s1 _ _ hst,KeptAt.same hk s1,hB1,by omega,λb u h _=>s1 _ _ h⟩ ?_ ?_⟩
  ·rintro i σ Hx hi ⟨li,v3,v4,rfl,hA,hst',hk',hb',hli,kp⟩
   rw[hn] at hi
   obtain⟨c,hc⟩:∃c,cs[i]? =some c:=⟨_,r_d hi⟩
   obtain⟨a,ea,hca⟩:=a_T hC hc
   have hkl:la≠kd:=λe=>by rw[e,hkd] at hla;cases hla
   have ga:(as.map V.ref)[i]? =some (V.ref a):=by rw[r_o,ea];rfl
   have gi:atI (as.map V.ref) (0+(i:Int))=some (V.ref a):=by rw[Int.zero_add];exact a_e ga
   obtain⟨rs',hkx,hRx⟩:=id hk'
   have hcx:ChgAt Hx a c:=hca.mono λb xs q=>kp _ _ q λe=>by rw[e,hkd] at q;cases q
   refine⟨_,rfl,_,rfl,_,rfl,la,_,_,_,rfl,rfl,SqL.of (kp _ _ hla hkl),gi,st,kd,mk,a,room,li,c,rfl,hst',hk',hcx,by omega,λH2 k2 s2=> ?_⟩
   have ed:cs.drop i=c::cs.drop (i+1):=by
    rw[List.drop_eq_getElem_cons hi]
    have:=(r_q.mp hc).2
    rw[this]
   have hst2:=s2 _ _ hst' hks.symm
   have hb2:KeptAt H2 bd l:=KeptAt.but hb' hkx hbk s2
   have kp2:∀b u,H b=some u->b≠kd->H2 b=some u:=λb u h hn=>s2 _ _ (kp _ _ h hn) hn
   have hle:=n_B room li c
   rw[ed] at hA
   refine⟨_,rfl,rfl,_,rfl,a_x (λq=> ?_) (λq=> ?_)⟩
   ·have hq:¬ (b_f room li c).2="done":=λe=>by rw[e] at q;exact absurd q (by decide+kernel)
    refine⟨_,rfl,_,rfl,st,_,rfl,DPut.k (k:=Sum.inr ("kept":Str)) hst2 (by show 3 < sizeLine;decide),?_⟩
    rw[j_x]
    refine⟨_,rfl,_,rfl,by show 2<=sizeLine;decide,λt ht=> ?_⟩
    have s3:=Same.upd_new (o:= .tup [V.int (0+(i:Int)),V.str (b_f room li c).2]) ht
    have eA:c_i room l 0 l cs=(l,D.tup [.int (i:Int),.str (b_f room li c).2]):=by
     rw[<-hA]
     simp only[c_i,if_neg hq]
    have f:=fin (.ref t) bd (upd (upd H2 st (.dK (e_F room bd mk))) t (.tup [V.int (0+(i:Int)),V.str (b_f room li c).2]))
    rw[eA] at f
    obtain⟨rb,hbd2,hRb2⟩:=id hb2
    have hb3:KeptAt (upd H2 st (.dK (e_F room bd mk))) bd l:=⟨rb,by rw[a_i hbs];exact hbd2,hRb2.same (l_w hst2)⟩
    refine f (s3 _ _ a_b) (KeptAt.same hb3 s3) (.inr hbd) (λb u h h1 h2=>s3 _ _ (by rw[a_i h2];exact kp2 _ _ h h1)) ?_
    refine .tup a_b (.cons ?_ (.cons (.str _) .nil))
    rw[Int.zero_add]
    exact .int _
   ·have hq:(b_f room li c).2="done":=by
     cases e:decide ((b_f room li c).2=("done":Str)) with
     | true=>exact r_U e
     | false=>
       exfalso
       apply q
       have:¬ V.str (b_f room li c).2=V.str "done":=λz=>(of_decide_eq_false e) (by injection z)
       rw[r_T this];rfl
    refine⟨(b_f room li c).1,_,_,rfl,?_, hst2,k2,hb2,by omega,kp2⟩
    rw[<-hA]
    simp only[c_i,if_pos hq]
  ·rintro σ Hx ⟨li,v3,v4,rfl,hA,hst',hk',hb',hli,kp⟩
   rw[hn,List.drop_of_length_le (r_l _)] at hA
   have f:=fin (.str "done") kd Hx
   rw[<-hA] at f
   exact f hst' hk' (.inl rfl) (λb u h h1 _=>kp _ _ h h1) (.str _)
theorem h_4:a_s ["_law_room"] ["_law_room"] (a_m d_V):=⟨rfl,rfl,rfl,by decide+kernel,rfl,by decide+kernel,by decide+kernel⟩
theorem o_s (x y z:V):e_g [] [((Sum.inr ("room":Str):Key),x),(Sum.inr ("kept":Str),y),(Sum.inr ("marks":Str),z)]= [(Sum.inr ("room":Str),x),(Sum.inr ("kept":Str),y),(Sum.inr ("marks":Str),z)]:=by
 have e1:d_k ([]:List (Key×V)) (Sum.inr ("room":Str)) x= [(Sum.inr ("room":Str),x)]:=d_O _ rfl
 have e2:d_k [((Sum.inr ("room":Str):Key),x)] (Sum.inr ("kept":Str)) y= [(Sum.inr ("room":Str),x),(Sum.inr ("kept":Str),y)]:=d_O _ (b_q p_9)
 have e3:d_k [((Sum.inr ("room":Str):Key),x),(Sum.inr ("kept":Str),y)] (Sum.inr ("marks":Str)) z= [(Sum.inr ("room":Str),x),(Sum.inr ("kept":Str),y),(Sum.inr ("marks":Str),z)]:=d_O _ ((b_q q_s).trans (b_q q_u))
 simp only[e_g,List.foldl_cons,List.foldl_nil,e1,e2,e3]
theorem g_Z {f:Addr} {fd:FuncData} (F:Fun K "_law_new_store" "_law_new_store" d_V f fd):FnOk P w K mg base CX0 1 f fd ["_law_room"] e_U:=by
 refine F.ok h_4 (λvs H Q E h=> ?_) (λcdv A outer s H vs Q E hr h=> ?_)
 ·obtain⟨room,rfl,_⟩:=h
  rfl
 ·obtain⟨room,rfl,fin⟩:=h
  refine⟨_,(a_g (a_n (m_i (f_y a_l (pv 0) (f_y a_l h_L (f_y a_l (a_U a_d) n_C))) rfl rfl (by simp) (by decide)))),?_⟩
  intro st hst
  refine⟨_,rfl,λkd hkd=>⟨by show 0<=sizeLine;decide,λmk hmk=> ?_⟩⟩
  have s1:Same H (upd H st (.dK [])):=Same.upd_new hst
  have s2:=Same.upd_new (o:= .dK []) hkd
  have s3:=Same.upd_new (o:= .lst []) hmk
  have n1:st≠kd:=a_h a_b hkd
  have n2:st≠mk:=a_h (s2 _ _ a_b) hmk
  have n3:kd≠mk:=a_h a_b hmk
  refine⟨s3 _ _ (s2 _ _ a_b), [(Sum.inr ("room":Str),.int room),(Sum.inr ("kept":Str),.ref kd),(Sum.inr ("marks":Str),.ref mk)],rfl,by show 3<=15;decide,?_⟩
  rw[o_s]
  refine fin st kd mk _ hst (s1.free hkd) (s1.free (s2.free hmk)) (by simp[n1,n2,n3]) (λb u h=> ?_) a_b (by rw[a_i n1.symm];exact s3 _ _ a_b) (by rw[a_i n2.symm];exact a_b)
  rw[a_i (a_h h hst)]
  exact s3 _ _ (s2 _ _ (s1 _ _ h))
def l_V:Sp:=λvs H Q _=>∃(lo v hi:V),vs= [lo,v,hi]/\b_g lo v=true/\b_g v hi=true/\Q (.bl (!ltV v lo&& !ltV hi v)) H
theorem o_H:a_s ["_law_low","_law_value","_law_high"] ["_law_low","_law_value","_law_high"] (a_m m_n):=⟨rfl,rfl,rfl,by decide+kernel,rfl,by decide+kernel,by decide+kernel⟩
theorem n_A {f:Addr} {fd:FuncData} (F:Fun K "_law_lies" "_law_lies" m_n f fd):FnOk P w K mg base CX0 1 f fd ["_law_low","_law_value","_law_high"] l_V:=by
 refine F.ok o_H (λvs H Q E h=> ?_) (λcdv A outer s H vs Q E hr h=> ?_)
 ·obtain⟨lo,v,hi,rfl,_⟩:=h
  rfl
 ·obtain⟨lo,v,hi,rfl,h1,h2,q⟩:=h
  refine⟨_,(a_g (a_n (j_u (b_W l_1 (pv 0) (pv 1) (a_o _)) (i_P (b_W l_1 (pv 1) (pv 2) (a_o _)))))),?_⟩
  refine⟨_,rfl,_,rfl,h1,_,rfl,a_x (λc=> ?_) (λc=> ?_)⟩
  ·refine⟨_,rfl,_,rfl,h2,?_⟩
   have c':(!ltV v lo)=true:=c
   rw[c',Bool.true_and] at q
   exact q
  ·have c':(!ltV v lo)=false:=by
    cases e:(!ltV v lo) with
    | false=>rfl
    | true=>exact absurd e c
   rw[c',Bool.false_and] at q
   exact q
end
end K1
namespace L2
open PySem PySem.Spec PyProof.Rows
structure f_j (X:Cx) (scope:Scope) (x x2:Str) (fns:List Str) (js:List Nat):Prop where
 kind:scope.kind= .function
 nocell:∀y∈scope.names,y.2≠ .cell
 locs:∀y∈scope.names,y.2= .local->scope.names.lookup y.1=some .local
 loc:scope.names.lookup x=some .local
 loc2:scope.names.lookup x2=some .local
 free:∀y∈scope.names,y.2= .free->y.1∈fns
 isfree:∀y∈fns,scope.names.lookup y=some .free
 clos:closureFor scope X.env=pure (k_Z X.env fns)
 mine:∀y∈fns,X.env.kindOf y=some .cell
 js:js.map (λj=>X.N[j]?)=fns.map some
 nd:(x::x2::fns).Nodup
section
variable {X:Cx} {scope:Scope} {x x2:Str} {fns:List Str} {js:List Nat} {pins:List (Addr×Obj)} {σ:St} {H:Hp} {s:Shared} {fp:List Addr}
def b_V (σ:St) (js:List Nat) (v v2:Option V):St:=v::v2::js.map λj=>(σ[j]?).join
theorem h_9 (S:f_j X scope x x2 fns js) (I:Inv X pins σ H s) (hf:∀b∈fp,f_z X pins H b) (ho:∀b∈fp,b < s.heap.objs.size):(a_V X scope fns (x::x2::fns) fp pins s H).Ok where
 mod:=I.ok.mod
 kind:=S.kind
 glob:=I.ok.glob
 blt:=I.ok.blt
 above:=r_l _
 inj:=λy z c h1 h2=>I.ok.inj y z c (a_7 h1).1 (a_7 h2).1
 has:=λy hy=>by
  have hy':y∈fns:=by
   rcases hy with hy | hy
   ·exact S.free _ (c_d (PySem.mem_of_lookup hy) (.inl rfl) S.nocell) rfl
   ·exact S.free _ (c_d (PySem.mem_of_lookup hy) (.inr rfl) S.nocell) rfl
  obtain⟨c,hc⟩:=I.ok.has y (.inl (S.mine y hy'))
  exact⟨c,c_7 hy' hc⟩
 cab:=λ_ _ h=>nomatch h
 hd:=I.ok.hd
 frames:=I.ok.frames
 stk:= .inl rfl
 exf:=λb hb=>⟨r_A (ho b hb),λy c e=>(hf b hb).2.2.2.2.1 y c (a_7 e).1⟩
 bs:=I.bs
 bsz:=r_x I.ok.bsz I.sz
 noex:=λb o e hb=>by
  rcases (hf b hb).2.2.2.1 with z | z
  ·exact I.ok.noex b o e z
  ·exact absurd (r_s (r_s (Heap.lt_size e) I.ok.bsz) z) (Nat.lt_irrefl _)
 exfs:=λb hb hs=>by
  rcases r_n.mp (I.stkSub b hs) with z | z
  ·exact (hf b hb).2.1 z
  ·exact (hf b hb).2.2.1 z
 funs:=I.stack
 frf:=I.stkFree
theorem g_w (S:f_j X scope x x2 fns js) (I:Inv X pins σ H s) (hf:∀b∈fp,f_z X pins H b) (ho:∀b∈fp,b < s.heap.objs.size) {h₁:Heap} {m:Str->Option Value} {tk:Nat} (hn:h₁.Ns s.heap.objs.size m)
 (hk:∀b o,s.heap.get? b=some o->h₁.get? b=some o):Inv (a_V X scope fns (x::x2::fns) fp pins s H) [] (b_V σ js none none) H { s with heap:=h₁,toks:=tk }:=by
 have K1:HOk X.prog X.w H h₁:=I.hok.kept hk
 refine⟨h_9 S I hf ho,rfl,I.bare,Un.kept hk,⟨m,hn,λi y v e1 e2 _=> ?_⟩,λy c e=> ?_, I.hok.fresh (r_l _),λy c e=>I.freeC y c (a_7 e).1,λp hp=> ?_, K1,?_⟩
 ·cases i with
  | zero=>cases e2
  | succ i=>
    cases i with
    | zero=>cases e2
    | succ i=>
      have e1':fns[i]? =some y:=e1
      have e2':(js.map λj=>(σ[j]?).join)[i]? =some (some v):=e2
      rw[r_o] at e2'
      cases ej:js[i]? with
      | none=>rw[ej] at e2';cases e2'
      | some j=>
        rw[ej] at e2'
        have e3:(σ[j]?).join=some v:=r_j e2'
        have e4:σ[j]? =some (some v):=by
         cases q:σ[j]? with
         | none=>rw[q] at e3;cases e3
         | some o=>rw[q] at e3;exact congrArg some e3
        have e5:X.N[j]? =some y:=by
         have q:=congrArg (λl=>l[i]?) S.js
         simp only[r_o,ej,e1',Option.map_some] at q
         exact r_j q
        have hy:y∈fns:=r_C e1'
        obtain⟨m',_,hl⟩:=I.loc
        obtain⟨u,r,l⟩:=hl j y v e5 e4 (.inr (.inl (S.mine y hy)))
        refine⟨u,r,.inr ⟨.inl (b_m I.ok.kind (S.isfree y hy) (S.mine y hy)),?_⟩⟩
        rcases l with⟨k,_⟩ | ⟨k,c,ec,oc,hoc,hd⟩
        ·rw[S.mine y hy] at k;cases k
        ·exact⟨c,c_7 hy ec,oc,hk _ _ hoc,hd⟩
 ·obtain⟨v,o,ho,hd⟩:=I.cell y c (a_7 e).1
  exact⟨v,o,hk _ _ ho,hd⟩
 ·have hp':p∈X.pn++pins:=by rw[r_J] at hp;exact hp
  obtain⟨e,n,ne,nf,d⟩:=I.pin p hp'
  refine⟨hk _ _ e,n,r_A (Heap.lt_size e),λz=> ?_, d⟩
  rcases r_n.mp (I.stkSub p.1 z) with q | q
  ·exact ne q
  ·exact nf q
 ·unfold b_V
  have:=congrArg List.length S.js
  simp only[r_c] at this
  simp only[r_i,r_c,this,a_V]
theorem g_k (I:Inv X pins σ H s) (hf:∀b∈fp,f_z X pins H b) {σ':St} {H':Hp} {s':Shared} {pins':List (Addr×Obj)} (J:Inv (a_V X scope fns (x::x2::fns) fp pins s H) pins' σ' H' s'):Inv X pins σ H' s':=
 I.call' (ch:=fp) J.os J.base J.hok J.bare λb hb=>⟨(hf b hb).2.2.2.1,(hf b hb).2.1,(hf b hb).2.2.2.2.1,(hf b hb).2.2.2.2.2⟩
end
def j_F (J:It) (D:Addr) (σ:St) (js:List Nat) (tt:TT) (te:TE) (QQ:Hp->Prop) (W:Nat->Nat->Hp->Prop):Prop:=
 ∀i m H,W i m H->(J.stop i H/\QQ H)\/(J.go i H/\∃(N1:V->Hp->Prop) (N0:Hp->Prop),
  (∀y H3,N1 y H3->∃ys,H3 D=some (.lst ys)/\ys.length < sizeLine/\∃m',m' < m/\W (i+1) m' (upd H3 D (.lst (ys++ [y]))))/\(∀H2,N0 H2->∃m',m' < m/\W (i+1) m' H2)/\
  ∀v H',J.yld i H v H'->∃t a b',v=V.ref t/\H' t=some (.tup [a,b'])/\tt (b_V σ js (some a) (some b')) H' λb H2=>if b=true then te (b_V σ js (some a) (some b')) H2 N1 else N0 H2)
section
variable {X:Cx} {scope:Scope} {x x2:Str} {fns:List Str} {js:List Nat} {pins:List (Addr×Obj)} {σ:St} {H:Hp} {s:Shared} {elt iter:Expr} {px py pt pos pos':Pos} {kt:Nat} {ifs:List Expr} {wi:TI} {tt:TT} {te:TE}
theorem i_c {use:Option (Value->Sem Unit)} {Qv:Value->Shared->Prop} {QQ:Addr->Hp->Prop} (hc:X.calm=true) (S:f_j X scope x x2 fns js) (hi:PI X (.Tuple [.Name x px,.Name x2 py] kt pt) iter wi)
 (ht:∀fp pins s H,n_K (a_V X scope fns (x::x2::fns) fp pins s H) ifs tt) (he:∀fp pins s H,PE (a_V X scope fns (x::x2::fns) fp pins s H) elt te) (I:Inv X pins σ H s)
 (h:wi σ H λJ H1=>∀D,H1 D=none->∃W:Nat->Nat->Hp->Prop,(∃m,W 0 m (upd H1 D (.lst [])))/\j_F J D σ js tt te (QQ D) W)
 (fin:∀D C H5 s5 m5,Inv X pins σ H5 s5->f_z X pins H5 C->s5.heap.Ns C m5->QQ D H5->compPost (model X.prog X.w) X.A X.xe use Qv (.ref D) C (.ok .next) s5)
 (hs:∀x,foldedSetIterable iter X.env x=pure x:=by intro _;rfl):
 wpAny (model X.prog X.w) X.A (comprehension (.ListComp elt [⟨.Tuple [.Name x px,.Name x2 py] kt pt,iter,ifs,0⟩] scope pos) scope X.env pos' (newList []) false (eval iter X.env) use) Qv X.xe s:=by
 refine wpAny_comprehension_free (use:=use) rfl hs S.clos S.kind S.locs (thn (hi pins s σ H _ I h) λv s1 h1=>thn h1 λitv s2 h2=> ?_)
 obtain⟨it,fp,tn,J,H2,e,I2,T,st2,f2,hW⟩:=h2
 subst e
 obtain⟨W,⟨m0,w0⟩,turn⟩:=hW s2.heap.objs.size I2.fresh
 have I3:Inv X pins σ (upd H2 s2.heap.objs.size (.lst [])) { s2 with heap:=s2.heap.push { cls:= .type "list",data:= .seq ([]:List Value).toArray } }:=I2.lnew (t':=s2.toks) (its:= []) (ys:= []) .nil (r_E _)
 have lt2:∀b∈fp,b < s2.heap.objs.size:=λb hb=>by
  obtain⟨o,e,_⟩:=T.obj _ _ st2 b hb
  exact Heap.lt_size e
 have f3:∀b∈fp,f_z X pins (upd H2 s2.heap.objs.size (.lst [])) b:=λb hb=>⟨by rw[a_i (r_A (lt2 b hb))];exact (f2 b hb).1,(f2 b hb).2⟩
 have lt3:∀b∈fp,b < (s2.heap.push { cls:= .type "list",data:= .seq ([]:List Value).toArray }).objs.size:=λb hb=>by rw[Heap.size_push];exact Nat.lt_succ_of_lt (lt2 b hb)
 refine wpAny_newObj_type (wpAny_newFunctionEnv S.nocell (by intro y hy;simp at hy) (λh₁ hns₁ hsb₁=> ?_) S.kind)
 dsimp only at hns₁ hsb₁ ⊢
 have hk:∀b o,(s2.heap.push { cls:= .type "list",data:= .seq ([]:List Value).toArray }).get? b=some o->h₁.get? b=some o:=λb o e=>
  hsb₁.extBut b o (r_A (Heap.lt_size e)) (Heap.get?_push_of_some _ e)
 have J0:=g_w (tk:=s2.toks+([]:List (Str×Value)).length) S I3 f3 lt3 hns₁ hk
 have stat:∀{H':Hp},(∀b∈fp,H' b=none)->∀b∈fp,f_z (a_V X scope fns (x::x2::fns) fp pins { s2 with heap:=s2.heap.push { cls:= .type "list",data:= .seq ([]:List Value).toArray } } (upd H2 s2.heap.objs.size (.lst []))) [] H' b:=λhn b hb=>by
  refine⟨hn b hb,(J0.ok.exf b hb).1,J0.ok.exfs b hb,.inl hb,(J0.ok.exf b hb).2,λp hp=>(f3 b hb).2.2.2.2.2 p ?_⟩
  rw[r_J] at hp
  exact hp
 have fr0:∀b∈fp,(upd H2 s2.heap.objs.size (.lst [])) b=none:=λb hb=>(f3 b hb).1
 have st0:tn 0 h₁:=T.keep _ _ _ st2 λb hb o e=>hk b o (Heap.get?_push_of_some _ e)
 have loop:∀s₃:Shared,s₃={ s2 with heap:=h₁,toks:=s2.toks+([]:List (Str×Value)).length }->
  codeAny (model X.prog X.w) X.A (.compLoop (.ListComp elt [⟨.Tuple [.Name x px,.Name x2 py] kt pt,iter,ifs,0⟩] scope pos) 0 (.ref it) (.ref s2.heap.objs.size) (compEnvC scope (k_Z X.env fns) (s2.heap.push { cls:= .type "list",data:= .seq ([]:List Value).toArray }).objs.size X.env))
   (compPost (model X.prog X.w) X.A X.xe use Qv (.ref s2.heap.objs.size) (s2.heap.push { cls:= .type "list",data:= .seq ([]:List Value).toArray }).objs.size) s₃:=by
  rintro s₃ rfl
  refine d_z (λn s'=>∃i o o2 H',Inv (a_V X scope fns (x::x2::fns) fp pins { s2 with heap:=s2.heap.push { cls:= .type "list",data:= .seq ([]:List Value).toArray } } (upd H2 s2.heap.objs.size (.lst []))) [] (b_V σ js o o2) H' s'/\tn i s'.heap/\(∀b∈fp,H' b=none)/\W i n H') ?_ m0
   ⟨0,none,none,_,J0,st0,fr0,w0⟩
  rintro n s4 ⟨i,o,o2,H4,J4,st4,fr4,w4⟩
  rcases turn i n H4 w4 with⟨stop,qn⟩ | ⟨go,N1,N0,hN1,hN0,step⟩
  ·refine thn (T.done (a_V X scope fns (x::x2::fns) fp pins { s2 with heap:=s2.heap.push { cls:= .type "list",data:= .seq ([]:List Value).toArray } } (upd H2 s2.heap.objs.size (.lst []))) rfl rfl rfl hc i [] s4 _ H4 _ J4 (stat fr4) st4 stop) λr s5 ⟨hr,J5⟩=> ?_
   subst hr
   obtain⟨m5,hn5,_⟩:=id J5.loc
   have I5:=g_k I3 f3 J5
   exact fin _ _ H4 s5 m5 I5 ⟨J5.free,Nat.ne_of_gt (r_s I3.lt (r_l _)),I3.nofs (r_l _),.inr I3.sz,(I3.fpOk (r_l _) J5.free).2.2.2.2⟩ hn5 qn
  ·refine thn (T.item (a_V X scope fns (x::x2::fns) fp pins { s2 with heap:=s2.heap.push { cls:= .type "list",data:= .seq ([]:List Value).toArray } } (upd H2 s2.heap.objs.size (.lst []))) rfl rfl rfl hc i [] s4 _ H4 _ J4 (stat fr4) st4 go) λr s5 ⟨u,hr,h5⟩=> ?_
   subst hr
   refine thn h5 λ_ s6 ⟨v6,H6,J6,r6,y6,st6,fr6⟩=> ?_
   have J6':=J6.pinned (stat fr6) (T.obj _ _ st6)
   obtain⟨t6,a6,b6,e6,ht6,step'⟩:=step v6 H6 y6
   have pg:=o_S (X:=a_V X scope fns (x::x2::fns) fp pins { s2 with heap:=s2.heap.push { cls:= .type "list",data:= .seq ([]:List Value).toArray } } (upd H2 s2.heap.objs.size (.lst []))) (k:=kt) (pos:=pt) hc (h_q (b_d (pos:=px) (i:=0) (x:=x) S.nd rfl (.inl (lookup_relabel_local S.loc)) (.inr (lookup_relabel_local S.loc))) (h_q (b_d (pos:=py) (i:=1) (x:=x2) S.nd rfl (.inl (lookup_relabel_local S.loc2)) (.inr (lookup_relabel_local S.loc2))) n_u))
   refine thn (pg _ s6 _ H6 v6 u (λσ' H'=>σ'=b_V σ js (some a6) (some b6)/\H'=H6) J6' r6 ⟨t6,_,e6,SqT.of ht6,rfl,a6, [b6],rfl,b6, [],rfl,rfl,rfl,rfl⟩) λ_ s7 ⟨σ7,H7,J7,e7,e7'⟩=> ?_
   subst e7 e7'
   refine thn (ht _ _ _ _ _ s7 _ H7 _ J7 step') λb s8 ⟨H8,J8,q8⟩=> ?_
   have again:∀{H9:Hp} {s9:Shared},Inv (a_V X scope fns (x::x2::fns) fp pins { s2 with heap:=s2.heap.push { cls:= .type "list",data:= .seq ([]:List Value).toArray } } (upd H2 s2.heap.objs.size (.lst []))) ([]++e_0 fp s6.heap) (b_V σ js (some a6) (some b6)) H9 s9->
    (∃m',m' < n/\W (i+1) m' H9)->∃m,m < n/\∃i o o2 H',Inv (a_V X scope fns (x::x2::fns) fp pins { s2 with heap:=s2.heap.push { cls:= .type "list",data:= .seq ([]:List Value).toArray } } (upd H2 s2.heap.objs.size (.lst []))) [] (b_V σ js o o2) H' s9/\tn i s9.heap/\(∀b∈fp,H' b=none)/\W i m H':=λ{H9 s9} J9 ⟨m',hm,w9⟩=>by
    refine⟨m',hm,i+1,some a6,some b6,H9,J9.unpinned,T.keep _ _ _ st6 λb hb o e=>(J9.pin (b,o) (r_p _ (r_p _ (b_F hb e)))).1,λb hb=> ?_, w9⟩
    obtain⟨o,e,d⟩:=T.obj _ _ st6 b hb
    exact (J9.pin (b,o) (r_p _ (r_p _ (b_F hb e)))).2.1
   cases b with
   | false=>exact again J8 (hN0 _ (by simpa using q8))
   | true=>
     simp only[if_true] at q8 ⊢
     refine thn (he _ _ _ _ _ s8 _ H8 _ J8 q8) λxv s9 ⟨y9,H9,J9,r9,n9⟩=> ?_
     obtain⟨ys,hD,hz,q9⟩:=hN1 y9 H9 n9
     refine thn (a_Q _ s9 _ H9 (.ref s2.heap.objs.size) [y9] (.ref s2.heap.objs.size) [xv] (λ_ H'=>H'=upd H9 s2.heap.objs.size (.lst (ys++ [y9]))) J9 rfl (.cons r9 .nil) ⟨_,ys,y9,rfl,rfl,hD,hz,rfl⟩) λ_ s10 ⟨_,H10,J10,_,e10⟩=> ?_
     subst e10
     exact again J10 q9
 exact codeAny_compStart_list (loop _ rfl) (T.self _ 0 _ _ _ st0 (loop _ rfl))
def n_3 (wi:TI) (js:List Nat) (tt:TT) (te:TE):TE:=λσ H Q=>wi σ H λJ H1=>∀D,H1 D=none->∃W:Nat->Nat->Hp->Prop,(∃m,W 0 m (upd H1 D (.lst [])))/\j_F J D σ js tt te (Q (.ref D)) W
theorem k_U (hc:X.calm=true) (S:f_j X scope x x2 fns js) (hi:PI X (.Tuple [.Name x px,.Name x2 py] kt pt) iter wi)
 (ht:∀fp pins s H,n_K (a_V X scope fns (x::x2::fns) fp pins s H) ifs tt) (he:∀fp pins s H,PE (a_V X scope fns (x::x2::fns) fp pins s H) elt te) (hs:∀x,foldedSetIterable iter X.env x=pure x:=by intro _;rfl):
 PE X (.ListComp elt [⟨.Tuple [.Name x px,.Name x2 py] kt pt,iter,ifs,0⟩] scope pos) (n_3 wi js tt te):=by
 intro pins s σ H Q I h
 rw[eval_ListComp]
 refine i_c (use:=none) (QQ:=λD=>Q (.ref D)) hc S hi ht he I h (λD C H5 s5 m5 I5 fC hn q=> ?_) hs
 refine⟨m5,hn,λh' sb=>⟨.ref D,H5,?_, rfl,q⟩⟩
 exact I5.turned (t':=s5.toks) (λb o hb e=>(sb.2 b hb).trans e) fC.1 fC.2.1 fC.2.2.2.1 fC.2.2.2.2.1 fC.2.2.2.2.2
end
theorem i_q {K:PySem.W.Frag} {a D:Addr} {xs:List V} {σ:St} {js:List Nat} {tt:TT} {te:TE} {QQ:Hp->Prop} {H:Hp} (Pv:Nat->List V->Hp->Prop) (h0:Pv 0 [] (upd H D (.lst [])))
 (hl:∀i ys H,i<=xs.length->H D=some (.lst ys)->Pv i ys H->SqL K H a xs)
 (hs:∀i v ys H,xs[i]? =some v→H D=some (.lst ys)→Pv i ys H→∃t p q,v=V.ref t∧H t=some (.tup [p,q])∧tt (b_V σ js (some p) (some q)) H fun b H2=>
   if b=true then te (b_V σ js (some p) (some q)) H2 λy H3=>H3 D=some (.lst ys)/\ys.length < sizeLine/\Pv (i+1) (ys++ [y]) (upd H3 D (.lst (ys++ [y]))) else H2 D=some (.lst ys)/\Pv (i+1) ys H2)
 (hd:∀ys H,H D=some (.lst ys)->Pv xs.length ys H->QQ H):
 ∃W:Nat->Nat->Hp->Prop,(∃m,W 0 m (upd H D (.lst [])))/\j_F (Itl K a) D σ js tt te QQ W:=by
 refine⟨λi m H=>i<=xs.length/\m=xs.length - i/\∃ys,H D=some (.lst ys)/\Pv i ys H,⟨_,r_E _,rfl, [],a_b,h0⟩,?_⟩
 rintro i m H1 ⟨hi,rfl,ys,hD,hp⟩
 have hq:=hl i ys H1 hi hD hp
 by_cases e:i=xs.length
 ·subst e
  exact .inl ⟨⟨xs,hq,r_l _⟩,hd ys H1 hD hp⟩
 ·have hlt:i < xs.length:=by omega
  refine .inr ⟨⟨xs,xs[i],hq,r_d hlt⟩,λy H3=>H3 D=some (.lst ys)/\ys.length < sizeLine/\Pv (i+1) (ys++ [y]) (upd H3 D (.lst (ys++ [y]))),λH2=>H2 D=some (.lst ys)/\Pv (i+1) ys H2,
   λy H3 q3=>⟨ys,q3.1,q3.2.1,xs.length - (i+1),by omega,hlt,rfl,ys++ [y],a_b,q3.2.2⟩,λH2 q=>⟨xs.length - (i+1),by omega,hlt,rfl,ys,q.1,q.2⟩,λv H' hy=> ?_⟩
  obtain⟨rfl,hv⟩:=hy
  exact hs i v ys H' (hv xs hq) hD hp
section
variable {X:Cx} {pins:List (Addr×Obj)} {σ:St} {H:Hp} {s:Shared} {d:Addr} {ob:Obj} {kvs:List (Key×V)}
theorem Inv.freeze (I:Inv X pins σ H s) (hd:H d=some (.dK kvs)) (ho:s.heap.get? d=some ob):Inv X pins σ (upd H d (.frz ob (.dK kvs))) s:=by
 have nn:∀b,H b=none->b≠d:=λb e z=>by rw[z,hd] at e;cases e
 have nt:∀b xs,H b=some (.tup xs)->b≠d:=λb xs e z=>by rw[z,hd] at e;cases e
 have nf:∀b o u,H b=some (.frz o u)->b≠d:=λb o u e z=>by rw[z,hd] at e;cases e
 have nb:∀b ps,H b=some (.tbl ps)->b≠d:=λb ps e z=>by rw[z,hd] at e;cases e
 have no:∀b y,H b=some (.own y)->b≠d:=λb y e z=>by rw[z,hd] at e;cases e
 refine⟨I.ok,I.os,I.bare,⟨I.base.keep,I.base.slot,λb o q n hx=> ?_, I.base.there,λb xs q=> ?_, λb o u q=> ?_, λb ps q=> ?_⟩,I.loc,I.cell,?_, λx c e=> ?_, λp hp=> ?_, λb u e=> ?_, I.len⟩
 ·have:=I.base.free b o q n hx;rw[a_i (nn b this)];exact this
 ·have:=I.base.tups b xs q;rw[a_i (nt b _ this)];exact this
 ·have:=I.base.frzs b o u q;rw[a_i (nf b _ _ this)];exact this
 ·obtain⟨more,this⟩:=I.base.tbls b ps q;exact⟨more,by rw[a_i (nb b _ this)];exact this⟩
 ·rw[a_i (nn _ I.free)];exact I.free
 ·rw[a_i (nn _ (I.freeC x c e))];exact I.freeC x c e
 ·obtain⟨a,b,r⟩:=I.pin p hp
  exact⟨a,by rw[a_i (nn _ b)];exact b,r⟩
 ·by_cases hb:b=d
  ·subst hb
   rw[a_b] at e
   cases e
   exact⟨ho,I.hok b _ hd⟩
  ·rw[a_i hb] at e
   exact (I.hok b u e).stay (λ_ _ _ q=>q) (λc q=>by rw[a_i (no c _ q)];exact q) λc xs q=>by rw[a_i (nt c _ q)];exact q
theorem Inv.thaw (I:Inv X pins σ H s) (hd:H d=some (.frz ob (.dK kvs))) (hF:∀o u,X.H₀ d≠some (.frz o u)):Inv X pins σ (upd H d (.dK kvs)) s:=by
 have nn:∀b,H b=none->b≠d:=λb e z=>by rw[z,hd] at e;cases e
 have nt:∀b xs,H b=some (.tup xs)->b≠d:=λb xs e z=>by rw[z,hd] at e;cases e
 have nb:∀b ps,H b=some (.tbl ps)->b≠d:=λb ps e z=>by rw[z,hd] at e;cases e
 have no:∀b y,H b=some (.own y)->b≠d:=λb y e z=>by rw[z,hd] at e;cases e
 refine⟨I.ok,I.os,I.bare,⟨I.base.keep,I.base.slot,λb o q n hx=> ?_, I.base.there,λb xs q=> ?_, λb o u q=> ?_, λb ps q=> ?_⟩,I.loc,I.cell,?_, λx c e=> ?_, λp hp=> ?_, λb u e=> ?_, I.len⟩
 ·have:=I.base.free b o q n hx;rw[a_i (nn b this)];exact this
 ·have:=I.base.tups b xs q;rw[a_i (nt b _ this)];exact this
 ·rw[a_i (λz=>hF o u (by rw[<-z];exact q))];exact I.base.frzs b o u q
 ·obtain⟨more,this⟩:=I.base.tbls b ps q;exact⟨more,by rw[a_i (nb b _ this)];exact this⟩
 ·rw[a_i (nn _ I.free)];exact I.free
 ·rw[a_i (nn _ (I.freeC x c e))];exact I.freeC x c e
 ·obtain⟨a,b,r⟩:=I.pin p hp
  exact⟨a,by rw[a_i (nn _ b)];exact b,r⟩
 ·by_cases hb:b=d
  ·subst hb
   rw[a_b] at e
   cases e
   exact (I.hok b _ hd).2
  ·rw[a_i hb] at e
   exact (I.hok b u e).stay (λ_ _ _ q=>q) (λc q=>by rw[a_i (no c _ q)];exact q) λc xs q=>by rw[a_i (nt c _ q)];exact q
end
def q_f (t:TS):TS:=λD σ H=>∃d kvs,H d=some (.dK kvs)/\t { D with nx:=λσ' H1=>∃ob,H1 d=some (.frz ob (.dK kvs))/\D.nx σ' (upd H1 d (.dK kvs)) } σ H
theorem n_O {X:Cx} {st:Stmt} {t:TS} (h:PS X st t):PS X st (q_f t):=by
 rintro pins s σ H D I ⟨d,kvs,hd,q⟩
 have hF:∀o u,X.H₀ d≠some (.frz o u):=λo u e=>by
  have:=I.base.frzs d o u e
  rw[hd] at this;cases this
 refine thn (h pins s σ H _ I q) λf s1 r=> ?_
 cases f with
 | next=>obtain⟨σ',H',I',ob,e,q'⟩:=r;exact⟨σ',_,I'.thaw e hF,q'⟩
 | brk=>exact r
 | cont=>exact r
 | ret u=>exact r
def Itv (d:Addr) (ob:Obj) (kvs:List (Key×V)):It:=
 ⟨λi H=>H d=some (.frz ob (.dK kvs))/\i < kvs.length,λi H x H'=>H'=H/\∃k,kvs[i]? =some (k,x),λi H=>H d=some (.frz ob (.dK kvs))/\kvs.length<=i⟩
theorem l_I {X:Cx} {pins:List (Addr×Obj)} {σ:St} {H:Hp} {s:Shared} {d:Addr} {ob:Obj} {es:Array DictEntry} {ep:Nat} {kvs:List (Key×V)} (I:Inv X pins σ H s) (hd:H d=some (.frz ob (.dK kvs))) (he:ob.data= .dict es ep):∃vs,KV kvs vs/\s.heap.DictAt (a_W X.prog X.w) d vs ep:=by
 obtain⟨e,_,_,vs,rel,o,es',ep',h1,h2,h3,h4⟩:=I.hok d _ hd
 rw[e] at h1
 cases h1
 rw[he] at h3
 cases h3
 exact⟨vs,rel,ob,es,e,h2,he,h4⟩
theorem j_m {P:Program} {w:World} {K:PySem.W.Frag} {tg:Expr} (d it:Addr) {ob:Obj} {es:Array DictEntry} {ep:Nat} (kvs:List (Key×V)) (he:ob.data= .dict es ep):p_f P w K tg (Itv d ob kvs) [it] it (λi h=>h.IsValIter it d i kvs.length ep) where
 mem:=by simp
 obj:=λi h st b hb=>by
  have e:b=it:=by simpa using hb
  subst e
  obtain⟨o,e,c,d⟩:=st
  exact⟨o,e,λv z=>by rw[d] at z;cases z⟩
 keep:=λi h h' st k=>by
  obtain⟨o,e,r⟩:=st
  exact⟨o,k it (by simp) o e,r⟩
 item:=by
  intro X hP hw hK hc i pins s σ H E I hf st hg
  subst hP hw hK
  obtain⟨hd,hi⟩:=hg
  obtain⟨vs,rel,dat⟩:=l_I I hd he
  have hl:kvs.length=vs.length:=Paired.length rel
  obtain⟨k,v,hv⟩:∃k v,kvs[i]? =some (k,v):=⟨_,_,r_d hi⟩
  have hget:∃u,vs[i]? =some (k,u)/\RelV v u:=by
   have aux:∀{l1:List (Key×V)} {l2:List (Key×Value)} {j:Nat},KV l1 l2->l1[j]? =some (k,v)->∃u,l2[j]? =some (k,u)/\RelV v u:=by
    intro l1 l2 j h
    induction h generalizing j with
    | nil=>intro e;simp at e
    | cons a t ih=>
      intro e
      cases j with
      | zero=>
        simp at e
        obtain⟨a1,a2⟩:=a
        rw[e] at a1 a2
        rename_i q _ _
        obtain⟨q1,q2⟩:=q
        exact⟨q2,by simp;exact a1.symm,a2⟩
      | succ j=>exact ih (by simpa using e)
   exact aux rel hv
  obtain⟨u,hu,ru⟩:=hget
  obtain⟨f0,f1,f2,f3,f4,f5⟩:=hf it (by simp)
  rw[hl] at st
  refine wpAny_pyNext_values_item st dat hu λh' st' sb=> ?_
  have I1:Inv X pins σ H { s with heap:=h' }:=I.turned (t':=s.toks) (λb o hb e=>(sb.2 b hb).trans e) f0 f1 f3 f4 f5
  obtain⟨o,e,c,dd⟩:=id st'
  exact⟨u,rfl,m_z (s:={ s with heap:=h' }) e c dd (by decide) ⟨v,H,I1,ru,⟨rfl,k,hv⟩,by rw[hl];exact st',λb hb=>(hf b hb).1⟩⟩
 done:=by
  intro X hP hw hK hc i pins s σ H E I hf st hg
  subst hP hw hK
  obtain⟨hd,hi⟩:=hg
  obtain⟨vs,rel,dat⟩:=l_I I hd he
  have hl:kvs.length=vs.length:=Paired.length rel
  obtain⟨f0,f1,f2,f3,f4,f5⟩:=hf it (by simp)
  rw[hl] at st
  exact wpAny_pyNext_values_end (I.ok.hd hc) st dat (by simp;omega) λh' eb=>⟨rfl,I.turned (t':=s.toks) (λb o hb e=>eb b o hb e) f0 f1 f3 f4 f5⟩
 self:=λ_ _ _ _ _ st h=>wpAny_pyIter_valiter st h
def p_4 (to:TE):TI:=λσ H R=>to σ H λx H1=>∃d kvs,x=V.ref d/\H1 d=some (.dK kvs)/\∀ob,R (Itv d ob kvs) (upd H1 d (.frz ob (.dK kvs)))
theorem j_P {X:Cx} {tg o:Expr} {to:TE} {apos cpos:Pos} (ho:PE X o to) (hbase:attributeBase o "values" X.env (eval o X.env)=eval o X.env:=by rfl) (hline:(apos.endLine == cpos.line)=true:=by rfl):PI X tg (.Call (.Attribute o "values" apos) [] [] cpos) (p_4 to):=by
 intro pins s σ H R I h
 refine wpAny_Call_method0_late hbase hline (thn (ho pins s σ H _ I h) λv s1 ⟨x,H1,I1,r1,q1⟩=> ?_)
 obtain⟨d,kvs,rfl,hd,q⟩:=q1
 obtain⟨h1,h2⟩:=j_b I1 r1 (T:="dict") (.inr (.inr (.inl ⟨rfl,.inl ⟨_,hd⟩⟩)))
 cases r1
 obtain⟨z,hsys,vs,rel,dd⟩:=i_j I1.hok hd
 have hl:kvs.length=vs.length:=Paired.length rel
 refine⟨"dict",_,PySem.F.plainAttrs_dict,PySem.F.slot_dict_values,PySem.F.type_dict_values,h1,h2,Calls.callWith_builtin rfl (PySem.evalArgs_none (call_meetsIn PySem.F.slot_dict_values dd.typeIs PySem.F.entry_dict_values (PySem.F.args_dict_values_1 _) (meets_dict_values (a_W X.prog X.w) d hsys) ⟨⟨vs,dd⟩,?_⟩))⟩
 obtain⟨ob,es,ep,e1,e2,e3,e4⟩:=id dd
 refine wpAny_pyIter_values (knd:=a_W X.prog X.w) (kvs:=vs) (ep:=ep) ⟨_,Heap.get?_push_size _ rfl,rfl,rfl⟩ ⟨ob,es,Heap.get?_push_of_some _ e1,e2,e3,e4⟩ ?_
 have I2:Inv X pins σ H1 _:=I1.kept (t':=s1.toks) (h':=(s1.heap.push { cls:= .type "dict_values",data:= .fields #[.ref d] }).push { cls:= .type "dict_valueiterator",data:= .fields #[.ref d,.int 0 0,.int vs.length 0,.int ep 0] }) λb o e=>Heap.get?_push_of_some _ (Heap.get?_push_of_some _ e)
 have I3:=I2.freeze hd (Heap.get?_push_of_some _ (Heap.get?_push_of_some _ e1))
 refine⟨(s1.heap.push { cls:= .type "dict_values",data:= .fields #[.ref d] }).objs.size, [(s1.heap.push { cls:= .type "dict_values",data:= .fields #[.ref d] }).objs.size],_,_,_,rfl,I3,j_m d _ kvs e3,⟨_,Heap.get?_push_size _ rfl,rfl,by rw[hl];rfl⟩,λb hb=> ?_, q ob⟩
 have e:b=(s1.heap.push { cls:= .type "dict_values",data:= .fields #[.ref d] }).objs.size:=by simpa using hb
 subst e
 have hbs:s1.heap.objs.size<=(s1.heap.push { cls:= .type "dict_values",data:= .fields #[.ref d] }).objs.size:=by rw[Heap.size_push];exact Nat.le_succ _
 have hfr:=I1.hok.fresh hbs
 exact I1.fpOk hbs (by rw[a_i (λzz=>by rw[zz,hd] at hfr;cases hfr)];exact hfr)
theorem i_O {d D:Addr} {ob:Obj} {kvs:List (Key×V)} {σ:St} {js:List Nat} {tt:TT} {te:TE} {QQ:Hp->Prop} {H:Hp} (Pv:Nat->List V->Hp->Prop) (h0:Pv 0 [] (upd H D (.lst [])))
 (hl:∀i ys H,i<=kvs.length->H D=some (.lst ys)->Pv i ys H->H d=some (.frz ob (.dK kvs)))
 (hs:∀i k v ys H,kvs[i]? =some (k,v)→H D=some (.lst ys)→Pv i ys H→tt (b_t σ js (some v)) H fun b H2=>
   if b=true then te (b_t σ js (some v)) H2 λy H3=>H3 D=some (.lst ys)/\ys.length < sizeLine/\Pv (i+1) (ys++ [y]) (upd H3 D (.lst (ys++ [y]))) else H2 D=some (.lst ys)/\Pv (i+1) ys H2)
 (hd:∀ys H,H D=some (.lst ys)->Pv kvs.length ys H->QQ H):
 ∃W:Nat->Nat->Hp->Prop,(∃m,W 0 m (upd H D (.lst [])))/\f_c (Itv d ob kvs) D σ js tt te QQ W:=by
 refine⟨λi m H=>i<=kvs.length/\m=kvs.length - i/\∃ys,H D=some (.lst ys)/\Pv i ys H,⟨_,r_E _,rfl, [],a_b,h0⟩,?_⟩
 rintro i m H1 ⟨hi,rfl,ys,hD,hp⟩
 have hq:=hl i ys H1 hi hD hp
 by_cases e:i=kvs.length
 ·subst e
  exact .inl ⟨⟨hq,r_l _⟩,hd ys H1 hD hp⟩
 ·have hlt:i < kvs.length:=by omega
  refine .inr ⟨⟨hq,hlt⟩,λy H3=>H3 D=some (.lst ys)/\ys.length < sizeLine/\Pv (i+1) (ys++ [y]) (upd H3 D (.lst (ys++ [y]))),λH2=>H2 D=some (.lst ys)/\Pv (i+1) ys H2,
   λy H3 q3=>⟨ys,q3.1,q3.2.1,kvs.length - (i+1),by omega,hlt,rfl,ys++ [y],a_b,q3.2.2⟩,λH2 q=>⟨kvs.length - (i+1),by omega,hlt,rfl,ys,q.1,q.2⟩,λv H' hy=> ?_⟩
  obtain⟨rfl,k,hv⟩:=hy
  exact hs i k v ys H' hv hD hp
end L2
namespace TO
open PySem L2
theorem k_p {H:Hp}:∀{rs:List Addr} {l:List Row} {i:Nat} {k:Key} {v:V},RowsAt H rs l->(a_L rs l)[i]? =some (k,v)->∃r ρ,v=V.ref r/\rs[i]? =some r/\l[i]? =some ρ/\RowAt H r ρ
 | _,_,i,k,v,.nil,e=>by simp[a_L] at e
 | r::rs,ρ::l,0,k,v,.cons h t,e=>by
   simp[a_L] at e
   exact⟨r,ρ,e.2.symm,rfl,rfl,h⟩
 | r::rs,ρ::l,i+1,k,v,.cons h t,e=>by
   obtain⟨r',ρ',h1,h2,h3,h4⟩:=k_p (i:=i) t (by simpa[a_L] using e)
   exact⟨r',ρ',h1,by simpa using h2,by simpa using h3,h4⟩
end TO
namespace K1
open PySem L2 TO
theorem j_f:bootBuiltins "sorted"=some (.builtin "sorted"):=by decide+kernel
def n_1 (w:Bool):Int:=if w=true then 2 else 1
theorem h_V (w:Bool) (ρ:Row):atI (d_L ρ) (n_1 w)=some (c_k w ρ):=by
 cases w with
 | false=>exact a_e (j:=1) rfl
 | true=>exact a_e (j:=2) rfl
theorem d_R (w:Bool):1+(if decide (V.str (e_v w)=V.str "text")=true then (1:Int) else 0)=n_1 w:=by cases w <;> decide+kernel
section
variable {P:Program} {w:World} {K:PySem.W.Frag} {mg:Str->Option Value} {base:Heap}
def f_w:Sp:=λvs H Q _=>∃(st kd mk:Addr) (room:Int) (l:List Row) (w:Bool),vs= [.ref st,.str (e_v w)]/\H st=some (.dK (e_F room kd mk))/\KeptAt H kd l/\b_7 l/\l.length < 64/\
 ∀(d:Addr) (H':Hp),H d=none->Same H H'->LstAt H' d (a_3 w l)->Q (.ref d) H'
theorem f_h:a_s ["_law_store","_law_word","_law_spot","_law_pairs"] ["_law_store","_law_word"] (a_m h_d):=⟨rfl,rfl,rfl,by decide+kernel,rfl,by decide+kernel,by decide+kernel⟩
theorem j_O {f:Addr} {fd:FuncData} (F:Fun K "_law_rows_by" "_law_rows_by" h_d f fd) (B:Bt mg):FnOk P w K mg base CX0 1 f fd ["_law_store","_law_word"] f_w:=by
 refine F.ok f_h (λvs H Q E h=> ?_) (λcdv A outer s H vs Q E hr h=> ?_)
 ·obtain⟨st,kd,mk,room,l,w,rfl,_⟩:=h
  rfl
 ·obtain⟨st,kd,mk,room,l,w,rfl,hst,hk,hnd,hlt,fin⟩:=h
  obtain⟨rs,hkd,hR⟩:=id hk
  have hlen:=hR.len
  have hu1:=e_G hr
  refine⟨_,a_c (a_w (i:=2) f_h.nd rfl (Or.inr rfl) (a_t a_S a_f (a_9 b_z (by rfl) B.int f_m (a_a (b_W a_H (pv 1) a_l (a_o _)) a_d))))
   (a_c (n_O (c_B (k:=3) (x:="_law_row") (fns:= ["_law_spot"]) (js:= [2]) rfl
     ⟨rfl,by decide+kernel,by decide+kernel,rfl,by decide+kernel,by decide+kernel,rfl,by simp[Env.kindOf];rfl,rfl,by decide+kernel⟩
     (j_P (b_j hu1 (pv 0) a_l (λ_ _=>rfl))) (λ_ _ _ _=>c_a)
     (λ_ _ _ _=>a_J (a_a (a_r (b_o K) (pv 0) (pv 1) (λ_ _=>rfl)) (a_a (a_r (b_o K) (pv 0) a_f (λ_ _=>rfl)) a_d)))
     f_h.nd rfl (Or.inl rfl)))
   (a_g (a_n (k_U (x:="_law_value") (x2:="_law_number") (fns:= ["_law_store"]) (js:= [0]) rfl
     ⟨rfl,by decide+kernel,by decide+kernel,rfl,rfl,by decide+kernel,by decide+kernel,rfl,by simp[Env.kindOf];rfl,rfl,by decide+kernel⟩
     (b_e (a_y g_R (by rfl) B.sorted j_f (a_a (pv 3) a_d))) (λ_ _ _ _=>c_a)
     (λ_ _ _ _=>b_j hu1 (b_j hu1 (pv 2) a_l (λ_ _=>rfl)) (pv 1) (λ_ _=>rfl)))))),?_⟩
  refine⟨_,rfl,rfl,.inr ⟨_,rfl,_,_,rfl,rfl,?_⟩⟩
  dsimp only
  rw[d_R]
  refine⟨kd,_,hkd,_,rfl,st,_,rfl,b_N hst,kd,_,rfl,hkd,λob L hL=> ?_⟩
  have hLk:L≠kd:=λe=>by rw[e,a_b] at hL;cases hL
  have hL0:H L=none:=by rw[a_i hLk] at hL;exact hL
  refine i_O (λi ys H3=>Same (upd H kd (.frz ob (.dK (a_L rs l)))) H3/\∃tas:List Addr,ys=tas.map V.ref/\c_f H3 tas ((l.take i).map (a_I w))) ⟨Same.upd_new hL, [],rfl,.nil⟩ (λi ys H3 _ _ h=>h.1 _ _ a_b) ?_ ?_
  ·rintro i k v ys H3 hi hL3 ⟨s3,tas,rfl,hT3⟩
   obtain⟨r,ρ,rfl,er,hρ,hr0⟩:=k_p hR hi
   have hr3:RowAt H3 r ρ:=s3 _ _ (by rw[a_i (λe=>by rw[e] at hr0;unfold RowAt at hr0;rw[hkd] at hr0;cases hr0)];exact hr0)
   refine⟨_,rfl,_,rfl,r,_,_,_,rfl,rfl,SqT.of hr3,h_V w ρ,?_⟩
   refine⟨_,rfl,r,_,_,_,rfl,rfl,SqT.of hr3,a_e (j:=0) rfl,by show 2<=sizeLine;decide,λt ht=> ?_⟩
   have htL:L≠t:=a_h hL3 ht
   have s4:Same H3 (upd H3 t (.tup [c_k w ρ,.int ρ.n])):=Same.upd_new ht
   refine⟨s4 _ _ hL3,?_, λb u hb=> ?_, tas++ [t],by rw[r_k];rfl,?_⟩
   ·have:=Paired.length hT3
    rw[r_c,r_y] at this
    rw[r_c]
    exact a_G (by omega)
   ·rw[a_i (a_h hb hL)]
    exact s4 _ _ (s3 _ _ hb)
   ·rw[r_D,hρ]
    show c_f _ _ ((l.take i++ [ρ]).map (a_I w))
    rw[r_k]
    refine a_F ?_ (.cons ?_ .nil)
    ·exact Paired.mapP hT3 λx k q=>NoTup.keep (NoTup.lst (s4 _ _ hL3)) _ _ (s4 _ _ q)
    ·rw[a_i htL.symm]
     exact a_b
  ·rintro ys H3 hL3 ⟨s3,tas,rfl,hT3⟩
   rw[c_O hR,r_w (r_l _)] at hT3
   have htl:tas.length=l.length:=by rw[Paired.length hT3,r_c]
   have hf3:=s3 _ _ (a_b (H:=H) (a:=kd) (o:= .frz ob (.dK (a_L rs l))))
   refine⟨ob,hf3,?_⟩
   have sk:Same H (upd H3 kd (.dK (a_L rs l))):=λb u hb=>by
    by_cases e:b=kd
    ·rw[e] at hb ⊢;rw[a_b,<-hb,hkd]
    ·rw[a_i e];exact s3 _ _ (by rw[a_i e];exact hb)
   have hT4:c_f (upd H3 kd (.dK (a_L rs l))) tas (l.map (a_I w)):=Paired.mapP hT3 λx k q=>by
    show upd H3 kd (.dK (a_L rs l)) x=_
    rw[a_i (λe=>by rw[e] at q;rw[show H3 kd=some (.tup k) from q] at hf3;cases hf3)];exact q
   have hL4:upd H3 kd (.dK (a_L rs l)) L=some (.lst (tas.map V.ref)):=by rw[a_i hLk];exact hL3
   generalize upd H3 kd (.dK (a_L rs l))=H4 at sk hT4 hL4 ⊢
   refine⟨_,rfl,L,tas,l.map (a_I w),rfl,SqL.of hL4,hT4,by omega,λk hk=> ?_, λk hk k' hk'=> ?_, by rw[htl];exact j_a hnd,λla is hla hperm hup=> ?_⟩
   ·obtain⟨ρ,_,rfl⟩:=r_H.mp hk
    exact⟨_,_,rfl⟩
   ·obtain⟨ρ,_,rfl⟩:=r_H.mp hk
    obtain⟨ρ',_,rfl⟩:=r_H.mp hk'
    exact⟨⟨c_H w ρ ρ',rfl,trivial⟩,rfl⟩
   rw[htl] at hperm hup
   have hin:∀i∈is,i < l.length:=λi hi=>by simpa using hperm.mem_iff.mp hi
   have s4:Same H4 (upd H4 la (.lst (is.map λi=>V.ref (tas.getD i 0)))):=Same.upd_new hla
   have hla0:H la=none:=sk.free hla
   refine⟨la,rfl,⟨_,SqL.of a_b⟩,λD hD=> ?_⟩
   have s5:=Same.upd_new (o:= .lst []) hD
   have hlD:la≠D:=a_h a_b hD
   have hD4:H4 D=none:=s4.free hD
   have hD0:H D=none:=sk.free hD4
   have hil:is.length=l.length:=by rw[hperm.length_eq,List.length_range]
   refine i_q (K:=K) (xs:=is.map λi=>V.ref (tas.getD i 0)) (λj ys H5=>Same H4 H5/\H5 la=some (.lst (is.map λi=>V.ref (tas.getD i 0)))/\∃bs:List Addr,ys=bs.map V.ref/\RowsAt H5 bs ((is.take j).map λi=>l.getD i h_E))
    ⟨s4.trans s5,s5 _ _ a_b, [],rfl,.nil⟩ (λj ys H5 _ _ h=>SqL.of h.2.1) ?_ ?_
   ·rintro j v ys H5 hj hD5 ⟨s6,hl5,bs,rfl,hb5⟩
    rw[r_o] at hj
    cases ej:is[j]? with
    | none=>rw[ej] at hj;cases hj
    | some i=>
      rw[ej] at hj
      obtain rfl:V.ref (tas.getD i 0)=v:=r_j hj
      have hi:=hin i (r_C ej)
      have ht:=(c_G hT4 (i:=i) (by omega)).1
      rw[c_8 hi] at ht
      have hm:l.getD i h_E∈l:=by
       rw[r_v,r_d hi]
       exact List.getElem_mem hi
      have hR5:RowsAt H5 rs l:=hR.same λb xs q=>s6 _ _ (sk _ _ q)
      obtain⟨_,v2⟩:=b_U (n:=(l.getD i h_E).n) hR5
      obtain⟨r,ρ,g1,g2,g3,_⟩:=v2 (b_v.mpr ⟨_,hm,rfl⟩)
      rw[h_w hnd hm] at g2
      obtain rfl:=r_j g2
      refine⟨_,_,_,rfl,s6 _ _ ht,?_⟩
      refine⟨_,rfl,st,_,rfl,b_N (s6 _ _ (sk _ _ hst)),_,rfl,kd,_,rfl,g1 ▸ c_S (s6 _ _ (sk _ _ hkd)),hD5,?_, λb u hb=> ?_, ?_, bs++ [r],by rw[r_k];rfl,?_⟩
      ·have:=hb5.len
       rw[r_c,r_y] at this
       rw[r_c]
       exact a_G (by omega)
      ·rw[a_i (a_h hb hD4)]
       exact s6 _ _ hb
      ·rw[a_i hlD]
       exact hl5
      ·rw[r_D,ej,r_k]
       exact (RowsAt.app hb5 (.cons g3 .nil)).same (NoTup.keep (NoTup.lst hD5))
   ·rintro ys H5 hD5 ⟨s6,hl5,bs,rfl,hb5⟩
    rw[r_c,r_w (r_l _)] at hb5
    rw[d_T hnd (h_j hperm hup) (f_N hperm)] at hb5
    exact fin D H5 hD0 (sk.trans s6) ⟨bs,hD5,hb5⟩
end
end K1
namespace TO
open PySem L2
section
variable {X:Cx}
def o_I:V->List V->Hp->VK->Prop:=λx vs H Q=>∃l,∃as:List Addr,∃a,∃ρs:List Row,∃ρ,x= .ref l/\vs= [.ref a]/\H l=some (.lst (as.map .ref))/\RowsAt H as ρs/\RowAt H a ρ/\ρ∈ρs/\ρs.length < 10000/\Q (.int ((ρs.idxOf ρ:Nat):Int)) H
theorem k_G (hu:X.A.units+1 < cLine):MtM X "list.index" o_I:=by
 intro pins s σ H x vs v us Q I rx rv h
 obtain⟨l,as,a,ρs,ρ,rfl,rfl,hH,hR,ha,hm,hsm,q⟩:=h
 cases rx
 obtain⟨u,rfl,ru⟩:=rv.one
 cases ru
 obtain⟨z,its,n,r,hl,e⟩:=I.lstM hH
 have e1:=b_A r
 subst e1
 have hlen:=hR.len
 have hj:ρs.idxOf ρ < ρs.length:=List.idxOf_lt_length_of_mem hm
 let ev:Value->Bool:=λv=>match v with
  | .ref b=>(match H b with | some (.tup ys)=>decide (ys=d_L ρ) | _=>false)
  | _=>false
 have hev:∀b ρ',RowAt H b ρ'->ev (.ref b)=decide (ρ'=ρ):=λb ρ' hb=>by
  show (match H b with | some (.tup ys)=>decide (ys=d_L ρ) | _=>false)=_
  rw[show H b=_ from hb]
  by_cases q:ρ'=ρ
  ·subst q;simp
  ·rw[r_T q]
   exact r_T λq'=>q (d_I q')
 have hjs:ρs.idxOf ρ < (as.map Value.ref).toArray.size:=by simp;omega
 have item:∀m (hm:m < (as.map Value.ref).toArray.size),∃b ρ',(as.map Value.ref).toArray[m]= .ref b/\ρs[m]? =some ρ'/\RowAt H b ρ':=λm hm=>by
  have hm':m < as.length:=by simpa using hm
  obtain⟨ρ',h1,h2⟩:=hR.get' (r_d hm')
  exact⟨as[m],ρ',by simp,h1,h2⟩
 refine call_meets F.slot_list_index ⟨_,e,rfl⟩ F.entry_list_index (F.args_list_index_2 _ _) (SeqAt.list_indexAt l (as.map Value.ref).toArray n _ _ (.ref a) ev (ρs.idxOf ρ) hjs (by omega) ?_ ?_) ⟨e,λy hy=> ?_, ?_⟩
 ·obtain⟨b,ρ',e1,e2,hb⟩:=item _ hjs
  rw[e1,hev b ρ' hb]
  rw[r_d hj,List.getElem_idxOf hj] at e2
  cases e2
  exact r_S rfl
 ·intro m hm hlt
  obtain⟨b,ρ',e1,e2,hb⟩:=item m hm
  rw[e1,hev b ρ' hb]
  refine r_T λq=> ?_
  subst q
  exact e_q hlt e2
 ·obtain⟨m,hm,e1⟩:=Array.getElem_of_mem hy
  obtain⟨b,ρ',e2,e3,hb⟩:=item m hm
  rw[<-e1,e2,hev b ρ' hb]
  exact o_p I hb ha (by first | exact hu | simpa using hu)
 ·exact⟨.int _,H,I.tok _,⟨_,rfl⟩,q⟩
end
theorem j_d {w:Bool} {ρ:Row}:∀{s:List Row},Srt (ltR w) s->ρ∈s->s.idxOf ρ=(s.filter λy=>ltR w y ρ).length
 | [],_,h=>by cases h
 | x::r,hs,h=>by
   have hs':=r_Q.mp hs
   rw[List.idxOf_cons]
   by_cases e:x=ρ
   ·subst e
    have hf:(r.filter λy=>ltR w y x)= []:=by
     refine List.filter_eq_nil_iff.mpr λy hy q=> ?_
     have:=c_r w _ _ _ (hs'.1 y hy) q
     rw[b_G] at this;cases this
    rw[r_B,if_neg (by rw[b_G];decide),hf]
    simp
   ·have hm:ρ∈r:=by
     rcases r_n.mp h with q | q
     ·exact absurd q.symm e
     ·exact q
    rw[r_B,if_pos (hs'.1 ρ hm),r_i,<-j_d hs'.2 hm]
    have:(x == ρ)=false:=by simpa using e
    rw[this]
    rfl
end TO
namespace K1
open PySem L2 TO
section
variable {P:Program} {w:World} {K:PySem.W.Frag} {mg:Str->Option Value} {base:Heap}
theorem d_t {x:Str} (h:c_u x):(inV (.str x) [V.str "rank",V.str "text"]=false/\b_4 x=none)\/∃w,x=e_v w/\inV (.str x) [V.str "rank",V.str "text"]=true/\b_4 x=some w:=by
 rcases h with e | e | e
 ·subst e;exact .inr ⟨false,rfl,by decide+kernel,rfl⟩
 ·subst e;exact .inr ⟨true,rfl,by decide+kernel,by decide+kernel⟩
 ·subst e;exact .inl ⟨by decide+kernel,by decide+kernel⟩
theorem i_w {w:Bool} {lo hi:V} (h:b_D (e_v w) lo hi) (ρ:Row):b_g lo (c_k w ρ)=true/\b_g (c_k w ρ) hi=true:=by
 unfold b_D at h
 cases w with
 | false=>
   rw[if_neg (by decide+kernel)] at h
   obtain⟨i,j,rfl,rfl⟩:=h
   exact⟨rfl,rfl⟩
 | true=>
   rw[if_pos (by decide+kernel)] at h
   obtain⟨i,j,rfl,rfl⟩:=h
   exact⟨rfl,rfl⟩
def l_H:Sp:=λvs H Q _=>∃(st kd mk a:Addr) (room:Int) (l:List Row) (d:Deed) (f:List Addr),vs= [.ref st,.ref a]/\H st=some (.dK (e_F room kd mk))/\KeptAt H kd l/\DeedAt H a d/\d.asks/\d.form/\l.length < 64/\b_7 l/\(∀b∈f,H b≠none)/\
 ∀(v:V) (H':Hp),Same H H'->Ans H' f (c_s l d) v->NewA H H' v->Q v H'
theorem f_4:a_s ["_law_store","_law_deed","_law_rows","_law_spot","_law_last"] ["_law_store","_law_deed"] (a_m d_q):=⟨rfl,rfl,rfl,by decide+kernel,rfl,by decide+kernel,by decide+kernel⟩
theorem m_h {f fRb fLi:Addr} {fd fdRb fdLi:FuncData} (F:Fun K "_law_told_by_all" "_law_told_by_all" d_q f fd) (B:Bt mg) (gRb:Gf K mg "_law_rows_by" fRb fdRb ["_law_store","_law_word"]) (GRb:FnOk P w K mg base CX0 1 fRb fdRb ["_law_store","_law_word"] f_w)
 (gLi:Gf K mg "_law_lies" fLi fdLi ["_law_low","_law_value","_law_high"]) (GLi:FnOk P w K mg base CX0 1 fLi fdLi ["_law_low","_law_value","_law_high"] l_V):FnOk P w K mg base CX0 2 f fd ["_law_store","_law_deed"] l_H:=by
 refine F.ok f_4 (λvs H Q E h=> ?_) (λcdv A outer s H vs Q E hr h=> ?_)
 ·obtain⟨st,kd,mk,a,room,l,d,f,rfl,_⟩:=h
  rfl
 ·obtain⟨st,kd,mk,a,room,l,d,ff,rfl,hst,hk,hd,has,hf,hlt,hnd,hff,fin⟩:=h
  have hu1:=e_G hr
  have hr1:Room 1 _:=hr.mono (by decide)
  obtain⟨rs,hkd,hR⟩:=id hk
  refine⟨_,(a_c (a_C (a_k a_H (a_r a_p (pv 1) a_f (λ_ _=>rfl)) a_l (a_o _)) (a_g (a_n (k_D hu1 (b_j hu1 (pv 0) a_l (λ_ _=>rfl)) (a_r a_p (pv 1) a_f (λ_ _=>rfl)) a_l ⟨rfl,rfl,rfl,rfl⟩))) a_q)
   (a_c (a_C (a_k a_H (a_r a_p (pv 1) a_f (λ_ _=>rfl)) a_l (a_o _)) (a_c (a_w (i:=2) f_4.nd rfl (Or.inr rfl) (c_Z (x:="_law_row") (fns:= ["_law_deed"]) (js:= [1]) rfl ⟨rfl,by decide+kernel,by decide+kernel,rfl,by decide+kernel,by decide+kernel,rfl,by simp[Env.kindOf];exact rfl,rfl,by decide+kernel⟩ (b_e (a_j GRb hr1 rfl gRb.mg gRb.kp gRb.b .nil a_u (a_a (pv 0) (a_a a_l a_d)))) (λ_ _ _ _=>(d_c (a_k a_H (a_r (b_o K) (pv 0) a_f (λ_ _=>rfl)) (a_r (b_o K) (pv 1) a_f (λ_ _=>rfl)) (a_o _)))) (λ_ _ _ _=>(pv 0))))
   (a_g (a_n (c_Z (x:="_law_row") (fns:= ["_law_deed"]) (js:= [1]) rfl ⟨rfl,by decide+kernel,by decide+kernel,rfl,by decide+kernel,by decide+kernel,rfl,by simp[Env.kindOf];exact rfl,rfl,by decide+kernel⟩ (b_e (pv 2)) (λ_ _ _ _=>(d_c (c_M (a_j GLi hr1 rfl gLi.mg gLi.kp gLi.b .nil a_u (a_a (a_r (b_o K) (pv 1) a_f (λ_ _=>rfl)) (a_a (a_r (b_o K) (pv 0) a_f (λ_ _=>rfl)) (a_a (a_r (b_o K) (pv 1) a_f (λ_ _=>rfl)) a_d))))))) (λ_ _ _ _=>(pv 0)))))) a_q)
   (a_c (a_C (a_k g_s (a_r a_p (pv 1) a_f (λ_ _=>rfl)) (a_U (a_a a_l (a_a a_l a_d))) (by with_unfolding_all rfl)) (a_g (a_n a_l)) a_q)
   (a_c (a_w (i:=2) f_4.nd rfl (Or.inr rfl) (a_j GRb hr1 rfl gRb.mg gRb.kp gRb.b .nil a_u (a_a (pv 0) (a_a (a_r a_p (pv 1) a_f (λ_ _=>rfl)) a_d))))
   (a_c (a_w (i:=3) f_4.nd rfl (Or.inr rfl) (a_t a_S a_f (a_9 b_z (by rfl) B.int f_m (a_a (b_W a_H (a_r a_p (pv 1) a_f (λ_ _=>rfl)) a_l (a_o _)) a_d))))
   (a_c (a_C (a_k a_H (a_r a_p (pv 1) a_f (λ_ _=>rfl)) a_l (a_o _)) (a_g (a_n (c_Z (x:="_law_row") (fns:= ["_law_spot","_law_deed"]) (js:= [3,1]) rfl ⟨rfl,by decide+kernel,by decide+kernel,rfl,by decide+kernel,by decide+kernel,rfl,by simp[Env.kindOf];exact⟨rfl,rfl⟩,rfl,by decide+kernel⟩ (b_e (pv 2)) (λ_ _ _ _=>(d_c (c_M (a_j GLi hr1 rfl gLi.mg gLi.kp gLi.b .nil a_u (a_a (a_r (b_o K) (pv 2) a_f (λ_ _=>rfl)) (a_a (a_r (b_o K) (pv 0) (pv 1) (λ_ _=>rfl)) (a_a (a_r (b_o K) (pv 2) a_f (λ_ _=>rfl)) a_d))))))) (λ_ _ _ _=>(pv 0))))) a_q)
   (a_c (a_C (a_k a_H (a_r a_p (pv 1) a_f (λ_ _=>rfl)) a_l (a_o _)) (a_c (a_w (i:=4) f_4.nd rfl (Or.inr rfl) (a_t b_R (a_t a_S (a_r a_p (pv 1) a_f (λ_ _=>rfl)) (a_r a_p (pv 1) a_f (λ_ _=>rfl))) a_f))
   (a_g (a_n (c_Z (x:="_law_k") (fns:= ["_law_rows","_law_last","_law_deed"]) (js:= [2,4,1]) rfl ⟨rfl,by decide+kernel,by decide+kernel,rfl,by decide+kernel,by decide+kernel,rfl,by simp[Env.kindOf];exact⟨rfl,rfl,rfl⟩,rfl,by decide+kernel⟩ (b_L rfl B.range (a_a (a_y a_v (by rfl) B.len r_V (a_a (pv 2) a_d)) a_d)) (λ_ _ _ _=>(d_c (c_M (a_j GLi hr1 rfl gLi.mg gLi.kp gLi.b .nil a_u (a_a (a_r (b_o K) (pv 3) a_f (λ_ _=>rfl)) (a_a (pv 0) (a_a (pv 2) a_d))))))) (λ_ _ _ _=>(a_r (l_i K) (pv 1) (pv 0) (λ_ _=>rfl))))))) a_q)
   (a_c (a_C (d_y (c_6 hu1 (a_r a_p (pv 1) a_f (λ_ _=>rfl)) (b_j hu1 (pv 0) a_l (λ_ _=>rfl)))) (a_g (a_n a_l)) a_q)
   (a_g (a_n (b_C r_W PySem.F.slot_list_index PySem.F.type_list_index (k_G hu1) (pv 2) (a_a (b_j hu1 (b_j hu1 (pv 0) a_l (λ_ _=>rfl)) (a_r a_p (pv 1) a_f (λ_ _=>rfl)) (λ_ _=>rfl)) a_d)))))))))))),?_⟩
  have free:∀t,H t=none->t∉ff:=λt ht hc=>hff t hc ht
  have tell:∀{t:Addr} {m:List Row} {H':Hp},H t=none->Same H H'->LstAt H' t m->c_s l d=e_A m->Q (.ref t) H':=λ{t m H'} ht s' hL e=>fin (.ref t) H' s' (by rw[e];exact .rows hL (free t ht)) λt' xs e' _=>by cases e';exact ht
  have kv:=λn=>b_U (n:=n) hR
  cases d with
  | row n=>
    obtain⟨v1,v2⟩:=kv n
    refine⟨_,rfl,a,_,_,_,rfl,rfl,SqT.of hd,a_e (j:=0) rfl,rfl,_,rfl,a_x (λ_=> ?_) (λq=>absurd (r_S rfl) q)⟩
    refine⟨_,rfl,st,_,rfl,b_N hst,kd,rfl,.inl ⟨_,.inl hkd⟩,_,rfl,a,_,_,_,rfl,rfl,SqT.of hd,a_e (j:=1) rfl,_,c_S hkd,?_⟩
    by_cases c:b_s l n=true
    ·obtain⟨r,ρ,g1,g2,g3,_⟩:=v2 c
     rw[g1]
     refine fin _ H (Same.refl H) ?_ (NewA.tup g3)
     simp only[c_s,g2]
     exact .row g3
    ·have c':b_s l n=false:=by simpa using c
     have g1:d_u (a_L rs l) (Sum.inl n)=none:=by
      cases e:d_u (a_L rs l) (Sum.inl n) with
      | none=>rfl
      | some u=>rw[e,c'] at v1;cases v1
     rw[g1]
     refine fin _ H (Same.refl H) ?_ (NewA.str _)
     simp only[c_s,b_I c']
     exact .str _
  | both lo hi t0=>
    refine⟨_,rfl,a,_,_,_,rfl,rfl,SqT.of hd,a_e (j:=0) rfl,rfl,_,rfl,a_x (λq=>absurd q (by decide+kernel)) (λ_=> ?_)⟩
    refine⟨_,rfl,a,_,_,_,rfl,rfl,SqT.of hd,a_e (j:=0) rfl,rfl,_,rfl,a_x (λ_=> ?_) (λq=>absurd (r_S rfl) q)⟩
    refine⟨_,rfl,st,kd,mk,room,l,false,rfl,hst,hk,hnd,hlt,λd1 H1 hd1 s1 hL1=> ?_⟩
    obtain⟨as1,hla1,hRa1⟩:=id hL1
    have hl1:(a_3 false l).length=l.length:=a_8 false l
    refine⟨d1,rfl,⟨_,SqL.of hla1⟩,λLa hLa=>c_b (λx=>decide (V.str x.t=V.str t0)) hla1 hRa1 hLa (by omega) ?_ (λr H2 Q q=>⟨_,rfl,q⟩) λH3 s3 hL3=> ?_⟩
    ·intro r ρ H2 Qb s2 hρ k
     exact⟨_,rfl,r,_,_,_,rfl,rfl,SqT.of hρ,a_e (j:=2) rfl,_,rfl,a,_,_,_,rfl,rfl,SqT.of (s2 _ _ (s1 _ _ hd)),a_e (j:=3) rfl,rfl,_,rfl,k H2 (Same.refl H2)⟩
    obtain⟨as2,hla2,hRa2⟩:=id hL3
    have hl2:((a_3 false l).filter λx=>decide (V.str x.t=V.str t0)).length<=l.length:=by rw[<-hl1];exact r_N _ _
    refine⟨_,rfl,La,rfl,⟨_,SqL.of hla2⟩,λLb hLb=>c_b (i_3 false (.int lo) (.int hi)) hla2 hRa2 hLb (by omega) ?_ (λr H2 Q q=>⟨_,rfl,q⟩) λH4 s4 hL4=> ?_⟩
    ·intro r ρ H2 Qb s2 hρ k
     exact⟨_,rfl,a,_,_,_,rfl,rfl,SqT.of (s2 _ _ (s3 _ _ (s1 _ _ hd))),a_e (j:=1) rfl,_,rfl,r,_,_,_,rfl,rfl,SqT.of hρ,a_e (j:=1) rfl,_,rfl,a,_,_,_,rfl,rfl,SqT.of (s2 _ _ (s3 _ _ (s1 _ _ hd))),a_e (j:=2) rfl,_,_,_,rfl,rfl,rfl,_,rfl,k H2 (Same.refl H2)⟩
    refine tell (s1.free (s3.free hLb)) ((s1.trans s3).trans s4) hL4 ?_
    simp only[c_s]
    congr 2
    exact List.filter_congr λx _=>by simp
  | within x lo hi=>
    refine⟨_,rfl,a,_,_,_,rfl,rfl,SqT.of hd,a_e (j:=0) rfl,rfl,_,rfl,a_x (λq=>absurd q (by decide+kernel)) (λ_=> ?_)⟩
    refine⟨_,rfl,a,_,_,_,rfl,rfl,SqT.of hd,a_e (j:=0) rfl,rfl,_,rfl,a_x (λq=>absurd q (by decide+kernel)) (λ_=> ?_)⟩
    refine⟨_,rfl,a,_,_,_,rfl,rfl,SqT.of hd,a_e (j:=1) rfl,by show 2<=sizeLine;decide,λn1 hn1=> ?_⟩
    have s0:=Same.upd_new (o:= .lst [V.str "rank",V.str "text"]) hn1
    refine⟨n1,_,rfl,.inl (SqL.of a_b),rfl,rfl,_,rfl,?_⟩
    generalize upd H n1 (.lst [V.str "rank",V.str "text"])=H0 at s0 ⊢
    have hd0:=s0 _ _ hd
    rcases d_t hf.2 with⟨hin,hno⟩ | ⟨w,rfl,hin,hwb⟩
    ·refine a_x (λ_=> ?_) (λq=>absurd (by rw[if_pos rfl,hin];rfl) q)
     refine fin _ H0 s0 ?_ (NewA.str _)
     simp only[c_s,hno]
     exact .str _
    refine a_x (λq=>by rw[if_pos rfl,hin] at q;cases q) (λ_=> ?_)
    refine⟨_,rfl,_,rfl,a,_,_,_,rfl,rfl,SqT.of hd0,a_e (j:=1) rfl,st,kd,mk,room,l,w,rfl,s0 _ _ hst,KeptAt.same hk s0,hnd,hlt,λd1 H1 hd1 s1 hL1=> ?_⟩
    have s01:=s0.trans s1
    have hd1':=s01 _ _ hd
    refine⟨_,rfl,a,_,_,_,rfl,rfl,SqT.of hd1',a_e (j:=1) rfl,rfl,.inr ⟨_,rfl,_,_,rfl,rfl,?_⟩⟩
    dsimp only
    rw[d_R]
    have hd1n:H d1=none:=s0.free hd1
    obtain⟨as1,hla1,hRa1⟩:=id hL1
    have hl1:(a_3 w l).length=l.length:=a_8 w l
    refine⟨_,rfl,a,_,_,_,rfl,rfl,SqT.of hd1',a_e (j:=0) rfl,rfl,_,rfl,a_x (λ_=> ?_) (λq=>absurd (r_S rfl) q)⟩
    refine⟨_,rfl,d1,rfl,⟨_,SqL.of hla1⟩,λLb hLb=>c_b (i_3 w lo hi) hla1 hRa1 hLb (by omega) ?_ (λr H2 Q q=>⟨_,rfl,q⟩) λH4 s4 hL4=> ?_⟩
    ·intro r ρ H2 Qb s2 hρ k
     obtain⟨q1,q2⟩:=i_w hf.1 ρ
     exact⟨_,rfl,a,_,_,_,rfl,rfl,SqT.of (s2 _ _ hd1'),a_e (j:=2) rfl,_,rfl,_,rfl,r,_,_,_,rfl,rfl,SqT.of hρ,h_V w ρ,_,rfl,a,_,_,_,rfl,rfl,SqT.of (s2 _ _ hd1'),a_e (j:=3) rfl,_,_,_,rfl,q1,q2,_,rfl,k H2 (Same.refl H2)⟩
    refine tell (s01.free hLb) (s01.trans s4) hL4 ?_
    simp only[c_s,hwb]
  | «from» x k m=>
    refine⟨_,rfl,a,_,_,_,rfl,rfl,SqT.of hd,a_e (j:=0) rfl,rfl,_,rfl,a_x (λq=>absurd q (by decide+kernel)) (λ_=> ?_)⟩
    refine⟨_,rfl,a,_,_,_,rfl,rfl,SqT.of hd,a_e (j:=0) rfl,rfl,_,rfl,a_x (λq=>absurd q (by decide+kernel)) (λ_=> ?_)⟩
    refine⟨_,rfl,a,_,_,_,rfl,rfl,SqT.of hd,a_e (j:=1) rfl,by show 2<=sizeLine;decide,λn1 hn1=> ?_⟩
    have s0:=Same.upd_new (o:= .lst [V.str "rank",V.str "text"]) hn1
    refine⟨n1,_,rfl,.inl (SqL.of a_b),rfl,rfl,_,rfl,?_⟩
    generalize upd H n1 (.lst [V.str "rank",V.str "text"])=H0 at s0 ⊢
    have hd0:=s0 _ _ hd
    rcases d_t hf.1 with⟨hin,hno⟩ | ⟨w,rfl,hin,hwb⟩
    ·refine a_x (λ_=> ?_) (λq=>absurd (by rw[if_pos rfl,hin];rfl) q)
     refine fin _ H0 s0 ?_ (NewA.str _)
     simp only[c_s,hno]
     exact .str _
    refine a_x (λq=>by rw[if_pos rfl,hin] at q;cases q) (λ_=> ?_)
    refine⟨_,rfl,_,rfl,a,_,_,_,rfl,rfl,SqT.of hd0,a_e (j:=1) rfl,st,kd,mk,room,l,w,rfl,s0 _ _ hst,KeptAt.same hk s0,hnd,hlt,λd1 H1 hd1 s1 hL1=> ?_⟩
    have s01:=s0.trans s1
    have hd1':=s01 _ _ hd
    refine⟨_,rfl,a,_,_,_,rfl,rfl,SqT.of hd1',a_e (j:=1) rfl,rfl,.inr ⟨_,rfl,_,_,rfl,rfl,?_⟩⟩
    dsimp only
    rw[d_R]
    have hd1n:H d1=none:=s0.free hd1
    obtain⟨as1,hla1,hRa1⟩:=id hL1
    have hl1:(a_3 w l).length=l.length:=a_8 w l
    refine⟨_,rfl,a,_,_,_,rfl,rfl,SqT.of hd1',a_e (j:=0) rfl,rfl,_,rfl,a_x (λq=>absurd q (by decide+kernel)) (λ_=> ?_)⟩
    refine⟨_,rfl,a,_,_,_,rfl,rfl,SqT.of hd1',a_e (j:=0) rfl,rfl,_,rfl,a_x (λ_=> ?_) (λq=>absurd (r_S rfl) q)⟩
    refine⟨_,rfl,a,_,_,_,rfl,rfl,SqT.of hd1',a_e (j:=2) rfl,_,rfl,a,_,_,_,rfl,rfl,SqT.of hd1',a_e (j:=3) rfl,_,_,rfl,rfl,_,_,rfl,rfl,?_⟩
    have hal:=hRa1.len
    have hn1':((((as1.map V.ref).length:Nat):Int)).toNat=(a_3 w l).length:=by rw[r_c];omega
    refine⟨_,rfl,d1,_,rfl,.inl (SqL.of hla1),_,rfl,by omega,by rw[r_c];omega,λLb hLb=> ?_⟩
    refine i_g (lo:=0) (λi ys H5=>Same H1 H5/\∃bs:List Addr,ys=bs.map V.ref/\RowsAt H5 bs (c_c k (k+m) 0 ((a_3 w l).take i))) ⟨Same.upd_new hLb, [],rfl,.nil⟩ ?_ ?_
    ·rintro i ys H5 hi hD5 ⟨s5,bs,rfl,hb⟩
     rw[hn1'] at hi
     obtain⟨ρ,hρ⟩:∃ρ,(a_3 w l)[i]? =some ρ:=⟨_,r_d hi⟩
     obtain⟨r,er,hr0⟩:=hRa1.get hρ
     have gr:(as1.map V.ref)[i]? =some (V.ref r):=by rw[r_o,er];rfl
     have e0:(0:Int)+(i:Int)=(i:Int):=by omega
     rw[e0]
     refine⟨_,rfl,a,_,_,_,rfl,rfl,SqT.of (s5 _ _ hd1'),a_e (j:=2) rfl,_,rfl,_,rfl,_,_,_,rfl,rfl,rfl,_,rfl,?_⟩
     have hbl:=hb.len
     have hle:(c_c k (k+m) 0 ((a_3 w l).take i)).length<=i:=by
      rw[c_A,List.length_drop,r_y,r_y]
      omega
     have et:(a_3 w l).take (i+1)=(a_3 w l).take i++ [ρ]:=by rw[r_D,hρ];rfl
     have hti:((a_3 w l).take i).length=i:=by rw[r_y];omega
     have eone:c_c k (k+m) 0 ((a_3 w l).take (i+1))=c_c k (k+m) 0 ((a_3 w l).take i)++if k<=(i:Int)/\(i:Int) < k+m then [ρ] else []:=by
      rw[et,e_l,hti,Nat.zero_add]
      congr 1
      unfold c_c
      rw[List.zipIdx_cons,List.filterMap_cons]
      by_cases c:k<=(i:Int)/\(i:Int) < k+m
      ·rw[if_pos c,if_pos c];rfl
      ·rw[if_neg c,if_neg c];rfl
     refine a_x (λc=> ?_) (λc=> ?_)
     ·have c':k≤(i:Int)∧(i:Int) < k+m:=by
       have:((!decide ((i:Int) < k))&& !decide (k+m - 1 < (i:Int)))=true:=c
       simp at this
       omega
      refine⟨_,rfl,_,rfl,d1,_,_,_,rfl,rfl,SqL.of (s5 _ _ hla1),a_e gr,hD5,?_, λb u hb'=> ?_, bs++ [r],by rw[r_k];rfl,?_⟩
      ·rw[r_c];exact a_G (by omega)
      ·rw[a_i (a_h hb' hLb)];exact s5 _ _ hb'
      ·rw[eone,if_pos c']
       exact (RowsAt.app hb (.cons (s5 _ _ hr0) .nil)).same (NoTup.keep (NoTup.lst hD5))
     ·have c':¬ (k≤(i:Int)∧(i:Int) < k+m):=fun z=>c (by
       show ((!decide ((i:Int) < k))&& !decide (k+m - 1 < (i:Int)))=true
       simp
       omega)
      refine⟨hD5,s5,bs,rfl,?_⟩
      rw[eone,if_neg c',r_J]
      exact hb
    ·rintro ys H5 hD5 ⟨s5,bs,rfl,hb⟩
     rw[hn1',r_w (r_l _)] at hb
     refine tell (s01.free hLb) (s01.trans s5) ⟨bs,hD5,hb⟩ ?_
     simp only[c_s,hwb,f_1]
  | spot x n=>
    obtain⟨v1,v2⟩:=kv n
    refine⟨_,rfl,a,_,_,_,rfl,rfl,SqT.of hd,a_e (j:=0) rfl,rfl,_,rfl,a_x (λq=>absurd q (by decide+kernel)) (λ_=> ?_)⟩
    refine⟨_,rfl,a,_,_,_,rfl,rfl,SqT.of hd,a_e (j:=0) rfl,rfl,_,rfl,a_x (λq=>absurd q (by decide+kernel)) (λ_=> ?_)⟩
    refine⟨_,rfl,a,_,_,_,rfl,rfl,SqT.of hd,a_e (j:=1) rfl,by show 2<=sizeLine;decide,λn1 hn1=> ?_⟩
    have s0:=Same.upd_new (o:= .lst [V.str "rank",V.str "text"]) hn1
    refine⟨n1,_,rfl,.inl (SqL.of a_b),rfl,rfl,_,rfl,?_⟩
    generalize upd H n1 (.lst [V.str "rank",V.str "text"])=H0 at s0 ⊢
    have hd0:=s0 _ _ hd
    rcases d_t hf with⟨hin,hno⟩ | ⟨w,rfl,hin,hwb⟩
    ·refine a_x (λ_=> ?_) (λq=>absurd (by rw[if_pos rfl,hin];rfl) q)
     refine fin _ H0 s0 ?_ (NewA.str _)
     simp only[c_s,hno]
     exact .str _
    refine a_x (λq=>by rw[if_pos rfl,hin] at q;cases q) (λ_=> ?_)
    refine⟨_,rfl,_,rfl,a,_,_,_,rfl,rfl,SqT.of hd0,a_e (j:=1) rfl,st,kd,mk,room,l,w,rfl,s0 _ _ hst,KeptAt.same hk s0,hnd,hlt,λd1 H1 hd1 s1 hL1=> ?_⟩
    have s01:=s0.trans s1
    have hd1':=s01 _ _ hd
    refine⟨_,rfl,a,_,_,_,rfl,rfl,SqT.of hd1',a_e (j:=1) rfl,rfl,.inr ⟨_,rfl,_,_,rfl,rfl,?_⟩⟩
    dsimp only
    rw[d_R]
    have hd1n:H d1=none:=s0.free hd1
    obtain⟨as1,hla1,hRa1⟩:=id hL1
    have hl1:(a_3 w l).length=l.length:=a_8 w l
    refine⟨_,rfl,a,_,_,_,rfl,rfl,SqT.of hd1',a_e (j:=0) rfl,rfl,_,rfl,a_x (λq=>absurd q (by decide+kernel)) (λ_=> ?_)⟩
    refine⟨_,rfl,a,_,_,_,rfl,rfl,SqT.of hd1',a_e (j:=0) rfl,rfl,_,rfl,a_x (λq=>absurd q (by decide+kernel)) (λ_=> ?_)⟩
    refine⟨_,rfl,a,_,_,_,rfl,rfl,SqT.of hd1',a_e (j:=2) rfl,_,rfl,st,_,rfl,b_N (s01 _ _ hst),kd,_,rfl,c_S (s01 _ _ hkd),_,rfl,?_⟩
    rw[v1]
    by_cases c:b_s l n=true
    ·obtain⟨r,ρ,g1,g2,g3,_⟩:=v2 c
     refine a_x (λq=>by rw[c] at q;cases q) (λ_=> ?_)
     have hm:ρ∈a_3 w l:=(a_4 w l).mem_iff.mpr (List.mem_of_find?_eq_some g2)
     refine⟨_,rfl,.inl ⟨rfl,_,SqL.of hla1⟩,_,rfl,st,_,rfl,b_N (s01 _ _ hst),_,rfl,a,_,_,_,rfl,rfl,SqT.of hd1',a_e (j:=2) rfl,kd,_,rfl,g1 ▸ c_S (s01 _ _ hkd),d1,as1,r,_,ρ,rfl,rfl,hla1,hRa1,s01 _ _ g3,hm,by omega,?_⟩
     refine fin _ H1 s01 ?_ (λt xs e=>by cases e)
     simp only[c_s,hwb,g2]
     rw[j_d (c_q w hnd) hm,((a_4 w l).filter _).length_eq]
     exact .int _
    ·have c':b_s l n=false:=by simpa using c
     refine a_x (λ_=> ?_) (λq=>absurd (by rw[c'];rfl) q)
     refine fin _ H1 s01 ?_ (NewA.str _)
     simp only[c_s,hwb,b_I c']
     exact .str _
  | _=>exact has.elim
end
end K1
namespace TO
open PySem L2
structure Sto.nums (s:Sto):Prop where
 kept:b_7 s.kept
 marks:∀k∈s.marks,b_7 k
theorem e_m {room:Int} {l0:List Row} (h0:b_7 l0):∀{cs:List Chg} {i:Nat} {l:List Row},b_7 l->b_7 (c_i room l0 i l cs).1
 | [],i,l,h=>h
 | c::r,i,l,h=>by
   unfold c_i
   dsimp only
   split
   ·exact e_m h0 (f_U h)
   ·exact h0
theorem i_T {room:Int} {s:Sto} {d:Deed} (h:s.nums):(s.step room d).1.nums:=by
 cases d with
 | chg c=>exact⟨f_U h.kept,h.marks⟩
 | all cs=>exact⟨e_m h.kept h.kept,h.marks⟩
 | begin=>exact⟨h.kept,fun k hk=>by
    rcases r_n.mp hk with e | e
    ·rw[e];exact h.kept
    ·exact h.marks k e⟩
 | keep=>
   unfold Sto.step
   cases e:s.marks with
   | nil=>exact h
   | cons a r=>exact⟨h.kept,λk hk=>h.marks k (by rw[e];exact r_f _ hk)⟩
 | brk=>
   unfold Sto.step
   cases e:s.marks with
   | nil=>exact h
   | cons a r=>exact⟨h.marks a (by rw[e];exact r_g ..),λk hk=>h.marks k (by rw[e];exact r_f _ hk)⟩
 | _=>exact h
theorem i_l {room:Int} {s:Sto} {d:Deed}:(s.step room d).1.marks.length<=s.marks.length+1:=by
 cases d with
 | keep=>
   unfold Sto.step
   cases e:s.marks with
   | nil=>simp[e]
   | cons a r=>simp;omega
 | brk=>
   unfold Sto.step
   cases e:s.marks with
   | nil=>simp[e]
   | cons a r=>simp;omega
 | begin=>simp[Sto.step]
 | _=>exact Nat.le_succ _
theorem k_m {room:Int} {s:Sto} {d:Deed} (h:d.asks):s.step room d=(s,c_s s.kept d):=by
 cases d <;> first | rfl | exact h.elim
theorem b_0 {H H':Hp} (tk:K1.a_R H H'):∀{ms:List Addr} {ls:List (List Row)},Paired (KeptAt H) ms ls->(∀b∈ms,∀u,H b=some u->H' b=some u)->Paired (KeptAt H') ms ls
 | _,_,.nil,_=> .nil
 | _,_,.cons h t,hk=> .cons (by
    obtain⟨rs,h1,h2⟩:=h
    exact⟨rs,hk _ (r_g ..) _ h1,h2.same tk⟩) (b_0 tk t λb hb=>hk b (r_f _ hb))
end TO
namespace K1
open PySem L2 TO
structure StoAt (H:Hp) (st kd mk:Addr) (mas:List Addr) (room:Int) (s:Sto):Prop where
 sto:H st=some (.dK (e_F room kd mk))
 kept:KeptAt H kd s.kept
 marks:H mk=some (.lst (mas.map V.ref))
 ms:Paired (KeptAt H) mas s.marks.reverse
 nd:(st::mk::kd::mas).Nodup
theorem StoAt.same {H H':Hp} {st kd mk:Addr} {mas:List Addr} {room:Int} {s:Sto} (S:StoAt H st kd mk mas room s) (h:Same H H'):StoAt H' st kd mk mas room s:=
 ⟨h _ _ S.sto,KeptAt.same S.kept h,h _ _ S.marks,b_0 (λb xs q=>h _ _ q) S.ms λb _ u q=>h _ _ q,S.nd⟩
theorem StoAt.dicts {H:Hp} {st kd mk:Addr} {mas:List Addr} {room:Int} {s:Sto} (S:StoAt H st kd mk mas room s):∀b∈mas,∃kvs,H b=some (.dK kvs):=by
 have aux:∀{ms:List Addr} {ls:List (List Row)},Paired (KeptAt H) ms ls->∀b∈ms,∃kvs,H b=some (.dK kvs):=by
  intro ms ls h
  induction h with
  | nil=>intro b hb;cases hb
  | cons h t ih=>
    intro b hb
    rcases r_n.mp hb with e | e
    ·obtain⟨rs,q,_⟩:=h;rw[e];exact⟨_,q⟩
    ·exact ih b e
 exact aux S.ms
theorem StoAt.fpin {H:Hp} {st kd mk:Addr} {mas:List Addr} {room:Int} {s:Sto} (S:StoAt H st kd mk mas room s):∀b∈st::mk::kd::mas,(∃u,H b=some u)/\∀xs,H b≠some (.tup xs):=λb hb=>by
 rcases r_n.mp hb with e | hb
 ·rw[e];exact⟨⟨_,S.sto⟩,λxs q=>by rw[S.sto] at q;cases q⟩
 rcases r_n.mp hb with e | hb
 ·rw[e];exact⟨⟨_,S.marks⟩,λxs q=>by rw[S.marks] at q;cases q⟩
 rcases r_n.mp hb with e | hb
 ·obtain⟨rs,q,_⟩:=S.kept
  rw[e];exact⟨⟨_,q⟩,λxs q'=>by rw[q] at q';cases q'⟩
 ·obtain⟨kvs,q⟩:=S.dicts b hb
  exact⟨⟨_,q⟩,λxs q'=>by rw[q] at q';cases q'⟩
def WD (x:Str):Deed->Prop
 | .chg _=>inV (.str x) [V.str "bring",V.str "alter",V.str "cut"]=true
 | .all _=>x="all"
 | .begin=>x="begin"
 | .keep=>x="keep"
 | .brk=>x="break"
 | _=>inV (.str x) [V.str "bring",V.str "alter",V.str "cut"]=false/\¬ V.str x=V.str "all"/\¬ V.str x=V.str "begin"/\inV (.str x) [V.str "keep",V.str "break"]=false
theorem k_h {H:Hp} {a:Addr} {d:Deed} (hd:DeedAt H a d):∃(x:Str) (r:List V),H a=some (.tup (.str x::r))/\WD x d:=by
 cases d with
 | chg c=>
   cases c with
   | bring ρ=>obtain⟨r,h1,h2⟩:=id hd;exact⟨"bring",_,h1,show inV _ _=true by decide+kernel⟩
   | alter ρ=>obtain⟨r,h1,h2⟩:=id hd;exact⟨"alter",_,h1,show inV _ _=true by decide+kernel⟩
   | cut n=>exact⟨"cut",_,hd,show inV _ _=true by decide+kernel⟩
 | all cs=>obtain⟨l,as,h1,_⟩:=id hd;exact⟨_,_,h1,rfl⟩
 | begin=>exact⟨_,_,hd,rfl⟩
 | keep=>exact⟨_,_,hd,rfl⟩
 | brk=>exact⟨_,_,hd,rfl⟩
 | row n=>exact⟨_,_,hd,by decide+kernel,by decide+kernel,by decide+kernel,by decide+kernel⟩
 | within x lo hi=>exact⟨_,_,hd,by decide+kernel,by decide+kernel,by decide+kernel,by decide+kernel⟩
 | both lo hi t=>exact⟨_,_,hd,by decide+kernel,by decide+kernel,by decide+kernel,by decide+kernel⟩
 | «from» x k m=>exact⟨_,_,hd,by decide+kernel,by decide+kernel,by decide+kernel,by decide+kernel⟩
 | spot x n=>exact⟨_,_,hd,by decide+kernel,by decide+kernel,by decide+kernel,by decide+kernel⟩
theorem d_l {room:Int} {l0:List Row}:∀{cs:List Chg} {i:Nat} {l:List Row},(c_i room l0 i l cs).2= .str "done"\/∃j x,(c_i room l0 i l cs).2= .tup [.int j,.str x]
 | [],i,l=> .inl rfl
 | c::r,i,l=>by
   unfold c_i
   dsimp only
   split
   ·exact d_l
   ·exact .inr ⟨_,_,rfl⟩
theorem m_G {H H':Hp} {f:List Addr} {d:D} {v:V} (h:d= .str "done"\/∃j x,d= .tup [.int j,.str x]) (hb:Bears H' d v):Ans H' f d v/\NewA H H' v:=by
 rcases h with rfl | ⟨j,x,rfl⟩
 ·cases hb
  exact⟨.str _,NewA.str _⟩
 ·cases hb with
  | tup h1 h2=>
    cases h2 with
    | cons a b=>
      cases a
      cases b with
      | cons a b=>
        cases a
        cases b
        exact⟨.pair h1,NewA.tup h1⟩
theorem c_0 {α β:Type} {F:α->β->Prop} {b:β}:∀{l:List α} {B:List β},Paired F l (B++ [b])->∃l0 a,l=l0++ [a]/\Paired F l0 B/\F a b
 | [],B,h=>by have:=Paired.length h;simp at this
 | x::r, [],h=>by
   cases h with
   | cons h t=>
     cases t
     exact⟨[],x,rfl,.nil,h⟩
 | x::r,c::B,h=>by
   cases h with
   | cons h t=>
     obtain⟨l0,a,e,p,q⟩:=c_0 t
     exact⟨x::l0,a,by rw[e];rfl,.cons h p,q⟩
abbrev q_i (H:Hp) (st kd mk:Addr) (mas:List Addr) (room:Int) (Q:VK) (r:Sto×D):Prop:=∀(v:V) (kd':Addr) (mas':List Addr) (H':Hp),StoAt H' st kd' mk mas' room r.1->Stp H H' (st::mk::kd::mas) (st::mk::kd'::mas')->a_R H H'->Ans H' (st::mk::kd'::mas') r.2 v->NewA H H' v->Q v H'
section
variable {P:Program} {w:World} {K:PySem.W.Frag} {mg:Str->Option Value} {base:Heap}
def e_P:Sp:=λvs H Q _=>∃(st kd mk a:Addr) (mas:List Addr) (room sd:Int) (s:Sto) (d:Deed),vs= [.ref st,.ref a]/\StoAt H st kd mk mas room s/\DeedAt H a d/\d.form/\d.tell sd/\s.inML sd/\s.nums/\s.marks.length<=900/\d.wsz<=900/\q_i H st kd mk mas room Q (s.step room d)
theorem e_1:a_s ["_law_store","_law_deed","_law_before"] ["_law_store","_law_deed"] (a_m d_6):=⟨rfl,rfl,rfl,by decide+kernel,rfl,by decide+kernel,by decide+kernel⟩
theorem h_g {f fCd fAl fTo:Addr} {fd fdCd fdAl fdTo:FuncData} (F:Fun K "_law_answered" "_law_answered" d_6 f fd) (B:Bt mg) (gCd:Gf K mg "_law_changed" fCd fdCd ["_law_store","_law_deed"]) (GCd:FnOk P w K mg base CX0 1 fCd fdCd ["_law_store","_law_deed"] d_Z)
 (gAl:Gf K mg "_law_all_changed" fAl fdAl ["_law_store","_law_deeds"]) (GAl:FnOk P w K mg base CX0 2 fAl fdAl ["_law_store","_law_deeds"] c_l) (gTo:Gf K mg "_law_told_by_all" fTo fdTo ["_law_store","_law_deed"]) (GTo:FnOk P w K mg base CX0 2 fTo fdTo ["_law_store","_law_deed"] l_H):FnOk P w K mg base CX0 3 f fd ["_law_store","_law_deed"] e_P:=by
 refine F.ok e_1 (λvs H Q E h=> ?_) (λcdv A outer s H vs Q E hr h=> ?_)
 ·obtain⟨st,kd,mk,a,mas,room,sd,so,d,rfl,_⟩:=h
  rfl
 ·obtain⟨st,kd,mk,a,mas,room,sd,so,d,rfl,S,hd,hf,htl,hml,hnum,hm,hwz,fin⟩:=h
  have hu1:=e_G hr
  have hu:=hr.units0
  have hr1:Room 1 _:=hr.mono (by decide)
  have hr2:Room 2 _:=hr.mono (by decide)
  refine⟨_,(a_c (a_C (a_k e_x (a_r a_p (pv 1) a_f (λ_ _=>rfl)) (a_U (a_a a_l (a_a a_l (a_a a_l a_d)))) (by with_unfolding_all rfl)) (a_g (a_n (a_j GCd hr1 rfl gCd.mg gCd.kp gCd.b .nil a_u (a_a (pv 0) (a_a (pv 1) a_d))))) a_q)
   (a_c (a_C (a_k a_H (a_r a_p (pv 1) a_f (λ_ _=>rfl)) a_l (a_o _)) (a_g (a_n (a_j GAl hr2 rfl gAl.mg gAl.kp gAl.b .nil a_u (a_a (pv 0) (a_a (a_r a_p (pv 1) a_f (λ_ _=>rfl)) a_d))))) a_q)
   (a_c (a_C (a_k a_H (a_r a_p (pv 1) a_f (λ_ _=>rfl)) a_l (a_o _)) (a_c (a_z (b_C r_W r_Y r_X a_Q (b_j hu1 (pv 0) a_l (λ_ _=>rfl)) (a_a (e_p PySem.F.plainAttrs_dict PySem.F.slot_dict_copy PySem.F.type_dict_copy h_s (b_j hu1 (pv 0) a_l (λ_ _=>rfl))) a_d)))
   (a_g (a_n a_l))) a_q)
   (a_c (a_C (a_k e_x (a_r a_p (pv 1) a_f (λ_ _=>rfl)) (a_U (a_a a_l (a_a a_l a_d))) (by with_unfolding_all rfl)) (a_c (a_C (a_k (h_N hu) (b_j hu1 (pv 0) a_l (λ_ _=>rfl)) (a_U a_d) (a_o _)) (a_g (a_n a_l)) a_q)
   (a_c (a_w (i:=2) e_1.nd rfl (Or.inl rfl) (e_p r_W PySem.F.slot_list_pop PySem.F.type_list_pop f_S (b_j hu1 (pv 0) a_l (λ_ _=>rfl))))
   (a_c (a_C (a_k a_H (a_r a_p (pv 1) a_f (λ_ _=>rfl)) a_l (a_o _)) (a_g (d_9 hu1 (pv 0) a_l (pv 2) rfl)) a_q)
   (a_g (a_n a_l))))) a_q)
   (a_g (a_n (a_j GTo hr2 rfl gTo.mg gTo.kp gTo.b .nil a_u (a_a (pv 0) (a_a (pv 1) a_d))))))))),?_⟩
  obtain⟨hst,hk,hmk,hms,hndp⟩:=id S
  have hlen:so.kept.length < 64:=d_f hnum.kept hml.kept
  have hml2:mas.length=so.marks.length:=by rw[Paired.length hms,r_O]
  have n_sm:st≠mk:=λe=>by simp[e] at hndp
  have n_sk:st≠kd:=λe=>by simp[e] at hndp
  have n_mk:mk≠kd:=λe=>by simp[e] at hndp
  have n_s:∀b∈mas,b≠st:=λb hb e=>by rw[e] at hb;simp[hb] at hndp
  have n_m:∀b∈mas,b≠mk:=λb hb e=>by rw[e] at hb;simp[hb] at hndp
  have n_k:∀b∈mas,b≠kd:=λb hb e=>by rw[e] at hb;simp[hb] at hndp
  have n_d:mas.Nodup:=by simp at hndp;exact hndp.2.2.2
  obtain⟨rs,hkd,hR⟩:=id hk
  have tkO:∀{H1 H2:Hp},Same H H1->(∀b u,H1 b=some u->b∉st::mk::kd::mas->H2 b=some u)->a_R H H2:=λs1 k2 b xs q=>k2 _ _ (s1 _ _ q) λhb=>(S.fpin b hb).2 xs q
  have stp:∀{H1 H2:Hp} {f:List Addr},Same H H1->(∀b u,H1 b=some u->b∉st::mk::kd::mas->H2 b=some u)->(∀b∈f,b∈st::mk::kd::mas\/H b=none)->Stp H H2 (st::mk::kd::mas) f:=λs1 k2 hf=>⟨λb u q hb=>k2 _ _ (s1 _ _ q) hb,hf⟩
  have msK:∀{H1 H2:Hp},Same H H1->a_R H H2->(∀b∈mas,∀u,H1 b=some u->H2 b=some u)->Paired (KeptAt H2) mas so.marks.reverse:=λs1 tk k=>b_0 tk hms λb hb u q=>k b hb u (s1 _ _ q)
  obtain⟨x,rr,hw,hwd⟩:=k_h hd
  refine⟨_,rfl,a,_,_,_,rfl,rfl,SqT.of hw,a_e (j:=0) rfl,by show 3<=sizeLine;decide,λn1 hn1=> ?_⟩
  have s1:=Same.upd_new (o:= .lst [V.str "bring",V.str "alter",V.str "cut"]) hn1
  refine⟨n1,_,rfl,.inl (SqL.of a_b),rfl,rfl,_,rfl,?_⟩
  generalize upd H n1 (.lst [V.str "bring",V.str "alter",V.str "cut"])=H1 at s1 ⊢
  have hw1:=s1 _ _ hw
  by_cases has:d.asks
  ·have hq:inV (.str x) [V.str "bring",V.str "alter",V.str "cut"]=false∧¬ V.str x=V.str "all"∧¬ V.str x=V.str "begin"∧inV (.str x) [V.str "keep",V.str "break"]=false:=by
    cases d <;> first | exact hwd | exact has.elim
   obtain⟨w1,w2,w3,w4⟩:=hq
   refine a_x (λq=>absurd (show inV _ _=true from q) (by rw[w1];decide)) (λ_=> ?_)
   refine⟨_,rfl,a,_,_,_,rfl,rfl,SqT.of hw1,a_e (j:=0) rfl,rfl,_,rfl,a_x (λq=>absurd (r_U q) w2) (λ_=> ?_)⟩
   refine⟨_,rfl,a,_,_,_,rfl,rfl,SqT.of hw1,a_e (j:=0) rfl,rfl,_,rfl,a_x (λq=>absurd (r_U q) w3) (λ_=> ?_)⟩
   refine⟨_,rfl,a,_,_,_,rfl,rfl,SqT.of hw1,a_e (j:=0) rfl,by show 2<=sizeLine;decide,λn2 hn2=> ?_⟩
   have s2:=Same.upd_new (o:= .lst [V.str "keep",V.str "break"]) hn2
   refine⟨n2,_,rfl,.inl (SqL.of a_b),rfl,rfl,_,rfl,?_⟩
   generalize upd H1 n2 (.lst [V.str "keep",V.str "break"])=H2 at s2 ⊢
   have s12:=s1.trans s2
   refine a_x (λq=>absurd (show inV _ _=true from q) (by rw[w4];decide)) (λ_=> ?_)
   rw[k_m has] at fin
   refine⟨_,rfl,_,rfl,st,kd,mk,a,room,so.kept,d,st::mk::kd::mas,rfl,s12 _ _ hst,KeptAt.same hk s12,DeedAt.same s12 hd,has,hf,hlen,hnum.kept,λb hb=> ?_, λv H' s' hA hnew=> ?_⟩
   ·obtain⟨⟨u,q⟩,_⟩:=S.fpin b hb
    rw[s12 _ _ q];exact λz=>by cases z
   ·exact fin v kd mas H' (S.same (s12.trans s')) (stp (s12.trans s') (λb u h _=>h) λb hb=> .inl hb) (tkO (s12.trans s') λb u h _=>h) hA λt xs e q=>s12.free (hnew t xs e q)
  cases d with
  | chg c=>
    refine a_x (λ_=> ?_) (λq=>absurd (show inV _ _=true from hwd) q)
    refine⟨_,rfl,_,rfl,st,kd,mk,a,room,so.kept,c,rfl,s1 _ _ hst,KeptAt.same hk s1,ChgAt.mono (H:=H) (λb xs q=>s1 _ _ q) hd,by omega,λH2 k2 s2=> ?_⟩
    have k2':∀b u,H1 b=some u->b∉st::mk::kd::mas->H2 b=some u:=λb u h hn=>s2 _ _ h λe=>hn (by rw[e];simp)
    have tk:=tkO s1 k2'
    exact fin (.str (b_f room so.kept c).2) kd mas H2 ⟨s2 _ _ (s1 _ _ hst) n_sk,k2,s2 _ _ (s1 _ _ hmk) n_mk,msK s1 tk λb hb u h=>s2 _ _ h (n_k b hb),hndp⟩ (stp s1 k2' λb hb=> .inl hb) tk (.str _) (NewA.str _)
  | all cs=>
    obtain⟨la,as,h1,h2,h3⟩:=id hd
    have h1':=s1 _ _ h1
    have hwd:x="all":=hwd
    subst hwd
    refine a_x (λq=>absurd (show inV _ _=true from q) (by decide+kernel)) (λ_=> ?_)
    refine⟨_,rfl,a,_,_,_,rfl,rfl,SqT.of hw1,a_e (j:=0) rfl,rfl,_,rfl,a_x (λ_=> ?_) (λq=>absurd (r_S rfl) q)⟩
    refine⟨_,rfl,_,rfl,a,_,_,_,rfl,rfl,SqT.of h1',a_e (j:=1) rfl,st,kd,mk,la,as,room,so.kept,cs,rfl,s1 _ _ hst,KeptAt.same hk s1,s1 _ _ h2,a_E (λb xs q=>s1 _ _ q) h3,?_, n_sk.symm,λv kd' H' q1 q2 q3 q4 q5=> ?_⟩
    ·have:cs.length<=900:=hwz
     omega
    have k2':∀b u,H1 b=some u->b∉st::mk::kd::mas->H' b=some u:=λb u h hn=>q4 _ _ h (λe=>hn (by rw[e];simp)) (λe=>hn (by rw[e];simp))
    have tk:=tkO s1 k2'
    obtain⟨a1,a2⟩:=m_G (H:=H) (f:=st::mk::kd'::mas) d_l q5
    have hkd':kd'=kd\/H kd'=none:=q3.imp id λq=>s1.free q
    refine fin v kd' mas H' ⟨q1,q2,q4 _ _ (s1 _ _ hmk) n_mk n_sm.symm,msK s1 tk λb hb u h=>q4 _ _ h (n_k b hb) (n_s b hb),?_⟩ (stp s1 k2' λb hb=> ?_) tk a1 a2
    ·rcases hkd' with e | e
     ·rw[e];exact hndp
     ·have nn:∀b∈st::mk::kd::mas,b≠kd':=fun b hb z=>by
       obtain⟨⟨u,q⟩,_⟩:=S.fpin b hb
       rw[z,e] at q;cases q
      have i1:=nn st (by simp)
      have i2:=nn mk (by simp)
      have i3:kd'∉mas:=λz=>nn kd' (by simp[z]) rfl
      simp at hndp ⊢;grind
    ·rcases hkd' with e | e
     ·rw[e] at hb;exact .inl hb
     ·simp at hb ⊢;grind
  | begin=>
    have hwd:x="begin":=hwd
    subst hwd
    refine a_x (λq=>absurd (show inV _ _=true from q) (by decide+kernel)) (λ_=> ?_)
    refine⟨_,rfl,a,_,_,_,rfl,rfl,SqT.of hw1,a_e (j:=0) rfl,rfl,_,rfl,a_x (λq=>absurd q (by decide+kernel)) (λ_=> ?_)⟩
    refine⟨_,rfl,a,_,_,_,rfl,rfl,SqT.of hw1,a_e (j:=0) rfl,rfl,_,rfl,a_x (λ_=> ?_) (λq=>absurd (r_S rfl) q)⟩
    refine⟨_,rfl,st,_,rfl,c_w (s1 _ _ hst),.inl ⟨rfl,_,SqL.of (s1 _ _ hmk)⟩,_,rfl,st,_,rfl,b_N (s1 _ _ hst),.inr (.inr (.inl ⟨rfl,.inl ⟨_,s1 _ _ hkd⟩⟩)),kd,_,rfl,rfl,s1 _ _ hkd,λbd hbd=> ?_⟩
    have s2:=Same.upd_new (o:= .dK (a_L rs so.kept)) hbd
    have hbd2:(upd H1 bd (.dK (a_L rs so.kept))) bd=some (.dK (a_L rs so.kept)):=a_b
    generalize upd H1 bd (.dK (a_L rs so.kept))=H2 at s2 hbd2 ⊢
    have s12:=s1.trans s2
    have hbd0:H bd=none:=s1.free hbd
    refine⟨mk,_,_,rfl,rfl,s12 _ _ hmk,by rw[r_c];exact a_G (by omega),?_⟩
    have k3:∀b u,H2 b=some u->b∉st::mk::kd::mas->(upd H2 mk (.lst (mas.map V.ref++ [V.ref bd]))) b=some u:=λb u h hn=>by rw[a_i (λe=>hn (by rw[e];simp))];exact h
    have k4:∀b u,H2 b=some u->b≠mk->(upd H2 mk (.lst (mas.map V.ref++ [V.ref bd]))) b=some u:=λb u h hn=>by rw[a_i hn];exact h
    have tk:=tkO s12 k3
    have nn:∀b∈st::mk::kd::mas,b≠bd:=λb hb z=>by
     obtain⟨⟨u,q⟩,_⟩:=S.fpin b hb
     rw[z,hbd0] at q;cases q
    have i1:=nn st (by simp)
    have i2:=nn mk (by simp)
    have i4:=nn kd (by simp)
    have i3:bd∉mas:=λz=>nn bd (by simp[z]) rfl
    refine fin (.str "done") kd (mas++ [bd]) _ ⟨k4 _ _ (s12 _ _ hst) n_sm,⟨rs,k4 _ _ (s12 _ _ hkd) n_mk.symm,hR.same tk⟩,?_, ?_, ?_⟩ (stp s12 k3 λb hb=> ?_) tk (.str _) (NewA.str _)
    ·rw[a_b,r_k];rfl
    ·show Paired _ _ (so.kept::so.marks).reverse
     rw[List.reverse_cons]
     exact a_F (msK s12 tk λb hb u h=>k4 _ _ h (n_m b hb)) (.cons ⟨rs,k4 _ _ hbd2 i2.symm,hR.same tk⟩ .nil)
    ·simp[List.nodup_append] at hndp ⊢;grind
    ·simp at hb ⊢;grind
  | keep=>
    have hwd:x="keep":=hwd
    subst hwd
    refine a_x (λq=>absurd (show inV _ _=true from q) (by decide+kernel)) (λ_=> ?_)
    refine⟨_,rfl,a,_,_,_,rfl,rfl,SqT.of hw1,a_e (j:=0) rfl,rfl,_,rfl,a_x (λq=>absurd q (by decide+kernel)) (λ_=> ?_)⟩
    refine⟨_,rfl,a,_,_,_,rfl,rfl,SqT.of hw1,a_e (j:=0) rfl,rfl,_,rfl,a_x (λq=>absurd q (by decide+kernel)) (λ_=> ?_)⟩
    refine⟨_,rfl,a,_,_,_,rfl,rfl,SqT.of hw1,a_e (j:=0) rfl,by show 2<=sizeLine;decide,λn2 hn2=> ?_⟩
    have s2:=Same.upd_new (o:= .lst [V.str "keep",V.str "break"]) hn2
    refine⟨n2,_,rfl,.inl (SqL.of a_b),rfl,rfl,_,rfl,?_⟩
    generalize upd H1 n2 (.lst [V.str "keep",V.str "break"])=H2 at s2 ⊢
    have s12:=s1.trans s2
    refine a_x (λ_=> ?_) (λq=>absurd (show inV _ _=true by decide+kernel) q)
    refine⟨_,rfl,st,_,rfl,c_w (s12 _ _ hst),by show 0<=sizeLine;decide,λn3 hn3=> ?_⟩
    have s3:=Same.upd_new (o:= .lst []) hn3
    refine⟨mk,n3,_,rfl,rfl,SqL.of (s3 _ _ (s12 _ _ hmk)),a_b,_,rfl,?_⟩
    generalize upd H2 n3 (.lst [])=H3 at s3 ⊢
    have s13:=s12.trans s3
    cases em:so.marks with
    | nil=>
      have e0:mas= []:=r_I.mp (by rw[hml2,em];rfl)
      refine a_x (λ_=> ?_) (λq=>absurd (by rw[e0];rfl) q)
      have es:so.step room .keep=(so,.str "not begun"):=by simp only[Sto.step,em]
      rw[es] at fin
      exact fin _ kd mas H3 (S.same s13) (stp s13 (λb u h _=>h) λb hb=> .inl hb) (tkO s13 λb u h _=>h) (.str _) (NewA.str _)
    | cons m r=>
      rw[em,List.reverse_cons] at hms
      obtain⟨ms0,bd,rfl,hp0,hb0⟩:=c_0 hms
      refine a_x (λq=>absurd (show ((ms0++ [bd]).map V.ref).isEmpty=true from q) (by simp)) (λ_=> ?_)
      have es:so.step room .keep=({ so with marks:=r },.str "done"):=by simp only[Sto.step,em]
      rw[es] at fin
      have hmk3:=s13 _ _ hmk
      refine⟨_,rfl,st,_,rfl,c_w (s13 _ _ hst),.inl ⟨rfl,_,SqL.of hmk3⟩,mk,_,V.ref bd,rfl,rfl,hmk3,by simp,?_⟩
      have edl:((ms0++ [bd]).map V.ref).dropLast=ms0.map V.ref:=by rw[r_k];exact List.dropLast_concat
      rw[edl]
      have k4:∀b u,H3 b=some u->b≠mk->(upd H3 mk (.lst (ms0.map V.ref))) b=some u:=λb u h hn=>by rw[a_i hn];exact h
      have hmk4:(upd H3 mk (.lst (ms0.map V.ref))) mk=some (.lst (ms0.map V.ref)):=a_b
      generalize upd H3 mk (.lst (ms0.map V.ref))=H4 at k4 hmk4 ⊢
      have hst4:=k4 _ _ (s13 _ _ hst) n_sm
      have hw4:=k4 _ _ (s13 _ _ hw) λe=>by rw[e,hmk] at hw;cases hw
      refine⟨_,rfl,a,_,_,_,rfl,rfl,SqT.of hw4,a_e (j:=0) rfl,rfl,_,rfl,a_x (λq=>absurd q (by decide+kernel)) (λ_=> ?_)⟩
      have k4':∀b u,H3 b=some u->b∉st::mk::kd::(ms0++ [bd])->H4 b=some u:=λb u h hn=>k4 b u h λe=>hn (by rw[e];simp)
      have tk:=tkO s13 k4'
      refine fin _ kd ms0 H4 ⟨hst4,?_, hmk4,?_, ?_⟩ (stp s13 k4' λb hb=> .inl ?_) tk (.str _) (NewA.str _)
      ·exact⟨rs,k4 _ _ (s13 _ _ hkd) n_mk.symm,hR.same tk⟩
      ·exact b_0 tk hp0 λb hb u h=>k4 _ _ (s13 _ _ h) (n_m b (r_L _ hb))
      ·simp at hndp ⊢;grind
      ·simp at hb ⊢;grind
  | brk=>
    have hwd:x="break":=hwd
    subst hwd
    refine a_x (λq=>absurd (show inV _ _=true from q) (by decide+kernel)) (λ_=> ?_)
    refine⟨_,rfl,a,_,_,_,rfl,rfl,SqT.of hw1,a_e (j:=0) rfl,rfl,_,rfl,a_x (λq=>absurd q (by decide+kernel)) (λ_=> ?_)⟩
    refine⟨_,rfl,a,_,_,_,rfl,rfl,SqT.of hw1,a_e (j:=0) rfl,rfl,_,rfl,a_x (λq=>absurd q (by decide+kernel)) (λ_=> ?_)⟩
    refine⟨_,rfl,a,_,_,_,rfl,rfl,SqT.of hw1,a_e (j:=0) rfl,by show 2<=sizeLine;decide,λn2 hn2=> ?_⟩
    have s2:=Same.upd_new (o:= .lst [V.str "keep",V.str "break"]) hn2
    refine⟨n2,_,rfl,.inl (SqL.of a_b),rfl,rfl,_,rfl,?_⟩
    generalize upd H1 n2 (.lst [V.str "keep",V.str "break"])=H2 at s2 ⊢
    have s12:=s1.trans s2
    refine a_x (λ_=> ?_) (λq=>absurd (show inV _ _=true by decide+kernel) q)
    refine⟨_,rfl,st,_,rfl,c_w (s12 _ _ hst),by show 0<=sizeLine;decide,λn3 hn3=> ?_⟩
    have s3:=Same.upd_new (o:= .lst []) hn3
    refine⟨mk,n3,_,rfl,rfl,SqL.of (s3 _ _ (s12 _ _ hmk)),a_b,_,rfl,?_⟩
    generalize upd H2 n3 (.lst [])=H3 at s3 ⊢
    have s13:=s12.trans s3
    cases em:so.marks with
    | nil=>
      have e0:mas= []:=r_I.mp (by rw[hml2,em];rfl)
      refine a_x (λ_=> ?_) (λq=>absurd (by rw[e0];rfl) q)
      have es:so.step room .brk=(so,.str "not begun"):=by simp only[Sto.step,em]
      rw[es] at fin
      exact fin _ kd mas H3 (S.same s13) (stp s13 (λb u h _=>h) λb hb=> .inl hb) (tkO s13 λb u h _=>h) (.str _) (NewA.str _)
    | cons m r=>
      rw[em,List.reverse_cons] at hms
      obtain⟨ms0,bd,rfl,hp0,hb0⟩:=c_0 hms
      refine a_x (λq=>absurd (show ((ms0++ [bd]).map V.ref).isEmpty=true from q) (by simp)) (λ_=> ?_)
      have es:so.step room .brk=(⟨m,r⟩,.str "done"):=by simp only[Sto.step,em]
      rw[es] at fin
      have hmk3:=s13 _ _ hmk
      refine⟨_,rfl,st,_,rfl,c_w (s13 _ _ hst),.inl ⟨rfl,_,SqL.of hmk3⟩,mk,_,V.ref bd,rfl,rfl,hmk3,by simp,?_⟩
      have edl:((ms0++ [bd]).map V.ref).dropLast=ms0.map V.ref:=by rw[r_k];exact List.dropLast_concat
      rw[edl]
      have k4:∀b u,H3 b=some u->b≠mk->(upd H3 mk (.lst (ms0.map V.ref))) b=some u:=λb u h hn=>by rw[a_i hn];exact h
      have hmk4:(upd H3 mk (.lst (ms0.map V.ref))) mk=some (.lst (ms0.map V.ref)):=a_b
      generalize upd H3 mk (.lst (ms0.map V.ref))=H4 at k4 hmk4 ⊢
      have hst4:=k4 _ _ (s13 _ _ hst) n_sm
      have hw4:=k4 _ _ (s13 _ _ hw) λe=>by rw[e,hmk] at hw;cases hw
      refine⟨_,rfl,a,_,_,_,rfl,rfl,SqT.of hw4,a_e (j:=0) rfl,rfl,_,rfl,a_x (λ_=> ?_) (λq=>absurd (r_S rfl) q)⟩
      refine⟨_,rfl,_,rfl,st,_,rfl,DPut.k (k:=Sum.inr ("kept":Str)) hst4 (by show 3 < sizeLine;decide),?_⟩
      rw[j_x]
      have k5:∀b u,H3 b=some u->b∉st::mk::kd::(ms0++ [bd])->(upd H4 st (.dK (e_F room bd mk))) b=some u:=λb u h hn=>by
       rw[a_i (λe=>hn (by rw[e];simp))]
       exact k4 b u h λe=>hn (by rw[e];simp)
      have k6:∀b∈ms0++ [bd],∀u,H b=some u->(upd H4 st (.dK (e_F room bd mk))) b=some u:=λb hb u h=>by
       rw[a_i (n_s b hb)]
       exact k4 _ _ (s13 _ _ h) (n_m b hb)
      have tk:=tkO s13 k5
      obtain⟨rb,hbd,hRb⟩:=hb0
      refine fin _ bd ms0 _ ⟨a_b,?_, ?_, ?_, ?_⟩ (stp s13 k5 λb hb=> .inl ?_) tk (.str _) (NewA.str _)
      ·exact⟨rb,k6 bd (by simp) _ hbd,hRb.same tk⟩
      ·rw[a_i n_sm.symm];exact hmk4
      ·exact b_0 tk hp0 λb hb u h=>k6 b (r_L _ hb) u h
      ·simp[List.nodup_append] at hndp ⊢;grind
      ·simp at hb ⊢;grind
  | _=>exact absurd trivial has
end
mutual
theorem Bears.same {H H':Hp} (s:Same H H'):∀{d:D} {v:V},Bears H d v->Bears H' d v
 | _,_,.int i=> .int i
 | _,_,.str x=> .str x
 | _,_,.lst h t=> .lst (s _ _ h) (BearsL.same s t)
 | _,_,.tup h t=> .tup (s _ _ h) (BearsL.same s t)
theorem BearsL.same {H H':Hp} (s:Same H H'):∀{ds:List D} {vs:List V},BearsL H ds vs->BearsL H' ds vs
 | _,_,.nil=> .nil
 | _,_,.cons h t=> .cons (Bears.same s h) (BearsL.same s t)
end
def n_U:Chg->D
 | .bring ρ=> .tup [.str "bring",i_n ρ]
 | .alter ρ=> .tup [.str "alter",i_n ρ]
 | .cut n=> .tup [.str "cut",.int n]
theorem i_6 {H:Hp} {a:Addr} {c:Chg} (h:ChgAt H a c):Bears H (n_U c) (.ref a):=by
 cases c with
 | bring ρ=>obtain⟨r,h1,h2⟩:=h;exact .tup h1 (.cons (.str _) (.cons (RowAt.bears h2) .nil))
 | alter ρ=>obtain⟨r,h1,h2⟩:=h;exact .tup h1 (.cons (.str _) (.cons (RowAt.bears h2) .nil))
 | cut n=>exact .tup h (.cons (.str _) (.cons (.int _) .nil))
theorem d_v {H:Hp}:∀{as:List Addr} {cs:List Chg},Paired (ChgAt H) as cs->BearsL H (cs.map n_U) (as.map V.ref)
 | _,_,.nil=> .nil
 | _,_,.cons h t=> .cons (i_6 h) (d_v t)
theorem o_r (ρ:Row):(i_n ρ).wt=4:=by simp[i_n,D.wt,D.wts]
theorem o_0 (c:Chg):(n_U c).wt<=6:=by
 cases c <;> simp[n_U,D.wt,D.wts,o_r]
theorem j_g:∀cs:List Chg,D.wts (cs.map n_U)<=6 * cs.length
 | []=>by simp[D.wts]
 | c::r=>by
   have:=o_0 c
   have:=j_g r
   simp only[r_r,D.wts,r_i]
   omega
theorem h_u (l:List Row):(e_A l).wt=1+4 * l.length:=by
 show 1+D.wts (l.map i_n)=_
 rw[i_1]
theorem j_q (room:Int):∀(ds:List Deed) (s:Sto),(s.run room ds).2.length=ds.length
 | [],s=>rfl
 | d::r,s=>by simp only[Sto.run,r_i,j_q room r]
theorem f_r {room:Int}:∀{ds:List Deed} {s:Sto},s.nums->(s.run room ds).1.nums
 | [],s,h=>h
 | d::r,s,h=>f_r (ds:=r) (i_T h)
theorem f_P {room:Int}:∀{ds:List Deed} {s:Sto},(s.run room ds).1.marks.length<=s.marks.length+ds.length
 | [],s=>r_l _
 | d::r,s=>by
   have h1:=i_l (room:=room) (s:=s) (d:=d)
   have h2:=f_P (room:=room) (ds:=r) (s:=(s.step room d).1)
   show ((s.step room d).1.run room r).1.marks.length<=_
   rw[r_i]
   omega
theorem h_B {d:Deed} (h:d.form):d.wsz<=24:=by
 cases d <;> first | exact h | exact r_E _
theorem h_n:∀{ds:List Deed},(∀d∈ds,d.form)->tot ds<=25 * ds.length
 | [],_=>by simp[tot]
 | d::r,h=>by
   have h1:=h_B (h d (r_g ..))
   have h2:=h_n (ds:=r) λx hx=>h x (r_f _ hx)
   have e:tot (d::r)=(d.wsz+1)+tot r:=by simp[tot]
   rw[e,r_i]
   omega
theorem i_a {K:PySem.W.Frag} {a Da:Addr} {σ:L2.St} {js:List Nat} {tt:TT} {te:TE} {QQ:Hp->Prop} {H:Hp} {as:List Addr} {ds:List Deed} (sd:Int) (ha:H a=some (.lst (as.map .ref))) (hP:Paired (DeedAt H) as ds) (hf:∀d∈ds,d.form/\d.short) (hD:H Da=none) (hsz:ds.length<=900)
 (ht:∀σ H2 (Qb:Bool->Hp->Prop),Qb true H2->tt σ H2 Qb)
 (he:∀b d H2 (Q:VK),Same H H2->DeedAt H2 b d->d.form->d.short->(∀(b':Addr) (d':Deed) (H3:Hp),Same H2 H3->DeedAt H3 b' d'->d'.form->d'.tell sd->(∀l',H3 b'=some (.tup [.str "all",.ref l'])->H2 l'=none)->(d.asks->d'.asks)->Q (.ref b') H3)->te (b_t σ js (some (.ref b))) H2 Q)
 (hd:∀H' bs ds',Same H H'->H' Da=some (.lst (bs.map V.ref))->Paired (DeedAt H') bs ds'->ds'.length=ds.length->(∀d∈ds',d.form/\d.tell sd)->((∀d∈ds,d.asks)->∀d∈ds',d.asks)->QQ H'):∃W:Nat->Nat->Hp->Prop,(∃m,W 0 m (upd H Da (.lst [])))/\f_c (Itl K a) Da σ js tt te QQ W:=by
 have hlen:=Paired.length hP
 refine c_x (K:=K) (xs:=as.map V.ref) (λi ys H5=>Same H H5/\∃(bs:List Addr) (ds':List Deed),ys=bs.map V.ref/\Paired (DeedBy Da H5) bs ds'/\ds'.length=i/\∀d∈ds',(d.form/\d.tell sd)/\((∀e∈ds,e.asks)->d.asks)) ⟨Same.upd_new hD, [], [],rfl,.nil,rfl,by simp⟩ (λi ys H5 _ _ h=>SqL.of (h.1 _ _ ha)) ?_ ?_
 ·rintro i v ys H5 hi hD5 ⟨s5,bs,ds',rfl,hb,hl,hg⟩
  rw[r_o] at hi
  cases e:as[i]? with
  | none=>rw[e] at hi;cases hi
  | some r=>
    rw[e] at hi
    obtain rfl:V.ref r=v:=r_j hi
    have hil:=(r_q.mp e).1
    obtain⟨d,hdd⟩:∃d,ds[i]? =some d:=⟨_,r_d (by omega)⟩
    obtain⟨a',e',hda⟩:=a_T hP hdd
    rw[e] at e'
    obtain rfl:r=a':=r_j e'
    obtain⟨f1,f2⟩:=hf d (r_C hdd)
    refine ht _ _ _ (k_w (he r d H5 _ s5 (DeedAt.same s5 hda) f1 f2 λb' d' H6 s6 h1 h2 h3 h4 h5=>⟨s6 _ _ hD5,?_, λb u hb'=> ?_, bs++ [b'],ds'++ [d'],by rw[r_k];rfl,?_, by simp[hl],λx hx=> ?_⟩))
    ·have:=Paired.length hb
     rw[r_c]
     exact a_G (by omega)
    ·rw[a_i (a_h hb' hD)]
     exact s6 _ _ (s5 _ _ hb')
    ·refine j_z (s6 _ _ hD5) (a_F (d_4 s6 hb) (.cons ⟨h1,λl' q z=> ?_⟩ .nil))
     have:=h4 l' q
     rw[z,hD5] at this;cases this
    ·rcases r_u.mp hx with q | q
     ·exact hg x q
     ·rw[r_h.mp q];exact⟨⟨h2,h3⟩,λz=>h5 (z d (r_C hdd))⟩
 ·rintro ys H5 hD5 ⟨s5,bs,ds',rfl,hb,hl,hg⟩
  rw[r_c] at hl
  exact hd H5 bs ds' s5 hD5 (f_7 hb) (by omega) (λd hd'=>(hg d hd').1) λz d hd'=>(hg d hd').2 z
end K1
namespace TO
open PySem L2
theorem k_t (room:Int):∀(ds es:List Deed) (s:Sto),s.run room (ds++es)=(((s.run room ds).1.run room es).1,(s.run room ds).2++((s.run room ds).1.run room es).2)
 | [],es,s=>rfl
 | d::r,es,s=>by
   show (((s.step room d).1.run room (r++es)).1,(s.step room d).2::((s.step room d).1.run room (r++es)).2)=_
   rw[k_t room r]
   rfl
end TO
namespace K1
open PySem L2 TO
theorem m_E {H0 H1 H2:Hp} {f f':List Addr} (sm:Same H0 H1) (fp:∀b∈f,H0 b=none) (F:Stp H1 H2 f f'):Same H0 H2/\∀b∈f',H0 b=none:=
 ⟨λb u hb=>F.keep _ _ (sm _ _ hb) λhc=>(by rw[fp b hc] at hb;cases hb),λb hb=>(F.new b hb).elim (fp b) λq=>sm.free q⟩
theorem l_j (ns:List Int) (lo hi:Option Int):∃ns':List Int,h_7 (ns.map V.int) lo hi=ns'.map V.int/\ns'.length<=ns.length:=by
 refine⟨(ns.drop (HT.sIx (ns.map V.int).length 0 lo)).take (HT.sIx (ns.map V.int).length (ns.map V.int).length hi - HT.sIx (ns.map V.int).length 0 lo),?_, ?_⟩
 ·unfold h_7
  rw[List.map_take,List.map_drop]
 ·rw[r_y,List.length_drop]
  omega
def l_h (K:PySem.W.Frag):Sp:=λvs H Q _=>∃(a:Addr) (ns:List Int),vs= [.ref a]/\SqL K H a (ns.map V.int)/\ns.length<=63/\∀H',Q (.bl true) H'
end K1
namespace L2
open PySem PySem.Spec PyProof.Rows
section
variable {X:Cx}
def p_O:R2:=λx y H Q=>∃t xs z,x= .ref t/\y= .str z/\H t=some (.tup xs)/\Q (.bl false) H
theorem n_q (hu:X.A.units < cLine):OpR X (compareOp .Eq) p_O:=by
 intro pins s σ H x y v u Q I rx ry h
 obtain⟨t,xs,z,rfl,rfl,ht,q⟩:=h
 cases rx
 obtain⟨tk,rfl⟩:=ry
 obtain⟨its,r,p,_⟩:=I.tuple (SqT.of ht:SqT X.K H t xs)
 exact SeqAt.RcAt.tuple_str (A:=X.A) (s:=s) z tk p hu _ _ _ _ (a_K I q rfl)
end
end L2
namespace TO
open PySem L2
theorem h_C {room:Int} {l0:List Row} {ms:List (List Row)}:∀{cs:List Chg} {i:Nat} {l:List Row},(c_i room l0 i l cs).2= .str "done"->((⟨l,ms⟩:Sto).run room (cs.map .chg)).1=⟨(c_i room l0 i l cs).1,ms⟩
 | [],i,l,_=>rfl
 | c::r,i,l,h=>by
   unfold c_i at h ⊢
   dsimp only at h ⊢
   split at h
   ·rename_i e
    rw[if_pos e]
    show ((⟨(b_f room l c).1,ms⟩:Sto).run room (r.map .chg)).1=_
    exact h_C h
   ·cases h
theorem d_X {room:Int} {l0:List Row}:∀{cs:List Chg} {i:Nat} {l:List Row} {j:Int} {x:Str},(c_i room l0 i l cs).2= .tup [.int j,.str x]->(c_i room l0 i l cs).1=l0
 | [],i,l,j,x,h=>by cases h
 | c::r,i,l,j,x,h=>by
   unfold c_i at h ⊢
   dsimp only at h ⊢
   split at h
   ·rename_i e
    rw[if_pos e]
    exact d_X h
   ·rename_i e
    rw[if_neg e]
theorem e_S {H:Hp}:∀{as:List Addr} {cs:List Chg},Paired (ChgAt H) as cs->Paired (DeedAt H) as (cs.map .chg)
 | _,_,.nil=> .nil
 | _,_,.cons h t=> .cons h (e_S t)
end TO
namespace K1
open PySem L2 TO
theorem h_c {K:PySem.W.Frag} {a Da:Addr} {σ:L2.St} {js:List Nat} {tt:TT} {te:TE} {QQ:Hp->Prop} {H:Hp} {as:List Addr} {cs:List Chg} (sd:Int) (ha:H a=some (.lst (as.map .ref))) (hP:Paired (ChgAt H) as cs) (hf:∀c∈cs,c.short) (hD:H Da=none) (hsz:cs.length<=900)
 (ht:∀σ H2 (Qb:Bool->Hp->Prop),Qb true H2->tt σ H2 Qb)
 (he:∀b c H2 (Q:VK),Same H H2->ChgAt H2 b c->c.short->(∀(b':Addr) (c':Chg) (H3:Hp),Same H2 H3->ChgAt H3 b' c'->c'.tell sd->Q (.ref b') H3)->te (b_t σ js (some (.ref b))) H2 Q)
 (hd:∀H' bs cs',Same H H'->H' Da=some (.lst (bs.map V.ref))->Paired (ChgAt H') bs cs'->cs'.length=cs.length->(∀c∈cs',c.tell sd)->QQ H'):∃W:Nat->Nat->Hp->Prop,(∃m,W 0 m (upd H Da (.lst [])))/\f_c (Itl K a) Da σ js tt te QQ W:=by
 have hlen:=Paired.length hP
 refine c_x (K:=K) (xs:=as.map V.ref) (λi ys H5=>Same H H5/\∃(bs:List Addr) (cs':List Chg),ys=bs.map V.ref/\Paired (ChgAt H5) bs cs'/\cs'.length=i/\∀c∈cs',c.tell sd) ⟨Same.upd_new hD, [], [],rfl,.nil,rfl,by simp⟩ (λi ys H5 _ _ h=>SqL.of (h.1 _ _ ha)) ?_ ?_
 ·rintro i v ys H5 hi hD5 ⟨s5,bs,cs',rfl,hb,hl,hg⟩
  rw[r_o] at hi
  cases e:as[i]? with
  | none=>rw[e] at hi;cases hi
  | some r=>
    rw[e] at hi
    obtain rfl:V.ref r=v:=r_j hi
    have hil:=(r_q.mp e).1
    obtain⟨c,hcc⟩:∃c,cs[i]? =some c:=⟨_,r_d (by omega)⟩
    obtain⟨a',e',hca⟩:=a_T hP hcc
    rw[e] at e'
    obtain rfl:r=a':=r_j e'
    refine ht _ _ _ (k_w (he r c H5 _ s5 (hca.mono λb xs q=>s5 _ _ q) (hf c (r_C hcc)) λb' c' H6 s6 h1 h2=>⟨s6 _ _ hD5,?_, λb u hb'=> ?_, bs++ [b'],cs'++ [c'],by rw[r_k];rfl,?_, by simp[hl],λx hx=> ?_⟩))
    ·have:=Paired.length hb
     rw[r_c]
     exact a_G (by omega)
    ·rw[a_i (a_h hb' hD)]
     exact s6 _ _ (s5 _ _ hb')
    ·exact a_E (NoTup.keep (NoTup.lst (s6 _ _ hD5))) (a_F (a_E (λb xs q=>s6 _ _ q) hb) (.cons h1 .nil))
    ·rcases r_u.mp hx with q | q
     ·exact hg x q
     ·rw[r_h.mp q];exact h2
 ·rintro ys H5 hD5 ⟨s5,bs,cs',rfl,hb,hl,hg⟩
  rw[r_c] at hl
  exact hd H5 bs cs' s5 hD5 hb (by omega) hg
def f_H (l:List Row):D:= .tup [e_A (a_3 false l),e_A (a_3 true l)]
theorem b_Z {H:Hp} {t r1 r2:Addr} {l:List Row} (ht:H t=some (.tup [.ref r1,.ref r2])) (h1:LstAt H r1 (a_3 false l)) (h2:LstAt H r2 (a_3 true l)):Bears H (f_H l) (.ref t):= .tup ht (.cons (LstAt.bears h1) (.cons (LstAt.bears h2) .nil))
theorem k_c {l:List Row} (h:l.length < 64):(f_H l).wt<=600:=by
 have h1:=h_u (a_3 false l)
 have h2:=h_u (a_3 true l)
 rw[a_8] at h1 h2
 show 1+D.wts [e_A (a_3 false l),e_A (a_3 true l)]<=600
 simp only[D.wts]
 omega
theorem h_A {H:Hp} {as bs:List Addr} {ds:List Deed} {cs:List Chg} {t lh:Addr} (hP:Paired (DeedAt H) as ds) (ht:H t=some (.tup [.str "all",.ref lh])) (hl:H lh=some (.lst (bs.map V.ref))) (hC:Paired (ChgAt H) bs cs):Paired (DeedAt H) (as++ [t]) (ds++ [.all cs]):=a_F hP (.cons ⟨lh,bs,ht,hl,hC⟩ .nil)
section
variable {P:Program} {w:World} {K:PySem.W.Frag} {mg:Str->Option Value} {base:Heap}
theorem c_j:a_s ["_law_script","_law_room","_law_deeds","_law_some","_law_k","_law_cell","_law_number","_law_handed","_law_found","_law_store","_law_deed","_law_due","_law_behind","_law_other","_law_rows"] ["_law_script"] (a_m p_U):=⟨rfl,rfl,rfl,by decide+kernel,rfl,by decide+kernel,by decide+kernel⟩
theorem o_6 {f fAt fRo fBr fDe fFar fDr fMv fCp fAw fBo fSa fNs fAn fAl fRb:Addr} {fd fdAt fdRo fdBr fdDe fdFar fdDr fdMv fdCp fdAw fdBo fdSa fdNs fdAn fdAl fdRb:FuncData} (F:Fun K "law" "law" p_U f fd) (B:Bt mg)
 (gAt:Gf K mg "_law_at" fAt fdAt ["_law_script","_law_k"]) (GAt:FnOk P w K mg base CX0 1 fAt fdAt ["_law_script","_law_k"] (m_s K)) (gRo:Gf K mg "_law_room_of" fRo fdRo ["_law_cell"]) (GRo:FnOk P w K mg base CX0 1 fRo fdRo ["_law_cell"] h_k)
 (gBr:Gf K mg "_law_brings_of" fBr fdBr ["_law_script"]) (GBr:FnOk P w K mg base CX0 3 fBr fdBr ["_law_script"] (e_Z K)) (gDe:Gf K mg "_law_deeds_of" fDe fdDe ["_law_cells"]) (GDe:FnOk P w K mg base CX0 4 fDe fdDe ["_law_cells"] (g_l K))
 (gFar:Gf K mg "_law_far" fFar fdFar ["_law_number"]) (GFar:FnOk P w K mg base CX0 1 fFar fdFar ["_law_number"] i_L) (gDr:Gf K mg "_law_drawn_row" fDr fdDr ["_law_number","_law_cell"]) (GDr:FnOk P w K mg base CX0 2 fDr fdDr ["_law_number","_law_cell"] f_l)
 (gMv:Gf K mg "_law_moved" fMv fdMv ["_law_deed","_law_seed"]) (GMv:FnOk P w K mg base CX0 6 fMv fdMv ["_law_deed","_law_seed"] q_q) (GMvC:FnOk P w K mg base CX0 5 fMv fdMv ["_law_deed","_law_seed"] n_p) (gCp:Gf K mg "_law_copied" fCp fdCp ["_law_deeds"]) (GCp:FnOk P w K mg base CX0 1 fCp fdCp ["_law_deeds"] h_O)
 (gAw:Gf K mg "answers" fAw fdAw ["room","deeds"]) (GAw:FnOk P w K mg base CX0 13 fAw fdAw ["room","deeds"] f_2) (gBo:Gf K mg "both_orders" fBo fdBo ["room","deeds"]) (GBo:FnOk P w K mg base CX0 13 fBo fdBo ["room","deeds"] i_8)
 (gSa:Gf K mg "_law_same" fSa fdSa ["_law_found","_law_due"]) (GSa:FnOk P w K mg base CX0 2 fSa fdSa ["_law_found","_law_due"] l_8)
 (gNs:Gf K mg "_law_new_store" fNs fdNs ["_law_room"]) (GNs:FnOk P w K mg base CX0 1 fNs fdNs ["_law_room"] e_U) (gAn:Gf K mg "_law_answered" fAn fdAn ["_law_store","_law_deed"]) (GAn:FnOk P w K mg base CX0 3 fAn fdAn ["_law_store","_law_deed"] e_P)
 (gAl:Gf K mg "_law_all_changed" fAl fdAl ["_law_store","_law_deeds"]) (GAl:FnOk P w K mg base CX0 2 fAl fdAl ["_law_store","_law_deeds"] c_l) (gRb:Gf K mg "_law_rows_by" fRb fdRb ["_law_store","_law_word"]) (GRb:FnOk P w K mg base CX0 1 fRb fdRb ["_law_store","_law_word"] f_w):FnOk P w K mg base CX0 14 f fd ["_law_script"] (l_h K):=by
 refine F.ok c_j (λvs H Q E h=> ?_) (λcdv A outer s H vs Q E hr h=> ?_)
 ·obtain⟨a,ns,rfl,_⟩:=h
  rfl
 ·obtain⟨a,ns,rfl,ha,hl,fin⟩:=h
  have hu:=hr.units0
  have hr13:Room 13 _:=hr
  have hr1:Room 1 _:=hr.mono (by decide)
  have hr2:Room 2 _:=hr.mono (by decide)
  have hr3:Room 3 _:=hr.mono (by decide)
  have hr4:Room 4 _:=hr.mono (by decide)
  have hr5:Room 5 _:=hr.mono (by decide)
  have hr6:Room 6 _:=hr.mono (by decide)
  refine⟨_,(a_c (a_w (i:=1) c_j.nd rfl (Or.inl rfl) (a_j GRo hr1 rfl gRo.mg gRo.kp gRo.b .nil a_u (a_a (a_j GAt hr1 rfl gAt.mg gAt.kp gAt.b .nil a_u (a_a (pv 0) (a_a a_f a_d))) a_d)))
   (a_c (a_w (i:=2) c_j.nd rfl (Or.inl rfl) (a_t g_b (a_j GBr hr3 rfl gBr.mg gBr.kp gBr.b .nil a_u (a_a (pv 0) a_d)) (a_j GDe hr4 rfl gDe.mg gDe.kp gDe.b .nil a_u (a_a (b_8 e_d (pv 0) (c_v a_f) d_w) a_d))))
   (a_c (a_w (i:=3) c_j.nd rfl (Or.inl rfl) (a_U a_d))
   (a_c (c_g PassesOwn.never rfl (b_L rfl B.range (a_a (a_t a_P (a_j GAt hr1 rfl gAt.mg gAt.kp gAt.b .nil a_u (a_a (pv 0) (a_a a_f a_d))) a_f) a_d)) (b_d (i:=4) c_j.nd rfl (Or.inl rfl))
   (a_c (a_w (i:=5) c_j.nd rfl (Or.inl rfl) (a_j GAt hr1 rfl gAt.mg gAt.kp gAt.b .nil a_u (a_a (pv 0) (a_a (a_t a_S a_f (pv 4)) a_d))))
   (a_c (a_w (i:=6) c_j.nd rfl (Or.inl rfl) (a_r a_M (a_U (a_a (a_t a_S a_f (pv 4)) (a_a (a_j GFar hr1 rfl gFar.mg gFar.kp gFar.b .nil a_u (a_a (a_t a_P (pv 5) a_f) a_d)) a_d))) (a_9 b_z (by rfl) B.int f_m (a_a (b_W a_H (a_t a_P (a_j GAt hr1 rfl gAt.mg gAt.kp gAt.b .nil a_u (a_a (pv 0) (a_a (a_t a_S a_f (pv 4)) a_d))) a_f) a_f (a_o _)) a_d)) (λ_ _=>rfl)))
   (a_c (a_z (b_C r_W r_Y r_X a_Q (pv 3) (a_a (a_J (a_a a_l (a_a (a_j GDr hr2 rfl gDr.mg gDr.kp gDr.b .nil a_u (a_a (pv 6) (a_a (a_t a_S (a_t a_2 (pv 5) a_f) (pv 4)) a_d))) a_d))) a_d)))
   (a_g (a_C (a_k a_H (a_t a_P (a_j GAt hr1 rfl gAt.mg gAt.kp gAt.b .nil a_u (a_a (pv 0) (a_a (a_t a_S a_f (pv 4)) a_d))) a_f) a_f (a_o _)) (a_g (a_z (b_C r_W r_Y r_X a_Q (pv 3) (a_a (a_J (a_a a_l (a_a (pv 6) a_d))) a_d)))) a_q))))))
   (a_c (c_B (k:=2) (x:="_law_deed") (fns:= ["_law_script"]) (js:= [0]) rfl ⟨rfl,by decide+kernel,by decide+kernel,rfl,by decide+kernel,by decide+kernel,rfl,by simp[Env.kindOf];exact rfl,rfl,by decide+kernel⟩ (b_e (pv 2)) (λ_ _ _ _=>c_a) (λ_ _ _ _=>(a_j GMv hr6 rfl gMv.mg gMv.kp gMv.b .nil a_u (a_a (pv 0) (a_a (a_j GAt hr1 rfl gAt.mg gAt.kp gAt.b .nil a_u (a_a (pv 1) (a_a a_f a_d))) a_d)))) c_j.nd rfl (Or.inl rfl))
   (a_c (c_B (k:=3) (x:="_law_deed") (fns:= ["_law_script"]) (js:= [0]) rfl ⟨rfl,by decide+kernel,by decide+kernel,rfl,by decide+kernel,by decide+kernel,rfl,by simp[Env.kindOf];exact rfl,rfl,by decide+kernel⟩ (b_e (pv 3)) (λ_ _ _ _=>c_a) (λ_ _ _ _=>(a_j GMvC hr5 rfl gMv.mg gMv.kp gMv.b .nil a_u (a_a (pv 0) (a_a (a_j GAt hr1 rfl gAt.mg gAt.kp gAt.b .nil a_u (a_a (pv 1) (a_a a_f a_d))) a_d)))) c_j.nd rfl (Or.inl rfl))
   (a_c (a_w (i:=7) c_j.nd rfl (Or.inl rfl) (a_9 b_T (by rfl) B.list d_A (a_a (pv 3) a_d)))
   (a_c (a_w (i:=8) c_j.nd rfl (Or.inl rfl) (a_j GAw hr13 rfl gAw.mg gAw.kp gAw.b .nil a_u (a_a (pv 1) (a_a (a_t g_b (a_j GCp hr1 rfl gCp.mg gCp.kp gCp.b .nil a_u (a_a (pv 2) a_d)) (a_U (a_a (a_J (a_a a_l (a_a (pv 7) a_d))) a_d))) a_d))))
   (a_c (a_C (PW.pt (e_c (g_d (c_M (a_j GSa hr2 rfl gSa.mg gSa.kp gSa.b .nil a_u (a_a (pv 7) (a_a (pv 3) a_d))))) (c_y (g_d (c_M (a_y b_E (by rfl) B.isi e_C (a_a (pv 8) (a_a (c_z B.list d_A) a_d)))))))) (a_g (a_n g_H)) a_q)
   (a_c (a_w (i:=9) c_j.nd rfl (Or.inl rfl) (a_j GNs hr1 rfl gNs.mg gNs.kp gNs.b .nil a_u (a_a (pv 1) a_d)))
   (a_c (c_g PassesOwn.never rfl (b_e (pv 2)) (b_d (i:=10) c_j.nd rfl (Or.inl rfl))
   (a_g (a_z (a_j GAn hr3 rfl gAn.mg gAn.kp gAn.b .nil a_u (a_a (pv 9) (a_a (pv 10) a_d))))))
   (a_c (a_w (i:=11) c_j.nd rfl (Or.inl rfl) (a_j GAl hr2 rfl gAl.mg gAl.kp gAl.b .nil a_u (a_a (pv 9) (a_a (pv 3) a_d))))
   (a_c (a_C (PW.pt (e_c (a_k d_D (a_y a_v (by rfl) B.len r_V (a_a (pv 8) a_d)) (a_t a_S (a_y a_v (by rfl) B.len r_V (a_a (pv 2) a_d)) a_f) (a_o _)) (c_y (g_d (c_M (a_j GSa hr2 rfl gSa.mg gSa.kp gSa.b .nil a_u (a_a (a_r a_M (pv 8) (o_k l_0 a_f) (λ_ _=>rfl)) (a_a (pv 11) a_d)))))))) (a_g (a_n g_H)) a_q)
   (a_c (a_w (i:=12) c_j.nd rfl (Or.inl rfl) (a_j GBo hr13 rfl gBo.mg gBo.kp gBo.b .nil a_u (a_a (pv 1) (a_a (a_t g_b (a_j GCp hr1 rfl gCp.mg gCp.kp gCp.b .nil a_u (a_a (pv 2) a_d)) (a_U (a_a (a_J (a_a a_l (a_a (a_9 b_T (by rfl) B.list d_A (a_a (pv 3) a_d)) a_d))) a_d))) a_d))))
   (a_c (a_w (i:=13) c_j.nd rfl (Or.inl rfl) (a_j GBo hr13 rfl gBo.mg gBo.kp gBo.b .nil a_u (a_a (pv 1) (a_a (a_j GCp hr1 rfl gCp.mg gCp.kp gCp.b .nil a_u (a_a (pv 2) a_d)) a_d))))
   (a_c (a_C (a_k (a_H.or (n_q hu)) (pv 11) a_l (a_o _)) (a_g (a_w (i:=13) c_j.nd rfl (Or.inl rfl) (a_j GBo hr13 rfl gBo.mg gBo.kp gBo.b .nil a_u (a_a (pv 1) (a_a (a_t g_b (a_j GCp hr1 rfl gCp.mg gCp.kp gCp.b .nil a_u (a_a (pv 2) a_d)) (a_9 b_T (by rfl) B.list d_A (a_a (pv 3) a_d))) a_d))))) a_q)
   (a_c (a_w (i:=14) c_j.nd rfl (Or.inl rfl) (a_J (a_a (a_j GRb hr1 rfl gRb.mg gRb.kp gRb.b .nil a_u (a_a (pv 9) (a_a a_l a_d))) (a_a (a_j GRb hr1 rfl gRb.mg gRb.kp gRb.b .nil a_u (a_a (pv 9) (a_a a_l a_d))) a_d))))
   (a_g (a_n (j_u (a_j GSa hr2 rfl gSa.mg gSa.kp gSa.b .nil a_u (a_a (pv 12) (a_a (pv 14) a_d))) (i_P (a_j GSa hr2 rfl gSa.mg gSa.kp gSa.b .nil a_u (a_a (pv 13) (a_a (pv 14) a_d)))))))))))))))))))))))),?_⟩
  refine⟨_,rfl,a,ns,0,rfl,ha,by omega,by decide,by decide,λH1 s1=>⟨_,rfl,λroom H2 s2=> ?_⟩⟩
  have s12:=s1.trans s2
  refine⟨_,rfl,a,ns,rfl,s12.seq ha,by omega,λl1 ds1 H3 hl1 s3 hL1 hO1=> ?_⟩
  have s13:=s12.trans s3
  refine⟨_,rfl,_,rfl,a,_,rfl,s13.seq ha,λp hp=> ?_⟩
  obtain⟨ns',ec,hn'⟩:=l_j ns (some 4) none
  have s4:=Same.upd_new (o:= .lst (h_7 (ns.map V.int) (some 4) none)) hp
  refine⟨p,ns',rfl,by rw[<-ec];exact SqL.of a_b,by omega,λl2 ds2 H5 hl2 s5 hL2 hO2=> ?_⟩
  have s35:=s4.trans s5
  have s15:=s13.trans s35
  obtain⟨as1,e1,P1⟩:=hL1
  obtain⟨as2,e2,P2⟩:=hL2
  have hn1:=Paired.length P1
  have hn2:=Paired.length P2
  have ho1:=hO1.1
  have ho2:=hO2.1
  refine⟨l1,l2,_,_,rfl,rfl,s35 _ _ e1,e2,by rw[r_c,r_c];exact Nat.le_of_lt (a_G (by omega)),λl3 hl3=> ?_⟩
  have s6:=Same.upd_new (o:= .lst (as1.map V.ref++as2.map V.ref)) hl3
  have e3:(upd H5 l3 (.lst (as1.map V.ref++as2.map V.ref))) l3=some (.lst ((as1++as2).map V.ref)):=by rw[a_b,r_k]
  generalize upd H5 l3 (.lst (as1.map V.ref++as2.map V.ref))=H6 at s6 e3 ⊢
  have s16:=s15.trans s6
  have P3:Paired (DeedAt H6) (as1++as2) (ds1++ds2):=a_F (a_Z (s35.trans s6) (f_7 P1)) (a_Z s6 (f_7 P2))
  have fs3:∀d∈ds1++ds2,d.form/\d.short:=λd hd=>by
   rcases r_u.mp hd with q | q
   ·exact hO1.2 d q
   ·exact hO2.2 d q
  refine⟨by show 0<=sizeLine;decide,λl4 hl4=> ?_⟩
  have s7:Same H6 (upd H6 l4 (.lst [])):=Same.upd_new hl4
  have m13:0<=atF ns 2 % 13/\atF ns 2 % 13 < 13:=⟨by omega,by omega⟩
  refine⟨_,rfl,a,ns,2,rfl,(s16.trans s7).seq ha,by omega,by decide,by decide,λH7 s8=>⟨_,_,rfl,rfl,(show (0:Int) < 13 by decide),_,rfl,by omega,by omega,b_X (lo:=0) (n:=(atF ns 2 % 13).toNat) (λi σ Hx=>∃(cs:List Chg) (as:List Addr) (v4 v5 v6:Option V),σ= [some (.ref a),some (.int room),some (.ref l3),some (.ref l4),v4,v5,v6,none,none,none,none,none,none,none,none]/\Same H6 Hx/\Hx l4=some (.lst (as.map V.ref))/\Paired (ChgAt Hx) as cs/\cs.length<=2 * i/\∀c∈cs,c.short) ⟨[], [],none,none,none,rfl,s7.trans s8,s8 _ _ a_b,.nil,by simp,by simp⟩ ?_ ?_⟩⟩
  ·rintro i σ Hx hi ⟨cs,as,v4,v5,v6,rfl,sx,hla,hC,hcl,hcs⟩
   have hi13:i < 13:=by omega
   have hal:=Paired.length hC
   have sHx:=s16.trans sx
   have hlt:(as.map V.ref).length < sizeLine:=by rw[r_c];exact a_G (by omega)
   refine⟨_,rfl,_,rfl,_,_,rfl,rfl,a,ns,_,rfl,sHx.seq ha,by omega,by omega,by omega,λH8 t8=> ?_⟩
   refine⟨_,rfl,_,_,rfl,rfl,_,rfl,_,_,rfl,rfl,(show (0:Int) < 26 by decide),_,rfl,λH9 t9=>⟨by show 2<=sizeLine;decide,λn1 hn1=> ?_⟩⟩
   generalize hcell:atF ns (4+(0+(i:Int)))=cell
   have t10:=Same.upd_new (o:= .lst [V.int (100+(0+(i:Int))),V.int (far (cell % 26))]) hn1
   have hn1':(upd H9 n1 (.lst [V.int (100+(0+(i:Int))),V.int (far (cell % 26))])) n1=some (.lst [V.int (100+(0+(i:Int))),V.int (far (cell % 26))]):=a_b
   generalize upd H9 n1 (.lst [V.int (100+(0+(i:Int))),V.int (far (cell % 26))])=H10 at t10 hn1' ⊢
   have tA:=(t8.trans t9).trans t10
   have sA:=sHx.trans tA
   refine⟨_,rfl,_,rfl,_,_,rfl,rfl,a,ns,_,rfl,sA.seq ha,by omega,by omega,by omega,λH11 t11=>⟨_,_,rfl,rfl,(show (0:Int) < 5 by decide),rfl,.inr ⟨_,rfl,?_⟩⟩⟩
   have pick:∀bb:Bool,∃num,atI [V.int (100+(0+(i:Int))),V.int (far (cell % 26))] (if bb=true then (1:Int) else 0)=some (.int num)/\num∈BL:=λbb=>by
    cases bb with
    | false=>exact⟨_,a_e (j:=0) rfl,r_p _ (r_H.mpr ⟨i,List.mem_range.mpr hi13,by omega⟩)⟩
    | true=>exact⟨_,a_e (j:=1) rfl,f_F (by omega) (by omega)⟩
   obtain⟨num,hnum,hBL⟩:=pick (decide (V.int (atF ns (20+(0+(i:Int))) % 5)=V.int 2))
   refine⟨n1,_,_,.int num,rfl,rfl,SqL.of (t11 _ _ hn1'),hnum,?_⟩
   have tB:=tA.trans t11
   have hlaB:=tB _ _ hla
   refine⟨_,rfl,.inl ⟨rfl,_,SqL.of hlaB⟩,_,rfl,_,rfl,_,_,rfl,rfl,⟨by decide,by decide⟩,_,rfl,_,_,rfl,rfl,_,_,rfl,λr ρ H12 hr0 t12 hρ en htl=>⟨by show 2<=sizeLine;decide,λt ht=> ?_⟩⟩
   have t13:=Same.upd_new (o:= .tup [V.str "bring",V.ref r]) ht
   have hbr:ChgAt (upd H12 t (.tup [V.str "bring",V.ref r])) t (.bring ρ):=⟨r,a_b,t13 _ _ hρ⟩
   generalize upd H12 t (.tup [V.str "bring",V.ref r])=H13 at t13 hbr ⊢
   have tC:=(tB.trans t12).trans t13
   have hlaC:=tC _ _ hla
   have C13:Paired (ChgAt H13) (as++ [t]) (cs++ [.bring ρ]):=a_F (a_E (λb xs q=>tC _ _ q) hC) (.cons hbr .nil)
   have h4n:∀{b:Addr} {u:HO},H6 b=some u->b≠l4:=λh=>a_h h hl4
   refine⟨l4,_,_,rfl,rfl,hlaC,hlt,?_⟩
   have ea:as.map V.ref++ [V.ref t]=(as++ [t]).map V.ref:=by rw[r_k];rfl
   rw[ea]
   have k14:∀b u,H13 b=some u->b≠l4->(upd H13 l4 (.lst ((as++ [t]).map V.ref))) b=some u:=λb u h hn=>by rw[a_i hn];exact h
   have e14:(upd H13 l4 (.lst ((as++ [t]).map V.ref))) l4=some (.lst ((as++ [t]).map V.ref)):=a_b
   have C14:Paired (ChgAt (upd H13 l4 (.lst ((as++ [t]).map V.ref)))) (as++ [t]) (cs++ [.bring ρ]):=a_E (NoTup.keep (NoTup.lst hlaC)) C13
   generalize upd H13 l4 (.lst ((as++ [t]).map V.ref))=H14 at k14 e14 C14 ⊢
   have s14:Same H6 H14:=λb u h=>k14 _ _ (tC _ _ (sx _ _ h)) (h4n h)
   have hcs':∀c∈cs++ [Chg.bring ρ],c.short:=λc hc=>by
    rcases r_u.mp hc with q | q
    ·exact hcs c q
    ·rw[r_h.mp q];exact⟨htl,by rw[en];exact hBL⟩
   refine⟨_,rfl,_,rfl,_,_,rfl,rfl,a,ns,_,rfl,(s16.trans s14).seq ha,by omega,by omega,by omega,λH15 t15=>⟨_,_,rfl,rfl,(show (0:Int) < 5 by decide),rfl,_,rfl,a_x (λ_=> ?_) (λ_=> ?_)⟩⟩
   ·refine⟨_,rfl,.inl ⟨rfl,_,SqL.of (t15 _ _ e14)⟩,_,rfl,by show 2<=sizeLine;decide,λt2 ht2=> ?_⟩
    have t16:=Same.upd_new (o:= .tup [V.str "cut",V.int num]) ht2
    have hcu:ChgAt (upd H15 t2 (.tup [V.str "cut",V.int num])) t2 (.cut num):=a_b
    generalize upd H15 t2 (.tup [V.str "cut",V.int num])=H16 at t16 hcu ⊢
    have tD:=t15.trans t16
    have e16:=tD _ _ e14
    have hl1':((as++ [t]).map V.ref).length < sizeLine:=by rw[r_c,r_e];exact a_G (by simp;omega)
    refine⟨l4,_,_,rfl,rfl,e16,hl1',(cs++ [.bring ρ])++ [.cut num],(as++ [t])++ [t2],_,_,_,rfl,λb u h=> ?_, ?_, ?_, ?_, λc hc=> ?_⟩
    ·rw[a_i (h4n h)];exact tD _ _ (s14 _ _ h)
    ·rw[a_b,r_k (l₂:= [t2])];rfl
    ·exact a_E (NoTup.keep (NoTup.lst e16)) (a_F (a_E (λb xs q=>tD _ _ q) C14) (.cons hcu .nil))
    ·simp only[r_e,r_i,r_M];omega
    ·rcases r_u.mp hc with q | q
     ·exact hcs' c q
     ·rw[r_h.mp q];exact hBL
   ·exact⟨cs++ [.bring ρ],as++ [t],_,_,_,rfl,s14.trans t15,t15 _ _ e14,a_E (λb xs q=>t15 _ _ q) C14,by simp only[r_e,r_i,r_M];omega,hcs'⟩
  rintro σ Hx ⟨cs0,as0,v4,v5,v6,rfl,sx,hla0,hC0,hcl0,hcs0⟩
  have hc24:cs0.length<=24:=by omega
  have sHx:=s16.trans sx
  refine⟨_,rfl,l3,rfl,⟨_,SqL.of (sx _ _ e3)⟩,λDa hDa=>i_a (atF ns 3) (sx _ _ e3) (a_Z sx P3) fs3 hDa (by rw[r_e];omega) (λ_ _ _ q=>q) ?_ ?_⟩
  ·intro b d Hx' Qx sx' hd hf hs k
   refine⟨_,rfl,_,rfl,a,ns,3,rfl,(sHx.trans sx').seq ha,by omega,by decide,by decide,λHy' sy'=> ?_⟩
   exact⟨b,d,_,rfl,DeedAt.same sy' hd,hf,hs,λb' d' Hz sz h1 h2 h3 h4 h5=>k b' d' Hz (sy'.trans sz) h1 h2 h3 (λl' q=>sy'.free (h4 l' q)) h5⟩
  intro H7' asD ds s7' e7 P7 hdl hft _
  rw[r_e] at hdl
  have sH7:=sHx.trans s7'
  refine⟨_,rfl,l4,rfl,⟨_,SqL.of (s7' _ _ hla0)⟩,λDs hDs=>h_c (atF ns 3) (s7' _ _ hla0) (a_E (λb xs q=>s7' _ _ q) hC0) hcs0 hDs (by omega) (λ_ _ _ q=>q) ?_ ?_⟩
  ·intro b c Hx' Qx sx' hc hs k
   refine⟨_,rfl,_,rfl,a,ns,3,rfl,(sH7.trans sx').seq ha,by omega,by decide,by decide,λHy' sy'=> ?_⟩
   exact⟨b,c,_,rfl,hc.mono (λb xs q=>sy' _ _ q),hs,λb' c' Hz _ sz h1 h2=>k b' c' Hz (sy'.trans sz) h1 h2⟩
  intro H8' asC cs s8' e8 C8 hcl htl
  have hcs24:cs.length<=24:=by omega
  have hfm:∀d∈ds,d.form:=λd hd=>(hft d hd).1
  -- handed=list(some)
  refine⟨_,rfl,Ds,_,rfl,.inl (SqL.of e8),λlh hlh=> ?_⟩
  have s9':=Same.upd_new (o:= .lst (asC.map V.ref)) hlh
  have e9:(upd H8' lh (.lst (asC.map V.ref))) lh=some (.lst (asC.map V.ref)):=a_b
  generalize upd H8' lh (.lst (asC.map V.ref))=H9' at s9' e9 ⊢
  have s79:=s8'.trans s9'
  have hnD:=Paired.length P7
  have hnC:=Paired.length C8
  -- the answers
  refine⟨_,rfl,_,rfl,Da,ds,rfl,⟨asD,s79 _ _ e7,a_Z s79 P7⟩,by omega,λm1 H10 hm1 s10 hLm1=> ?_⟩
  obtain⟨am1,em1,Pm1⟩:=hLm1
  have hna1:=Paired.length Pm1
  refine⟨_,rfl,by show 2<=sizeLine;decide,λta hta=>⟨by show 1<=sizeLine;decide,λla hla=> ?_⟩⟩
  have s11:=Same.upd_new (o:= .tup [V.str "all",V.ref lh]) hta
  have e11:(upd H10 ta (.tup [V.str "all",V.ref lh])) ta=some (.tup [V.str "all",V.ref lh]):=a_b
  generalize upd H10 ta (.tup [V.str "all",V.ref lh])=H11 at s11 e11 hla ⊢
  have s12':=Same.upd_new (o:= .lst [V.ref ta]) hla
  have e12:(upd H11 la (.lst [V.ref ta])) la=some (.lst [V.ref ta]):=a_b
  generalize upd H11 la (.lst [V.ref ta])=H12 at s12' e12 ⊢
  have s1012:=s11.trans s12'
  refine⟨m1,la,_,_,rfl,rfl,s1012 _ _ em1,e12,by rw[r_c];exact Nat.le_of_lt (a_G (by simp;omega)),λlc hlc=> ?_⟩
  have s13':=Same.upd_new (o:= .lst (am1.map V.ref++ [V.ref ta])) hlc
  have e13:(upd H12 lc (.lst (am1.map V.ref++ [V.ref ta]))) lc=some (.lst ((am1++ [ta]).map V.ref)):=by rw[a_b,r_k];rfl
  generalize upd H12 lc (.lst (am1.map V.ref++ [V.ref ta]))=H13 at s13' e13 ⊢
  have s1013:=s1012.trans s13'
  have s913:=s10.trans s1013
  have PA:Paired (DeedAt H13) (am1++ [ta]) (ds++ [.all cs]):=h_A (a_Z s1013 (f_7 Pm1)) (s13' _ _ (s12' _ _ e11)) (s913 _ _ e9) (a_E (λb xs q=>s913 _ _ (s9' _ _ q)) C8)
  have ftA:∀d∈ds++ [Deed.all cs],d.form/\d.tell (atF ns 3):=λd hd=>by
   rcases r_u.mp hd with q | q
   ·exact hft d q
   ·rw[r_h.mp q];exact⟨hcs24,htl⟩
  have htotA:=h_n (λd hd=>(ftA d hd).1)
  rw[r_e,r_K] at htotA
  refine⟨room,atF ns 3,lc,_,ds++ [.all cs],rfl,e13,PA,ftA,by omega,by rw[r_e,r_K];omega,λlf vs14 H14 hlf s14 e14 B14=> ?_⟩
  have s914:=s913.trans s14
  have s814:=s9'.trans s914
  have hcw:=j_g cs
  refine⟨_,rfl,_,rfl,.lst (cs.map n_U),.ref lh,.ref Ds,rfl,.lst (s914 _ _ e9) (d_v (a_E (λb xs q=>s814 _ _ q) C8)),.lst (s814 _ _ e8) (d_v (a_E (λb xs q=>s814 _ _ q) C8)),?_, λH15 s15=>⟨_,rfl,g_u ?_⟩⟩
  ·show 1+D.wts _ < 100000
   omega
  refine⟨_,rfl,_,_,_,_,rfl,.lst (s15 _ _ e14),rfl,_,rfl,g_u ?_⟩
  -- the law's own store
  refine⟨_,rfl,room,rfl,λst kd mk H16 hst hkd hmk hnd s16' g1 g2 g3=> ?_⟩
  have St:StoAt H16 st kd mk [] room ⟨[], []⟩:=⟨g1,⟨[],g2,.nil⟩,g3,.nil,by simp at hnd ⊢;grind⟩
  have ms0:(⟨[], []⟩:Sto).inML (atF ns 3):=⟨by simp,by simp⟩
  have ns0:(⟨[], []⟩:Sto).nums:=⟨by simp[b_7],by simp⟩
  have s715:=(s79.trans s914).trans s15
  have P7a:=a_Z s715 P7
  have e7a:=s715 _ _ e7
  refine⟨_,rfl,Da,rfl,⟨_,SqL.of (s16' _ _ e7a)⟩,c_F (K:=K) (a:=Da) (xs:=asD.map V.ref) (λi σ Hx=>∃(kd1:Addr) (mas1:List Addr) (v10:Option V),σ= [some (.ref a),some (.int room),some (.ref Da),some (.ref Ds),v4,v5,v6,some (.ref lh),some (.ref lf),some (.ref st),v10,none,none,none,none]/\Same H15 Hx/\StoAt Hx st kd1 mk mas1 room ((⟨[], []⟩:Sto).run room (ds.take i)).1/\∀b∈st::mk::kd1::mas1,H15 b=none)
   ⟨kd, [],none,rfl,s16',St,by simp[hst,hkd,hmk]⟩ (λi σ Hx _ ⟨_,_,_,_,sx,_,_⟩=>SqL.of (sx _ _ e7a)) ?_ ?_⟩
  ·rintro i v σ Hx hi ⟨kd1,mas1,v9,rfl,sm1,S1,fp1⟩
   rw[r_o] at hi
   cases e:asD[i]? with
   | none=>rw[e] at hi;cases hi
   | some r=>
     rw[e] at hi
     obtain rfl:V.ref r=v:=r_j hi
     have hil:=(r_q.mp e).1
     obtain⟨d,hdd⟩:∃d,ds[i]? =some d:=⟨_,r_d (by omega)⟩
     obtain⟨a',e',hda⟩:=a_T P7a hdd
     rw[e] at e'
     obtain rfl:r=a':=r_j e'
     obtain⟨hdf,hdt⟩:=hft d (r_C hdd)
     have et:ds.take (i+1)=ds.take i++ [d]:=by rw[r_D,hdd];rfl
     have tl:∀e∈ds.take i,e.tell (atF ns 3):=λe he=>(hft e (List.mem_of_mem_take he)).2
     have hmk1:=f_P (room:=room) (ds:=ds.take i) (s:=⟨[], []⟩)
     rw[r_y] at hmk1
     simp only[r_M,Nat.zero_add] at hmk1
     refine⟨_,rfl,_,rfl,st,kd1,mk,r,mas1,room,atF ns 3,_,d,rfl,S1,DeedAt.same sm1 hda,hdf,hdt,f_O tl ms0,f_r ns0,by omega,r_x (h_B hdf) (by decide),λu kd2 mas2 H2' S2 F2 tk2 _ _=> ?_⟩
     obtain⟨sm2,fp2⟩:=m_E sm1 fp1 F2
     refine⟨kd2,mas2,_,rfl,sm2,?_, fp2⟩
     rw[et,d_e]
     exact S2
  rintro σ H17 ⟨kd1,mas1,v10,rfl,sm1,S1,fp1⟩
  rw[r_c,hnD,r_w (r_l _)] at S1
  have tl7:∀e∈ds,e.tell (atF ns 3):=λe he=>(hft e he).2
  have ml7:=f_O (room:=room) tl7 ms0
  have nm7:=f_r (room:=room) (ds:=ds) ns0
  have hlen7:=d_f nm7.kept ml7.kept
  have hrl:=j_q room ds ⟨[], []⟩
  have hrsn:=d_e room ds ⟨[], []⟩ (.all cs)
  have hrap:=k_t room ds (cs.map .chg) ⟨[], []⟩
  generalize hS:(⟨[], []⟩:Sto).run room ds=S7 at S1 ml7 nm7 hlen7 hrl hrsn hrap
  obtain⟨⟨L7,M7⟩,A7⟩:=S7
  dsimp only at S1 ml7 nm7 hlen7 hrl hrsn hrap
  have s817:=(s814.trans s15).trans sm1
  have C17:=a_E (H':=H17) (λb xs q=>s817 _ _ q) C8
  refine⟨_,rfl,_,rfl,st,kd1,mk,Ds,asC,room,L7,cs,rfl,S1.sto,S1.kept,s817 _ _ e8,C17,by omega,?_, λvd kd2 H18 sto2 kept2 _ kp2 bD=> ?_⟩
  ·have:=S1.nd
   simp at this
   grind
  have sm2:Same H15 H18:=λb u h=>kp2 _ _ (sm1 _ _ h) (λe=>by rw[e,fp1 kd1 (by simp)] at h;cases h) (λe=>by rw[e,fp1 st (by simp)] at h;cases h)
  have nKP:b_7 (c_i room L7 0 L7 cs).1:=e_m nm7.kept nm7.kept
  have mKP:=g_D (room:=room) (i:=0) ml7.kept htl ml7.kept
  have lKP:=d_f nKP mKP
  have hst7:(⟨L7,M7⟩:Sto).step room (.all cs)=(⟨(c_i room L7 0 L7 cs).1,M7⟩,(c_i room L7 0 L7 cs).2):=rfl
  rw[hst7] at hrsn
  have s918:=(s914.trans s15).trans sm2
  have s718:=s79.trans s918
  have s818:=s9'.trans s918
  -- found has one answer a deed,and the last is that of all
  have hBl:=B14.len
  rw[hrsn] at hBl B14
  rw[r_e,r_K,hrl] at hBl
  obtain⟨us,ul,rfl,Bus,Bul⟩:=BearsL.snoc B14
  have hul:us.length=ds.length:=by rw[r_e,r_K] at hBl;omega
  have el14:=(s15.trans sm2) _ _ e14
  refine⟨_,rfl,lf,_,rfl,.inl (SqL.of el14),_,rfl,Da,_,rfl,.inl (SqL.of (s718 _ _ e7)),_,_,rfl,rfl,rfl,_,rfl,a_x (λq=>absurd q ?_) (λ_=> ?_)⟩
  ·have hz:(((us++ [ul]).length:Nat):Int)=(((asD.map V.ref).length:Nat):Int)+1:=by rw[r_e,r_K,r_c,hul,hnD];simp
   rw[hz]
   simp
  have hlast:atI (us++ [ul]) (-1)=some ul:=by
   unfold atI ixN
   rw[if_neg (by omega)]
   rw[r_e,r_K]
   rw[if_pos (by omega)]
   have hz:(-1+((us.length:Int)+1)).toNat=us.length:=by omega
   simp
   rw[hz]
   simp
  have hall:(c_i room L7 0 L7 cs).2.wt<=300:=by
   rcases d_l (room:=room) (l0:=L7) (cs:=cs) (i:=0) (l:=L7) with e | ⟨j,x,e⟩ <;> rw[e] <;> simp[D.wt,D.wts]
  refine⟨_,rfl,_,rfl,lf,_,_,_,rfl,rfl,SqL.of el14,hlast,_,rfl,(c_i room L7 0 L7 cs).2,ul,vd,rfl,Bears.same (s15.trans sm2) Bul,bD,by omega,λH19 s19=>⟨_,rfl,g_u ?_⟩⟩
  have s719:=s718.trans s19
  have s819:=s818.trans s19
  have C19:=a_E (H':=H19) (λb xs q=>s819 _ _ q) C8
  have P19:=a_Z s719 P7
  -- behind
  refine⟨_,rfl,_,rfl,Da,ds,rfl,⟨asD,s719 _ _ e7,P19⟩,by omega,λm2 Ha hm2 sa hLm2=> ?_⟩
  obtain⟨am2,em2,Pm2⟩:=hLm2
  have hna2:=Paired.length Pm2
  refine⟨_,rfl,Ds,_,rfl,.inl (SqL.of ((s819.trans sa) _ _ e8)),λlh2 hlh2=>⟨by show 2<=sizeLine;decide,λtb1 htb1=>⟨by show 1<=sizeLine;decide,λlb hlb=> ?_⟩⟩⟩
  have sb:=Same.upd_new (o:= .lst (asC.map V.ref)) hlh2
  have eb:(upd Ha lh2 (.lst (asC.map V.ref))) lh2=some (.lst (asC.map V.ref)):=a_b
  generalize upd Ha lh2 (.lst (asC.map V.ref))=Hb at sb eb htb1 hlb ⊢
  have sc:=Same.upd_new (o:= .tup [V.str "all",V.ref lh2]) htb1
  have ecc:(upd Hb tb1 (.tup [V.str "all",V.ref lh2])) tb1=some (.tup [V.str "all",V.ref lh2]):=a_b
  generalize upd Hb tb1 (.tup [V.str "all",V.ref lh2])=Hc at sc ecc hlb ⊢
  have sd':=Same.upd_new (o:= .lst [V.ref tb1]) hlb
  have ed:(upd Hc lb (.lst [V.ref tb1])) lb=some (.lst [V.ref tb1]):=a_b
  generalize upd Hc lb (.lst [V.ref tb1])=Hd' at sd' ed ⊢
  have sad:=(sb.trans sc).trans sd'
  refine⟨m2,lb,_,_,rfl,rfl,sad _ _ em2,ed,by rw[r_c];exact Nat.le_of_lt (a_G (by simp;omega)),λlc2 hlc2=> ?_⟩
  have se:=Same.upd_new (o:= .lst (am2.map V.ref++ [V.ref tb1])) hlc2
  have ee:(upd Hd' lc2 (.lst (am2.map V.ref++ [V.ref tb1]))) lc2=some (.lst ((am2++ [tb1]).map V.ref)):=by rw[a_b,r_k];rfl
  generalize upd Hd' lc2 (.lst (am2.map V.ref++ [V.ref tb1]))=He at se ee ⊢
  have sae:=sad.trans se
  have PB:Paired (DeedAt He) (am2++ [tb1]) (ds++ [.all cs]):=h_A (a_Z sae (f_7 Pm2)) (se _ _ (sd' _ _ ecc)) (se _ _ (sd' _ _ (sc _ _ eb))) (a_E (λb xs q=>sae _ _ (sa _ _ q)) C19)
  refine⟨room,atF ns 3,lc2,_,ds++ [.all cs],rfl,ee,PB,ftA,by omega,by rw[r_e,r_K];omega,λtb r1 r2 Hf _ _ _ sf etb hLr1 hLr2=> ?_⟩
  rw[hrsn] at hLr1 hLr2
  generalize hKP:(c_i room L7 0 L7 cs).1=KP at *
  have bB0:=b_Z etb hLr1 hLr2
  have s19f:=(sa.trans sae).trans sf
  have s7f:=s719.trans s19f
  -- other
  refine⟨_,rfl,_,rfl,Da,ds,rfl,⟨asD,s7f _ _ e7,a_Z s7f P7⟩,by omega,λm3 Hg hm3 sg hLm3=> ?_⟩
  obtain⟨am3,em3,Pm3⟩:=hLm3
  have htot:=h_n hfm
  refine⟨room,atF ns 3,m3,_,ds,rfl,em3,f_7 Pm3,hft,by omega,by omega,λto1 r3 r4 Hh _ _ _ sh eto hLr3 hLr4=> ?_⟩
  rw[hS] at hLr3 hLr4
  have bO0:=b_Z eto hLr3 hLr4
  have sfh:=sg.trans sh
  have s7h:=s7f.trans sfh
  have s19h:=s19f.trans sfh
  rcases d_l (room:=room) (l0:=L7) (cs:=cs) (i:=0) (l:=L7) with hdone | ⟨jj,xx,href⟩
  ·rw[hdone] at bD
   cases bD
   refine⟨_,rfl,.inl ⟨rfl,_,rfl,a_x (λ_=> ?_) (λq=>absurd (r_S rfl) q)⟩⟩
   refine⟨_,rfl,_,rfl,Da,ds,rfl,⟨asD,s7h _ _ e7,a_Z s7h P7⟩,by omega,λm4 Hi hm4 si hLm4=> ?_⟩
   obtain⟨am4,em4,Pm4⟩:=hLm4
   have hna4:=Paired.length Pm4
   have s8i:=(s819.trans s19h).trans si
   refine⟨_,rfl,Ds,_,rfl,.inl (SqL.of (s8i _ _ e8)),λlh3 hlh3=> ?_⟩
   have sj:=Same.upd_new (o:= .lst (asC.map V.ref)) hlh3
   have ej:(upd Hi lh3 (.lst (asC.map V.ref))) lh3=some (.lst (asC.map V.ref)):=a_b
   generalize upd Hi lh3 (.lst (asC.map V.ref))=Hj at sj ej ⊢
   refine⟨m4,lh3,_,_,rfl,rfl,sj _ _ em4,ej,by rw[r_c,r_c];exact Nat.le_of_lt (a_G (by omega)),λlc4 hlc4=> ?_⟩
   have sk:=Same.upd_new (o:= .lst (am4.map V.ref++asC.map V.ref)) hlc4
   have ek:(upd Hj lc4 (.lst (am4.map V.ref++asC.map V.ref))) lc4=some (.lst ((am4++asC).map V.ref)):=by rw[a_b,r_k]
   generalize upd Hj lc4 (.lst (am4.map V.ref++asC.map V.ref))=Hk at sk ek ⊢
   have sjk:=sj.trans sk
   have PC:Paired (DeedAt Hk) (am4++asC) (ds++cs.map .chg):=a_F (a_Z sjk (f_7 Pm4)) (e_S (a_E (λb xs q=>sjk _ _ (s8i _ _ q)) C8))
   have ftC:∀d∈ds++cs.map Deed.chg,d.form/\d.tell (atF ns 3):=λd hd=>by
    rcases r_u.mp hd with q | q
    ·exact hft d q
    ·obtain⟨c,hc,rfl⟩:=r_H.mp q
     exact⟨trivial,htl c hc⟩
   have htotC:=h_n (λd hd=>(ftC d hd).1)
   rw[r_e,r_c] at htotC
   refine⟨room,atF ns 3,lc4,_,ds++cs.map .chg,rfl,ek,PC,ftC,by omega,by rw[r_e,r_c];omega,λto r5 r6 Hl _ _ _ sl' eto2 hLr5 hLr6=> ?_⟩
   rw[hrap,h_C hdone,hKP] at hLr5 hLr6
   have bO:=b_Z eto2 hLr5 hLr6
   have shl:=(si.trans sjk).trans sl'
   have bB:=Bears.same (sfh.trans shl) bB0
   have sto4:=(s19.trans (s19h.trans shl)) _ _ sto2
   have kept4:=KeptAt.same kept2 (s19.trans (s19h.trans shl))
   refine⟨_,rfl,st,kd2,mk,room,KP,false,rfl,sto4,kept4,nKP,lKP,λq1 H20 hq1 s20 hL1=> ?_⟩
   refine⟨_,rfl,st,kd2,mk,room,KP,true,rfl,s20 _ _ sto4,KeptAt.same kept4 s20,nKP,lKP,λq2 H21 hq2 s21 hL2=>⟨by show 2<=sizeLine;decide,λtq htq=> ?_⟩⟩
   have s22:=Same.upd_new (o:= .tup [V.ref q1,V.ref q2]) htq
   have s1922:=(s20.trans s21).trans s22
   have bR:Bears (upd H21 tq (.tup [V.ref q1,V.ref q2])) (f_H KP) (.ref tq):=b_Z a_b (LstAt.sameS hL1 (s21.trans s22)) (LstAt.sameS hL2 s22)
   generalize upd H21 tq (.tup [V.ref q1,V.ref q2])=H22 at s22 s1922 bR ⊢
   have hpw:=k_c lKP
   refine⟨_,rfl,_,rfl,f_H KP,.ref tb,.ref tq,rfl,Bears.same s1922 bB,bR,by omega,λH23 s23=>⟨_,rfl,?_⟩⟩
   exact⟨_,rfl,_,rfl,f_H KP,.ref to,.ref tq,rfl,Bears.same (s1922.trans s23) bO,Bears.same s23 bR,by omega,λH24 _=>fin H24⟩
  ·have hk:=d_X href
   rw[hKP] at hk
   subst hk
   rw[href] at bD
   cases bD with
   | tup ht _=>
     refine⟨_,rfl,.inr ⟨_,_,_,rfl,rfl,(s19.trans s19h) _ _ ht,_,rfl,g_u ?_⟩⟩
     have bO:=bO0
     have bB:=Bears.same sfh bB0
     have sto4:=(s19.trans s19h) _ _ sto2
     have kept4:=KeptAt.same kept2 (s19.trans s19h)
     refine⟨_,rfl,st,kd2,mk,room,KP,false,rfl,sto4,kept4,nKP,lKP,λq1 H20 hq1 s20 hL1=> ?_⟩
     refine⟨_,rfl,st,kd2,mk,room,KP,true,rfl,s20 _ _ sto4,KeptAt.same kept4 s20,nKP,lKP,λq2 H21 hq2 s21 hL2=>⟨by show 2<=sizeLine;decide,λtq htq=> ?_⟩⟩
     have s22:=Same.upd_new (o:= .tup [V.ref q1,V.ref q2]) htq
     have s1922:=(s20.trans s21).trans s22
     have bR:Bears (upd H21 tq (.tup [V.ref q1,V.ref q2])) (f_H KP) (.ref tq):=b_Z a_b (LstAt.sameS hL1 (s21.trans s22)) (LstAt.sameS hL2 s22)
     generalize upd H21 tq (.tup [V.ref q1,V.ref q2])=H22 at s22 s1922 bR ⊢
     have hpw:=k_c lKP
     refine⟨_,rfl,_,rfl,f_H KP,.ref tb,.ref tq,rfl,Bears.same s1922 bB,bR,by omega,λH23 s23=>⟨_,rfl,?_⟩⟩
     exact⟨_,rfl,_,rfl,f_H KP,.ref to1,.ref tq,rfl,Bears.same (s1922.trans s23) bO,Bears.same s23 bR,by omega,λH24 _=>fin H24⟩
end
section
variable {K:PySem.W.Frag} {x q:Str} {st:Stmt} {f:Addr} {fd:FuncData}
abbrev bnd (x q:Str) (st:Stmt) (us:List Value) (r:List (Str×Value)):Prop:=∀(kV doc pm:Value) (an:Option Addr) (cdv ct:Value),bindArgs (PySem.W.fnOf x q (e_k st) (c_X st) (a_m st) .none kV doc pm an cdv ct) ⟨us, []⟩=pure r
theorem bd0 (F:Fun K x q st f fd) (h:bnd x q st [] []):Binds K fd [] []:=F.binds λa b c d e g us hl=>match us,hl with | [],_=>h  a b c d e g
theorem bd1 {p1:Str} (F:Fun K x q st f fd) (h:∀v1,bnd x q st [v1] [(p1,v1)]):Binds K fd [p1] []:=F.binds λa b c d e g us hl=>match us,hl with | [v1],_=>h v1 a b c d e g
theorem bd2 {p1 p2:Str} (F:Fun K x q st f fd) (h:∀v1 v2,bnd x q st [v1,v2] [(p1,v1),(p2,v2)]):Binds K fd [p1,p2] []:=F.binds λa b c d e g us hl=>match us,hl with | [v1,v2],_=>h v1 v2 a b c d e g
theorem bd3 {p1 p2 p3:Str} (F:Fun K x q st f fd) (h:∀v1 v2 v3,bnd x q st [v1,v2,v3] [(p1,v1),(p2,v2),(p3,v3)]):Binds K fd [p1,p2,p3] []:=F.binds λa b c d e g us hl=>match us,hl with | [v1,v2,v3],_=>h v1 v2 v3 a b c d e g
theorem bd4 {p1 p2 p3 p4:Str} (F:Fun K x q st f fd) (h:∀v1 v2 v3 v4,bnd x q st [v1,v2,v3,v4] [(p1,v1),(p2,v2),(p3,v3),(p4,v4)]):Binds K fd [p1,p2,p3,p4] []:=F.binds λa b c d e g us hl=>match us,hl with | [v1,v2,v3,v4],_=>h v1 v2 v3 v4 a b c d e g
end
theorem o_G {l:PySem.W.OpenLaw} {w:World} {K:PySem.W.Frag} {h:Heap} {mg:Str->Option Value} {fa CO CS CT CF CM CN CNo aq:Addr} (X:K.In h) (G:h.Ns mainGlobals mg) (hfa:mg "law"=some (.ref fa))
 {t1 t2 t3 t4 t5 u1 u2 u3 u4 u5:Tok} {dq:Option Addr} {nq:Nat} {sq:Array (Option Value)}
 {fInit:Addr} {dInit:FuncData}
 {fTake:Addr} {dTake:FuncData}
 {fLet:Addr} {dLet:FuncData}
 {fAhead:Addr} {dAhead:FuncData}
 {fBetw:Addr} {dBetw:FuncData}
 {fBA:Addr} {dBA:FuncData}
 {fRA:Addr} {dRA:FuncData}
 {fSplit:Addr} {dSplit:FuncData}
 {fJoin:Addr} {dJoin:FuncData}
 {fRows:Addr} {dRows:FuncData}
 {fSInit:Addr} {dSInit:FuncData}
 {fSBring:Addr} {dSBring:FuncData}
 {fSAlter:Addr} {dSAlter:FuncData}
 {fSCut:Addr} {dSCut:FuncData}
 {fSBegin:Addr} {dSBegin:FuncData}
 {fSKeep:Addr} {dSKeep:FuncData}
 {fSBreak:Addr} {dSBreak:FuncData}
 {fSRowOf:Addr} {dSRowOf:FuncData}
 {fSEnd:Addr} {dSEnd:FuncData}
 {fSChange:Addr} {dSChange:FuncData}
 {fSExch:Addr} {dSExch:FuncData}
 {fCW:Addr} {dCW:FuncData}
 {fLead:Addr} {dLead:FuncData}
 {fKey:Addr} {dKey:FuncData}
 {fqOrderOf:Addr} {dqOrderOf:FuncData}
 {fqWithin:Addr} {dqWithin:FuncData}
 {fqText:Addr} {dqText:FuncData}
 {fqRankKey:Addr} {dqRankKey:FuncData}
 {fqFrom:Addr} {dqFrom:FuncData}
 {fqSpot:Addr} {dqSpot:FuncData}
 {fdAnswers:Addr} {ddAnswers:FuncData}
 {fdAnsIn:Addr} {ddAnsIn:FuncData}
 {fdAnsOf:Addr} {ddAnsOf:FuncData}
 {fdAll:Addr} {ddAll:FuncData}
 {fdOne:Addr} {ddOne:FuncData}
 {fdDo:Addr} {ddDo:FuncData}
 {fdAsk:Addr} {ddAsk:FuncData}
 {fWhole:Addr} {dWhole:FuncData}
 {fAt:Addr} {dAt:FuncData}
 {fSame:Addr} {dSame:FuncData}
 {fTexts:Addr} {dTexts:FuncData}
 {fDrawn:Addr} {dDrawn:FuncData}
 {fFar:Addr} {dFar:FuncData}
 {fChangeOf:Addr} {dChangeOf:FuncData}
 {fQuestionOf:Addr} {dQuestionOf:FuncData}
 {fBringsOf:Addr} {dBringsOf:FuncData}
 {fDeedsOf:Addr} {dDeedsOf:FuncData}
 {fNewStore:Addr} {dNewStore:FuncData}
 {fRowsBy:Addr} {dRowsBy:FuncData}
 {fChanged:Addr} {dChanged:FuncData}
 {fAllChanged:Addr} {dAllChanged:FuncData}
 {fLies:Addr} {dLies:FuncData}
 {fToldByAll:Addr} {dToldByAll:FuncData}
 {fAnswered:Addr} {dAnswered:FuncData}
 {fStep:Addr} {dStep:FuncData}
 {fRaised:Addr} {dRaised:FuncData}
 {fRanked:Addr} {dRanked:FuncData}
 {fSigned:Addr} {dSigned:FuncData}
 {fMoved:Addr} {dMoved:FuncData}
 {fDeedMoved:Addr} {dDeedMoved:FuncData}
 {fRoomOf:Addr} {dRoomOf:FuncData}
 {fCopied:Addr} {dCopied:FuncData}
 {fdBothO:Addr} {ddBothO:FuncData}
 {fLaw:Addr} {dLaw:FuncData}
 (aCO:PySem.W.nsIn K mainGlobals "Order"=some (some (.ref CO))) (aCS:PySem.W.nsIn K mainGlobals "Store"=some (some (.ref CS)))
 (aInit:PySem.W.findIn K (.ref CO) "__init__"=some (some (.ref fInit))) (iInit:PySem.W.isFn K (.ref fInit)=true)
 (FInit:Fun K "__init__" "Order.__init__" m_T fInit dInit)
 (aTake:PySem.W.findIn K (.ref CO) "take_in"=some (some (.ref fTake))) (iTake:PySem.W.isFn K (.ref fTake)=true)
 (FTake:Fun K "take_in" "Order.take_in" n_a fTake dTake)
 (aLet:PySem.W.findIn K (.ref CO) "let_out"=some (some (.ref fLet))) (iLet:PySem.W.isFn K (.ref fLet)=true)
 (FLet:Fun K "let_out" "Order.let_out" p_w fLet dLet)
 (aAhead:PySem.W.findIn K (.ref CO) "ahead_of"=some (some (.ref fAhead))) (iAhead:PySem.W.isFn K (.ref fAhead)=true)
 (FAhead:Fun K "ahead_of" "Order.ahead_of" j_1 fAhead dAhead)
 (aBetw:PySem.W.findIn K (.ref CO) "between"=some (some (.ref fBetw))) (iBetw:PySem.W.isFn K (.ref fBetw)=true)
 (FBetw:Fun K "between" "Order.between" m_2 fBetw dBetw)
 (aBA:PySem.W.findIn K (.ref CO) "blocks_ahead"=some (some (.ref fBA))) (iBA:PySem.W.isFn K (.ref fBA)=true)
 (FBA:Fun K "blocks_ahead" "Order.blocks_ahead" sBA fBA dBA)
 (aRA:PySem.W.findIn K (.ref CO) "rows_ahead"=some (some (.ref fRA))) (iRA:PySem.W.isFn K (.ref fRA)=true)
 (FRA:Fun K "rows_ahead" "Order.rows_ahead" sRA fRA dRA)
 (aSplit:PySem.W.findIn K (.ref CO) "split_block"=some (some (.ref fSplit))) (iSplit:PySem.W.isFn K (.ref fSplit)=true)
 (FSplit:Fun K "split_block" "Order.split_block" j_e fSplit dSplit)
 (aJoin:PySem.W.findIn K (.ref CO) "join_if_few"=some (some (.ref fJoin))) (iJoin:PySem.W.isFn K (.ref fJoin)=true)
 (FJoin:Fun K "join_if_few" "Order.join_if_few" m_F fJoin dJoin)
 (aRows:PySem.W.findIn K (.ref CO) "rows"=some (some (.ref fRows))) (iRows:PySem.W.isFn K (.ref fRows)=true)
 (FRows:Fun K "rows" "Order.rows" n_x fRows dRows)
 (aSInit:PySem.W.findIn K (.ref CS) "__init__"=some (some (.ref fSInit))) (iSInit:PySem.W.isFn K (.ref fSInit)=true)
 (FSInit:Fun K "__init__" "Store.__init__" n_t fSInit dSInit)
 (aSBring:PySem.W.findIn K (.ref CS) "bring"=some (some (.ref fSBring))) (iSBring:PySem.W.isFn K (.ref fSBring)=true)
 (FSBring:Fun K "bring" "Store.bring" k_n fSBring dSBring)
 (aSAlter:PySem.W.findIn K (.ref CS) "alter"=some (some (.ref fSAlter))) (iSAlter:PySem.W.isFn K (.ref fSAlter)=true)
 (FSAlter:Fun K "alter" "Store.alter" i_H fSAlter dSAlter)
 (aSCut:PySem.W.findIn K (.ref CS) "cut"=some (some (.ref fSCut))) (iSCut:PySem.W.isFn K (.ref fSCut)=true)
 (FSCut:Fun K "cut" "Store.cut" p_Z fSCut dSCut)
 (aSBegin:PySem.W.findIn K (.ref CS) "begin"=some (some (.ref fSBegin))) (iSBegin:PySem.W.isFn K (.ref fSBegin)=true)
 (FSBegin:Fun K "begin" "Store.begin" j_6 fSBegin dSBegin)
 (aSKeep:PySem.W.findIn K (.ref CS) "keep"=some (some (.ref fSKeep))) (iSKeep:PySem.W.isFn K (.ref fSKeep)=true)
 (FSKeep:Fun K "keep" "Store.keep" m_3 fSKeep dSKeep)
 (aSBreak:PySem.W.findIn K (.ref CS) "break_off"=some (some (.ref fSBreak))) (iSBreak:PySem.W.isFn K (.ref fSBreak)=true)
 (FSBreak:Fun K "break_off" "Store.break_off" i_J fSBreak dSBreak)
 (aSRowOf:PySem.W.findIn K (.ref CS) "row_of"=some (some (.ref fSRowOf))) (iSRowOf:PySem.W.isFn K (.ref fSRowOf)=true)
 (FSRowOf:Fun K "row_of" "Store.row_of" i_7 fSRowOf dSRowOf)
 (aSEnd:PySem.W.findIn K (.ref CS) "end_of_last"=some (some (.ref fSEnd))) (iSEnd:PySem.W.isFn K (.ref fSEnd)=true)
 (FSEnd:Fun K "end_of_last" "Store.end_of_last" p_T fSEnd dSEnd)
 (aSChange:PySem.W.findIn K (.ref CS) "change"=some (some (.ref fSChange))) (iSChange:PySem.W.isFn K (.ref fSChange)=true)
 (FSChange:Fun K "change" "Store.change" g_C fSChange dSChange)
 (aSExch:PySem.W.findIn K (.ref CS) "exchange"=some (some (.ref fSExch))) (iSExch:PySem.W.isFn K (.ref fSExch)=true)
 (FSExch:Fun K "exchange" "Store.exchange" m_1 fSExch dSExch)
 (aCW:PySem.W.nsIn K mainGlobals "check_word"=some (some (.ref fCW)))
 (FCW:Fun K "check_word" "check_word" sCW fCW dCW)
 (aLead:PySem.W.nsIn K mainGlobals "lead_of"=some (some (.ref fLead)))
 (FLead:Fun K "lead_of" "lead_of" m_k fLead dLead)
 (aKey:PySem.W.nsIn K mainGlobals "key_of"=some (some (.ref fKey)))
 (FKey:Fun K "key_of" "key_of" p_j fKey dKey)
 (aqOrderOf:PySem.W.nsIn K mainGlobals "order_of"=some (some (.ref fqOrderOf)))
 (FqOrderOf:Fun K "order_of" "order_of" f_q fqOrderOf dqOrderOf)
 (aqWithin:PySem.W.nsIn K mainGlobals "rows_within"=some (some (.ref fqWithin)))
 (FqWithin:Fun K "rows_within" "rows_within" g_y fqWithin dqWithin)
 (aqText:PySem.W.nsIn K mainGlobals "rows_of_text"=some (some (.ref fqText)))
 (FqText:Fun K "rows_of_text" "rows_of_text" m_m fqText dqText)
 (aqRankKey:PySem.W.nsIn K mainGlobals "rank_key"=some (some (.ref fqRankKey)))
 (FqRankKey:Fun K "rank_key" "rank_key" f_v fqRankKey dqRankKey)
 (aqFrom:PySem.W.nsIn K mainGlobals "rows_from"=some (some (.ref fqFrom)))
 (FqFrom:Fun K "rows_from" "rows_from" m_D fqFrom dqFrom)
 (aqSpot:PySem.W.nsIn K mainGlobals "spot_of"=some (some (.ref fqSpot)))
 (FqSpot:Fun K "spot_of" "spot_of" n_n fqSpot dqSpot)
 (adAnswers:PySem.W.nsIn K mainGlobals "answers"=some (some (.ref fdAnswers)))
 (FdAnswers:Fun K "answers" "answers" e_4 fdAnswers ddAnswers)
 (adAnsIn:PySem.W.nsIn K mainGlobals "answers_in"=some (some (.ref fdAnsIn)))
 (FdAnsIn:Fun K "answers_in" "answers_in" j_l fdAnsIn ddAnsIn)
 (adAnsOf:PySem.W.nsIn K mainGlobals "answer_of"=some (some (.ref fdAnsOf)))
 (FdAnsOf:Fun K "answer_of" "answer_of" j_R fdAnsOf ddAnsOf)
 (adAll:PySem.W.nsIn K mainGlobals "all_or_none"=some (some (.ref fdAll)))
 (FdAll:Fun K "all_or_none" "all_or_none" p_o fdAll ddAll)
 (adOne:PySem.W.nsIn K mainGlobals "answer_of_one"=some (some (.ref fdOne)))
 (FdOne:Fun K "answer_of_one" "answer_of_one" p_X fdOne ddOne)
 (adDo:PySem.W.nsIn K mainGlobals "do_change"=some (some (.ref fdDo)))
 (FdDo:Fun K "do_change" "do_change" dDo fdDo ddDo)
 (adAsk:PySem.W.nsIn K mainGlobals "answer_to_question"=some (some (.ref fdAsk)))
 (FdAsk:Fun K "answer_to_question" "answer_to_question" p_2 fdAsk ddAsk)
 (aWhole:PySem.W.nsIn K mainGlobals "_law_whole"=some (some (.ref fWhole)))
 (FWhole:Fun K "_law_whole" "_law_whole" j_r fWhole dWhole)
 (aAt:PySem.W.nsIn K mainGlobals "_law_at"=some (some (.ref fAt)))
 (FAt:Fun K "_law_at" "_law_at" sAt fAt dAt)
 (aSame:PySem.W.nsIn K mainGlobals "_law_same"=some (some (.ref fSame)))
 (FSame:Fun K "_law_same" "_law_same" n_L fSame dSame)
 (aTexts:PySem.W.nsIn K mainGlobals "_law_texts"=some (some (.ref fTexts)))
 (FTexts:Fun K "_law_texts" "_law_texts" j_0 fTexts dTexts)
 (aDrawn:PySem.W.nsIn K mainGlobals "_law_drawn_row"=some (some (.ref fDrawn)))
 (FDrawn:Fun K "_law_drawn_row" "_law_drawn_row" j_V fDrawn dDrawn)
 (aFar:PySem.W.nsIn K mainGlobals "_law_far"=some (some (.ref fFar)))
 (FFar:Fun K "_law_far" "_law_far" q_a fFar dFar)
 (aChangeOf:PySem.W.nsIn K mainGlobals "_law_change_of"=some (some (.ref fChangeOf)))
 (FChangeOf:Fun K "_law_change_of" "_law_change_of" d_8 fChangeOf dChangeOf)
 (aQuestionOf:PySem.W.nsIn K mainGlobals "_law_question_of"=some (some (.ref fQuestionOf)))
 (FQuestionOf:Fun K "_law_question_of" "_law_question_of" c_R fQuestionOf dQuestionOf)
 (aBringsOf:PySem.W.nsIn K mainGlobals "_law_brings_of"=some (some (.ref fBringsOf)))
 (FBringsOf:Fun K "_law_brings_of" "_law_brings_of" d_5 fBringsOf dBringsOf)
 (aDeedsOf:PySem.W.nsIn K mainGlobals "_law_deeds_of"=some (some (.ref fDeedsOf)))
 (FDeedsOf:Fun K "_law_deeds_of" "_law_deeds_of" f_o fDeedsOf dDeedsOf)
 (aNewStore:PySem.W.nsIn K mainGlobals "_law_new_store"=some (some (.ref fNewStore)))
 (FNewStore:Fun K "_law_new_store" "_law_new_store" d_V fNewStore dNewStore)
 (aRowsBy:PySem.W.nsIn K mainGlobals "_law_rows_by"=some (some (.ref fRowsBy)))
 (FRowsBy:Fun K "_law_rows_by" "_law_rows_by" h_d fRowsBy dRowsBy)
 (aChanged:PySem.W.nsIn K mainGlobals "_law_changed"=some (some (.ref fChanged)))
 (FChanged:Fun K "_law_changed" "_law_changed" f_n fChanged dChanged)
 (aAllChanged:PySem.W.nsIn K mainGlobals "_law_all_changed"=some (some (.ref fAllChanged)))
 (FAllChanged:Fun K "_law_all_changed" "_law_all_changed" c_T fAllChanged dAllChanged)
 (aLies:PySem.W.nsIn K mainGlobals "_law_lies"=some (some (.ref fLies)))
 (FLies:Fun K "_law_lies" "_law_lies" m_n fLies dLies)
 (aToldByAll:PySem.W.nsIn K mainGlobals "_law_told_by_all"=some (some (.ref fToldByAll)))
 (FToldByAll:Fun K "_law_told_by_all" "_law_told_by_all" d_q fToldByAll dToldByAll)
 (aAnswered:PySem.W.nsIn K mainGlobals "_law_answered"=some (some (.ref fAnswered)))
 (FAnswered:Fun K "_law_answered" "_law_answered" d_6 fAnswered dAnswered)
 (aStep:PySem.W.nsIn K mainGlobals "_law_step_by"=some (some (.ref fStep)))
 (FStep:Fun K "_law_step_by" "_law_step_by" m_P fStep dStep)
 (aRaised:PySem.W.nsIn K mainGlobals "_law_raised"=some (some (.ref fRaised)))
 (FRaised:Fun K "_law_raised" "_law_raised" g_U fRaised dRaised)
 (aRanked:PySem.W.nsIn K mainGlobals "_law_ranked"=some (some (.ref fRanked)))
 (FRanked:Fun K "_law_ranked" "_law_ranked" g_N fRanked dRanked)
 (aSigned:PySem.W.nsIn K mainGlobals "_law_signed"=some (some (.ref fSigned)))
 (FSigned:Fun K "_law_signed" "_law_signed" g_O fSigned dSigned)
 (aMoved:PySem.W.nsIn K mainGlobals "_law_row_moved"=some (some (.ref fMoved)))
 (FMoved:Fun K "_law_row_moved" "_law_row_moved" i_X fMoved dMoved)
 (aDeedMoved:PySem.W.nsIn K mainGlobals "_law_moved"=some (some (.ref fDeedMoved)))
 (FDeedMoved:Fun K "_law_moved" "_law_moved" b_Y fDeedMoved dDeedMoved)
 (aRoomOf:PySem.W.nsIn K mainGlobals "_law_room_of"=some (some (.ref fRoomOf)))
 (FRoomOf:Fun K "_law_room_of" "_law_room_of" g_J fRoomOf dRoomOf)
 (aCopied:PySem.W.nsIn K mainGlobals "_law_copied"=some (some (.ref fCopied)))
 (FCopied:Fun K "_law_copied" "_law_copied" g_A fCopied dCopied)
 (adBothO:PySem.W.nsIn K mainGlobals "both_orders"=some (some (.ref fdBothO)))
 (FdBothO:Fun K "both_orders" "both_orders" j_Q fdBothO ddBothO)
 (aLaw:PySem.W.nsIn K mainGlobals "law"=some (some (.ref fLaw)))
 (FLaw:Fun K "law" "law" p_U fLaw dLaw)
 (pgCO:PySem.W.plainGet K CO Str.empty=true) (hdCO:PySem.W.hasDictIn K CO=true) (poCO:PySem.W.plainOver K CO=true) (saCO:PySem.W.findIn K (.ref CO) "__setattr__"=some (some (.builtin "object.__setattr__"))) (mkCO:PySem.W.makesIn K CO=true) (kcCO:PySem.W.keepIn K (.ref CO)=true)
 (pgCS:PySem.W.plainGet K CS Str.empty=true) (hdCS:PySem.W.hasDictIn K CS=true) (poCS:PySem.W.plainOver K CS=true) (saCS:PySem.W.findIn K (.ref CS) "__setattr__"=some (some (.builtin "object.__setattr__"))) (mkCS:PySem.W.makesIn K CS=true) (kcCS:PySem.W.keepIn K (.ref CS)=true)
 (nCO_word:PySem.W.findIn K (.ref CO) "word"=some none)
 (nCO_blocks:PySem.W.findIn K (.ref CO) "blocks"=some none)
 (nCO_bring:PySem.W.findIn K (.ref CO) "bring"=some none)
 (nCS_room:PySem.W.findIn K (.ref CS) "room"=some none)
 (nCS_by_number:PySem.W.findIn K (.ref CS) "by_number"=some none)
 (nCS_by_rank:PySem.W.findIn K (.ref CS) "by_rank"=some none)
 (nCS_by_text:PySem.W.findIn K (.ref CS) "by_text"=some none)
 (nCS_steps:PySem.W.findIn K (.ref CS) "steps"=some none)
 (nCS_marks:PySem.W.findIn K (.ref CS) "marks"=some none)
 (q1:PySem.W.nsIn K mainGlobals "RANK_WORD"=some (some (.str "rank" t1)))
 (q2:PySem.W.nsIn K mainGlobals "TEXT_WORD"=some (some (.str "text" t2)))
 (q3:PySem.W.nsIn K mainGlobals "MOST_IN_A_BLOCK"=some (some (.int 8 t3)))
 (q4:PySem.W.nsIn K mainGlobals "LEAST_IN_TWO_BLOCKS"=some (some (.int 5 t4)))
 (q5:PySem.W.nsIn K mainGlobals "DONE"=some (some (.str "done" t5)))
 (qQ:PySem.W.nsIn K mainGlobals "QUESTIONS"=some (some (.ref aq))) (lQ:K.lookup aq=some ⟨.type "tuple",dq,.seq #[.str "row" u1,.str "within" u2,.str "both" u3,.str "from" u4,.str "spot" u5] nq,sq⟩)
 (aCT:PySem.W.nsIn K mainGlobals "Taken"=some (some (.ref CT))) (xCT:PySem.W.excIn K CT i_p "ValueError.__new__"=true)
 (aCF:PySem.W.nsIn K mainGlobals "Full"=some (some (.ref CF))) (xCF:PySem.W.excIn K CF i_p "ValueError.__new__"=true)
 (aCM:PySem.W.nsIn K mainGlobals "Missing"=some (some (.ref CM))) (xCM:PySem.W.excIn K CM i_p "ValueError.__new__"=true)
 (aCN:PySem.W.nsIn K mainGlobals "NotBegun"=some (some (.ref CN))) (xCN:PySem.W.excIn K CN i_p "ValueError.__new__"=true)
 (aCNo:PySem.W.nsIn K mainGlobals "NoOrder"=some (some (.ref CNo))) (xCNo:PySem.W.excIn K CNo i_p "ValueError.__new__"=true)
 (ett:PySem.W.exmOne K (.ref CT) (.ref CT)=some true)
 (emt:PySem.W.exmOne K (.ref CM) (.ref CT)=some false)
 (emm:PySem.W.exmOne K (.ref CM) (.ref CM)=some true)
 (eft:PySem.W.exmOne K (.ref CF) (.ref CT)=some false)
 (efm:PySem.W.exmOne K (.ref CF) (.ref CM)=some false)
 (eff:PySem.W.exmOne K (.ref CF) (.ref CF)=some true)
 (ent:PySem.W.exmOne K (.ref CN) (.ref CT)=some false)
 (enm:PySem.W.exmOne K (.ref CN) (.ref CM)=some false)
 (enf:PySem.W.exmOne K (.ref CN) (.ref CF)=some false)
 (enn:PySem.W.exmOne K (.ref CN) (.ref CN)=some true)
 (eot:PySem.W.exmOne K (.ref CNo) (.ref CT)=some false)
 (eom:PySem.W.exmOne K (.ref CNo) (.ref CM)=some false)
 (eof:PySem.W.exmOne K (.ref CNo) (.ref CF)=some false)
 (eon:PySem.W.exmOne K (.ref CNo) (.ref CN)=some false)
 (eoo:PySem.W.exmOne K (.ref CNo) (.ref CNo)=some true)
 (zlen:PySem.W.nsIn K mainGlobals "len"=some none)
 (zmin:PySem.W.nsIn K mainGlobals "min"=some none)
 (zsum:PySem.W.nsIn K mainGlobals "sum"=some none)
 (zisinstance:PySem.W.nsIn K mainGlobals "isinstance"=some none)
 (zint:PySem.W.nsIn K mainGlobals "int"=some none)
 (zbool:PySem.W.nsIn K mainGlobals "bool"=some none)
 (zlist:PySem.W.nsIn K mainGlobals "list"=some none)
 (ztuple:PySem.W.nsIn K mainGlobals "tuple"=some none)
 (zstr:PySem.W.nsIn K mainGlobals "str"=some none)
 (zsorted:PySem.W.nsIn K mainGlobals "sorted"=some none)
 (zrange:PySem.W.nsIn K mainGlobals "range"=some none)
 (zmax:PySem.W.nsIn K mainGlobals "max"=some none)
 (nb:PySem.W.nsIn K cStatics sharingNotToldKey=some none):
 ∃fd:FuncData,(∀(s:Shared) (v:Value),BindsTo s fd ⟨[v], []⟩ [("_law_script",v)])/\∀base:Heap,K.In base->base.Ns mainGlobals mg->FnOk l.prog w K mg base CX0 14 fa fd ["_law_script"] (l_h K):=by
 have e:=hfa.symm.trans (PySem.W.mg_of X G aLaw)
 cases e
 have T:Txt K mg CO:=⟨⟨pgCO,hdCO,poCO,saCO⟩,nCO_word,nCO_blocks,PySem.W.mg_of X G aCO,⟨_,PySem.W.mg_of X G q1⟩,⟨_,PySem.W.mg_of X G q2⟩,⟨_,PySem.W.mg_of X G q3⟩,⟨_,PySem.W.mg_of X G q4⟩,PySem.W.mg_none_of X G zlen,PySem.W.mg_none_of X G zmin,PySem.W.mg_none_of X G zsum⟩
 have ccc:CS≠CO:=λz=>by rw[z,nCO_bring] at aSBring;cases aSBring
 have TS:e_L K mg CS CO:=⟨⟨pgCS,hdCS,poCS,saCS⟩,nCS_room,nCS_by_number,nCS_by_rank,nCS_by_text,nCS_steps,nCS_marks,PySem.W.mg_of X G aCS,ccc⟩
 have TD:p_M K mg:=⟨⟨_,PySem.W.mg_of X G q5⟩,⟨aq,PySem.W.mg_of X G qQ,λH=> .inr ⟨_,_,_,lQ,rfl,rfl,by show 5<=sizeLine;decide,.cons ⟨_,rfl⟩ (.cons ⟨_,rfl⟩ (.cons ⟨_,rfl⟩ (.cons ⟨_,rfl⟩ (.cons ⟨_,rfl⟩ .nil))))⟩⟩,PySem.W.mg_none_of X G zlen,PySem.W.mg_none_of X G zrange⟩
 have ex:o_m K mg CT CF CM CN:=⟨⟨PySem.W.mg_of X G aCT,xCT⟩,⟨PySem.W.mg_of X G aCF,xCF⟩,⟨PySem.W.mg_of X G aCM,xCM⟩,⟨PySem.W.mg_of X G aCN,xCN⟩⟩
 have eO:Exc K mg "NoOrder" CNo:=⟨PySem.W.mg_of X G aCNo,xCNo⟩
 have xm:o_8 K CT CM CF CN CNo:=⟨ett,emt,emm,eft,efm,eff,ent,enm,enf,enn,eot,eom,eof,eon,eoo⟩
 have hmax:mg "max"=none:=PySem.W.mg_none_of X G zmax
 have hsorted:mg "sorted"=none:=PySem.W.mg_none_of X G zsorted
 have B:Bt mg:=⟨PySem.W.mg_none_of X G zlen,PySem.W.mg_none_of X G zmin,PySem.W.mg_none_of X G zisinstance,PySem.W.mg_none_of X G zint,PySem.W.mg_none_of X G zbool,PySem.W.mg_none_of X G zlist,PySem.W.mg_none_of X G ztuple,PySem.W.mg_none_of X G zstr,PySem.W.mg_none_of X G zsorted,PySem.W.mg_none_of X G zrange⟩
 have bInit:Binds K dInit ["self","word"] []:=bd2 FInit λ_ _ _ _ _ _ _ _=>rfl
 have bTake:Binds K dTake ["self","row"] []:=bd2 FTake λ_ _ _ _ _ _ _ _=>rfl
 have bLet:Binds K dLet ["self","row"] []:=bd2 FLet λ_ _ _ _ _ _ _ _=>rfl
 have bAhead:Binds K dAhead ["self","row"] []:=bd2 FAhead λ_ _ _ _ _ _ _ _=>rfl
 have bBetw:Binds K dBetw ["self","low","high"] []:=bd3 FBetw λ_ _ _ _ _ _ _ _ _=>rfl
 have bBA:Binds K dBA ["self","key"] []:=bd2 FBA λ_ _ _ _ _ _ _ _=>rfl
 have bRA:Binds K dRA ["self","block","key"] []:=bd3 FRA λ_ _ _ _ _ _ _ _ _=>rfl
 have bSplit:Binds K dSplit ["self","place"] []:=bd2 FSplit λ_ _ _ _ _ _ _ _=>rfl
 have bJoin:Binds K dJoin ["self","place"] []:=bd2 FJoin λ_ _ _ _ _ _ _ _=>rfl
 have bRows:Binds K dRows ["self"] []:=bd1 FRows λ_ _ _ _ _ _ _=>rfl
 have bSInit:Binds K dSInit ["self","room"] []:=bd2 FSInit λ_ _ _ _ _ _ _ _=>rfl
 have bSBring:Binds K dSBring ["self","row"] []:=bd2 FSBring λ_ _ _ _ _ _ _ _=>rfl
 have bSAlter:Binds K dSAlter ["self","row"] []:=bd2 FSAlter λ_ _ _ _ _ _ _ _=>rfl
 have bSCut:Binds K dSCut ["self","number"] []:=bd2 FSCut λ_ _ _ _ _ _ _ _=>rfl
 have bSBegin:Binds K dSBegin ["self"] []:=bd1 FSBegin λ_ _ _ _ _ _ _=>rfl
 have bSKeep:Binds K dSKeep ["self"] []:=bd1 FSKeep λ_ _ _ _ _ _ _=>rfl
 have bSBreak:Binds K dSBreak ["self"] []:=bd1 FSBreak λ_ _ _ _ _ _ _=>rfl
 have bSRowOf:Binds K dSRowOf ["self","number"] []:=bd2 FSRowOf λ_ _ _ _ _ _ _ _=>rfl
 have bSEnd:Binds K dSEnd ["self"] []:=bd1 FSEnd λ_ _ _ _ _ _ _=>rfl
 have bSChange:Binds K dSChange ["self","old","new"] []:=bd3 FSChange λ_ _ _ _ _ _ _ _ _=>rfl
 have bSExch:Binds K dSExch ["self","old","new"] []:=bd3 FSExch λ_ _ _ _ _ _ _ _ _=>rfl
 have bCW:Binds K dCW ["word"] []:=bd1 FCW λ_ _ _ _ _ _ _=>rfl
 have bLead:Binds K dLead ["word","row"] []:=bd2 FLead λ_ _ _ _ _ _ _ _=>rfl
 have bKey:Binds K dKey ["word","row"] []:=bd2 FKey λ_ _ _ _ _ _ _ _=>rfl
 have bqOrderOf:Binds K dqOrderOf ["store","word"] []:=bd2 FqOrderOf λ_ _ _ _ _ _ _ _=>rfl
 have bqWithin:Binds K dqWithin ["store","word","low","high"] []:=bd4 FqWithin λ_ _ _ _ _ _ _ _ _ _=>rfl
 have bqText:Binds K dqText ["store","low","high","text"] []:=bd4 FqText λ_ _ _ _ _ _ _ _ _ _=>rfl
 have bqRankKey:Binds K dqRankKey ["row"] []:=bd1 FqRankKey λ_ _ _ _ _ _ _=>rfl
 have bqFrom:Binds K dqFrom ["store","word","spot","many"] []:=bd4 FqFrom λ_ _ _ _ _ _ _ _ _ _=>rfl
 have bqSpot:Binds K dqSpot ["store","word","number"] []:=bd3 FqSpot λ_ _ _ _ _ _ _ _ _=>rfl
 have bdAnswers:Binds K ddAnswers ["room","deeds"] []:=bd2 FdAnswers λ_ _ _ _ _ _ _ _=>rfl
 have bdAnsIn:Binds K ddAnsIn ["store","deeds"] []:=bd2 FdAnsIn λ_ _ _ _ _ _ _ _=>rfl
 have bdAnsOf:Binds K ddAnsOf ["store","deed"] []:=bd2 FdAnsOf λ_ _ _ _ _ _ _ _=>rfl
 have bdAll:Binds K ddAll ["store","changes"] []:=bd2 FdAll λ_ _ _ _ _ _ _ _=>rfl
 have bdOne:Binds K ddOne ["store","deed"] []:=bd2 FdOne λ_ _ _ _ _ _ _ _=>rfl
 have bdDo:Binds K ddDo ["store","deed"] []:=bd2 FdDo λ_ _ _ _ _ _ _ _=>rfl
 have bdAsk:Binds K ddAsk ["store","deed"] []:=bd2 FdAsk λ_ _ _ _ _ _ _ _=>rfl
 have bWhole:Binds K dWhole ["_law_found"] []:=bd1 FWhole λ_ _ _ _ _ _ _=>rfl
 have bAt:Binds K dAt ["_law_script","_law_k"] []:=bd2 FAt λ_ _ _ _ _ _ _ _=>rfl
 have bSame:Binds K dSame ["_law_found","_law_due"] []:=bd2 FSame λ_ _ _ _ _ _ _ _=>rfl
 have bTexts:Binds K dTexts [] []:=bd0 FTexts λ_ _ _ _ _ _=>rfl
 have bDrawn:Binds K dDrawn ["_law_number","_law_cell"] []:=bd2 FDrawn λ_ _ _ _ _ _ _ _=>rfl
 have bFar:Binds K dFar ["_law_number"] []:=bd1 FFar λ_ _ _ _ _ _ _=>rfl
 have bChangeOf:Binds K dChangeOf ["_law_way","_law_number","_law_cell"] []:=bd3 FChangeOf λ_ _ _ _ _ _ _ _ _=>rfl
 have bQuestionOf:Binds K dQuestionOf ["_law_way","_law_number","_law_cell"] []:=bd3 FQuestionOf λ_ _ _ _ _ _ _ _ _=>rfl
 have bBringsOf:Binds K dBringsOf ["_law_script"] []:=bd1 FBringsOf λ_ _ _ _ _ _ _=>rfl
 have bDeedsOf:Binds K dDeedsOf ["_law_cells"] []:=bd1 FDeedsOf λ_ _ _ _ _ _ _=>rfl
 have bNewStore:Binds K dNewStore ["_law_room"] []:=bd1 FNewStore λ_ _ _ _ _ _ _=>rfl
 have bRowsBy:Binds K dRowsBy ["_law_store","_law_word"] []:=bd2 FRowsBy λ_ _ _ _ _ _ _ _=>rfl
 have bChanged:Binds K dChanged ["_law_store","_law_deed"] []:=bd2 FChanged λ_ _ _ _ _ _ _ _=>rfl
 have bAllChanged:Binds K dAllChanged ["_law_store","_law_deeds"] []:=bd2 FAllChanged λ_ _ _ _ _ _ _ _=>rfl
 have bLies:Binds K dLies ["_law_low","_law_value","_law_high"] []:=bd3 FLies λ_ _ _ _ _ _ _ _ _=>rfl
 have bToldByAll:Binds K dToldByAll ["_law_store","_law_deed"] []:=bd2 FToldByAll λ_ _ _ _ _ _ _ _=>rfl
 have bAnswered:Binds K dAnswered ["_law_store","_law_deed"] []:=bd2 FAnswered λ_ _ _ _ _ _ _ _=>rfl
 have bStep:Binds K dStep ["_law_seed"] []:=bd1 FStep λ_ _ _ _ _ _ _=>rfl
 have bRaised:Binds K dRaised ["_law_number","_law_seed"] []:=bd2 FRaised λ_ _ _ _ _ _ _ _=>rfl
 have bRanked:Binds K dRanked ["_law_rank","_law_seed"] []:=bd2 FRanked λ_ _ _ _ _ _ _ _=>rfl
 have bSigned:Binds K dSigned ["_law_letters","_law_seed"] []:=bd2 FSigned λ_ _ _ _ _ _ _ _=>rfl
 have bMoved:Binds K dMoved ["_law_row","_law_seed"] []:=bd2 FMoved λ_ _ _ _ _ _ _ _=>rfl
 have bDeedMoved:Binds K dDeedMoved ["_law_deed","_law_seed"] []:=bd2 FDeedMoved λ_ _ _ _ _ _ _ _=>rfl
 have bRoomOf:Binds K dRoomOf ["_law_cell"] []:=bd1 FRoomOf λ_ _ _ _ _ _ _=>rfl
 have bCopied:Binds K dCopied ["_law_deeds"] []:=bd1 FCopied λ_ _ _ _ _ _ _=>rfl
 have bdBothO:Binds K ddBothO ["room","deeds"] []:=bd2 FdBothO λ_ _ _ _ _ _ _ _=>rfl
 have mTake:Mf K CO "take_in" fTake _ ["self","row"]:=⟨⟨aTake,iTake,FTake.kp⟩,bTake⟩
 have mLet:Mf K CO "let_out" fLet _ ["self","row"]:=⟨⟨aLet,iLet,FLet.kp⟩,bLet⟩
 have mAhead:Mf K CO "ahead_of" fAhead _ ["self","row"]:=⟨⟨aAhead,iAhead,FAhead.kp⟩,bAhead⟩
 have mBetw:Mf K CO "between" fBetw _ ["self","low","high"]:=⟨⟨aBetw,iBetw,FBetw.kp⟩,bBetw⟩
 have mBA:Mf K CO "blocks_ahead" fBA _ ["self","key"]:=⟨⟨aBA,iBA,FBA.kp⟩,bBA⟩
 have mRA:Mf K CO "rows_ahead" fRA _ ["self","block","key"]:=⟨⟨aRA,iRA,FRA.kp⟩,bRA⟩
 have mSplit:Mf K CO "split_block" fSplit _ ["self","place"]:=⟨⟨aSplit,iSplit,FSplit.kp⟩,bSplit⟩
 have mJoin:Mf K CO "join_if_few" fJoin _ ["self","place"]:=⟨⟨aJoin,iJoin,FJoin.kp⟩,bJoin⟩
 have mRows:Mf K CO "rows" fRows _ ["self"]:=⟨⟨aRows,iRows,FRows.kp⟩,bRows⟩
 have mSBring:Mf K CS "bring" fSBring _ ["self","row"]:=⟨⟨aSBring,iSBring,FSBring.kp⟩,bSBring⟩
 have mSAlter:Mf K CS "alter" fSAlter _ ["self","row"]:=⟨⟨aSAlter,iSAlter,FSAlter.kp⟩,bSAlter⟩
 have mSCut:Mf K CS "cut" fSCut _ ["self","number"]:=⟨⟨aSCut,iSCut,FSCut.kp⟩,bSCut⟩
 have mSBegin:Mf K CS "begin" fSBegin _ ["self"]:=⟨⟨aSBegin,iSBegin,FSBegin.kp⟩,bSBegin⟩
 have mSKeep:Mf K CS "keep" fSKeep _ ["self"]:=⟨⟨aSKeep,iSKeep,FSKeep.kp⟩,bSKeep⟩
 have mSBreak:Mf K CS "break_off" fSBreak _ ["self"]:=⟨⟨aSBreak,iSBreak,FSBreak.kp⟩,bSBreak⟩
 have mSRowOf:Mf K CS "row_of" fSRowOf _ ["self","number"]:=⟨⟨aSRowOf,iSRowOf,FSRowOf.kp⟩,bSRowOf⟩
 have mSEnd:Mf K CS "end_of_last" fSEnd _ ["self"]:=⟨⟨aSEnd,iSEnd,FSEnd.kp⟩,bSEnd⟩
 have mSChange:Mf K CS "change" fSChange _ ["self","old","new"]:=⟨⟨aSChange,iSChange,FSChange.kp⟩,bSChange⟩
 have mSExch:Mf K CS "exchange" fSExch _ ["self","old","new"]:=⟨⟨aSExch,iSExch,FSExch.kp⟩,bSExch⟩
 have gCW:Gf K mg "check_word" fCW _ ["word"]:=⟨PySem.W.mg_of X G aCW,FCW.kp,bCW⟩
 have gLead:Gf K mg "lead_of" fLead _ ["word","row"]:=⟨PySem.W.mg_of X G aLead,FLead.kp,bLead⟩
 have gKey:Gf K mg "key_of" fKey _ ["word","row"]:=⟨PySem.W.mg_of X G aKey,FKey.kp,bKey⟩
 have gqOrderOf:Gf K mg "order_of" fqOrderOf _ ["store","word"]:=⟨PySem.W.mg_of X G aqOrderOf,FqOrderOf.kp,bqOrderOf⟩
 have gqWithin:Gf K mg "rows_within" fqWithin _ ["store","word","low","high"]:=⟨PySem.W.mg_of X G aqWithin,FqWithin.kp,bqWithin⟩
 have gqText:Gf K mg "rows_of_text" fqText _ ["store","low","high","text"]:=⟨PySem.W.mg_of X G aqText,FqText.kp,bqText⟩
 have gqRankKey:Gf K mg "rank_key" fqRankKey _ ["row"]:=⟨PySem.W.mg_of X G aqRankKey,FqRankKey.kp,bqRankKey⟩
 have gqFrom:Gf K mg "rows_from" fqFrom _ ["store","word","spot","many"]:=⟨PySem.W.mg_of X G aqFrom,FqFrom.kp,bqFrom⟩
 have gqSpot:Gf K mg "spot_of" fqSpot _ ["store","word","number"]:=⟨PySem.W.mg_of X G aqSpot,FqSpot.kp,bqSpot⟩
 have gdAnswers:Gf K mg "answers" fdAnswers _ ["room","deeds"]:=⟨PySem.W.mg_of X G adAnswers,FdAnswers.kp,bdAnswers⟩
 have gdAnsIn:Gf K mg "answers_in" fdAnsIn _ ["store","deeds"]:=⟨PySem.W.mg_of X G adAnsIn,FdAnsIn.kp,bdAnsIn⟩
 have gdAnsOf:Gf K mg "answer_of" fdAnsOf _ ["store","deed"]:=⟨PySem.W.mg_of X G adAnsOf,FdAnsOf.kp,bdAnsOf⟩
 have gdAll:Gf K mg "all_or_none" fdAll _ ["store","changes"]:=⟨PySem.W.mg_of X G adAll,FdAll.kp,bdAll⟩
 have gdOne:Gf K mg "answer_of_one" fdOne _ ["store","deed"]:=⟨PySem.W.mg_of X G adOne,FdOne.kp,bdOne⟩
 have gdDo:Gf K mg "do_change" fdDo _ ["store","deed"]:=⟨PySem.W.mg_of X G adDo,FdDo.kp,bdDo⟩
 have gdAsk:Gf K mg "answer_to_question" fdAsk _ ["store","deed"]:=⟨PySem.W.mg_of X G adAsk,FdAsk.kp,bdAsk⟩
 have gWhole:Gf K mg "_law_whole" fWhole _ ["_law_found"]:=⟨PySem.W.mg_of X G aWhole,FWhole.kp,bWhole⟩
 have gAt:Gf K mg "_law_at" fAt _ ["_law_script","_law_k"]:=⟨PySem.W.mg_of X G aAt,FAt.kp,bAt⟩
 have gSame:Gf K mg "_law_same" fSame _ ["_law_found","_law_due"]:=⟨PySem.W.mg_of X G aSame,FSame.kp,bSame⟩
 have gTexts:Gf K mg "_law_texts" fTexts _ []:=⟨PySem.W.mg_of X G aTexts,FTexts.kp,bTexts⟩
 have gDrawn:Gf K mg "_law_drawn_row" fDrawn _ ["_law_number","_law_cell"]:=⟨PySem.W.mg_of X G aDrawn,FDrawn.kp,bDrawn⟩
 have gFar:Gf K mg "_law_far" fFar _ ["_law_number"]:=⟨PySem.W.mg_of X G aFar,FFar.kp,bFar⟩
 have gChangeOf:Gf K mg "_law_change_of" fChangeOf _ ["_law_way","_law_number","_law_cell"]:=⟨PySem.W.mg_of X G aChangeOf,FChangeOf.kp,bChangeOf⟩
 have gQuestionOf:Gf K mg "_law_question_of" fQuestionOf _ ["_law_way","_law_number","_law_cell"]:=⟨PySem.W.mg_of X G aQuestionOf,FQuestionOf.kp,bQuestionOf⟩
 have gBringsOf:Gf K mg "_law_brings_of" fBringsOf _ ["_law_script"]:=⟨PySem.W.mg_of X G aBringsOf,FBringsOf.kp,bBringsOf⟩
 have gDeedsOf:Gf K mg "_law_deeds_of" fDeedsOf _ ["_law_cells"]:=⟨PySem.W.mg_of X G aDeedsOf,FDeedsOf.kp,bDeedsOf⟩
 have gNewStore:Gf K mg "_law_new_store" fNewStore _ ["_law_room"]:=⟨PySem.W.mg_of X G aNewStore,FNewStore.kp,bNewStore⟩
 have gRowsBy:Gf K mg "_law_rows_by" fRowsBy _ ["_law_store","_law_word"]:=⟨PySem.W.mg_of X G aRowsBy,FRowsBy.kp,bRowsBy⟩
 have gChanged:Gf K mg "_law_changed" fChanged _ ["_law_store","_law_deed"]:=⟨PySem.W.mg_of X G aChanged,FChanged.kp,bChanged⟩
 have gAllChanged:Gf K mg "_law_all_changed" fAllChanged _ ["_law_store","_law_deeds"]:=⟨PySem.W.mg_of X G aAllChanged,FAllChanged.kp,bAllChanged⟩
 have gLies:Gf K mg "_law_lies" fLies _ ["_law_low","_law_value","_law_high"]:=⟨PySem.W.mg_of X G aLies,FLies.kp,bLies⟩
 have gToldByAll:Gf K mg "_law_told_by_all" fToldByAll _ ["_law_store","_law_deed"]:=⟨PySem.W.mg_of X G aToldByAll,FToldByAll.kp,bToldByAll⟩
 have gAnswered:Gf K mg "_law_answered" fAnswered _ ["_law_store","_law_deed"]:=⟨PySem.W.mg_of X G aAnswered,FAnswered.kp,bAnswered⟩
 have gStep:Gf K mg "_law_step_by" fStep _ ["_law_seed"]:=⟨PySem.W.mg_of X G aStep,FStep.kp,bStep⟩
 have gRaised:Gf K mg "_law_raised" fRaised _ ["_law_number","_law_seed"]:=⟨PySem.W.mg_of X G aRaised,FRaised.kp,bRaised⟩
 have gRanked:Gf K mg "_law_ranked" fRanked _ ["_law_rank","_law_seed"]:=⟨PySem.W.mg_of X G aRanked,FRanked.kp,bRanked⟩
 have gSigned:Gf K mg "_law_signed" fSigned _ ["_law_letters","_law_seed"]:=⟨PySem.W.mg_of X G aSigned,FSigned.kp,bSigned⟩
 have gMoved:Gf K mg "_law_row_moved" fMoved _ ["_law_row","_law_seed"]:=⟨PySem.W.mg_of X G aMoved,FMoved.kp,bMoved⟩
 have gDeedMoved:Gf K mg "_law_moved" fDeedMoved _ ["_law_deed","_law_seed"]:=⟨PySem.W.mg_of X G aDeedMoved,FDeedMoved.kp,bDeedMoved⟩
 have gRoomOf:Gf K mg "_law_room_of" fRoomOf _ ["_law_cell"]:=⟨PySem.W.mg_of X G aRoomOf,FRoomOf.kp,bRoomOf⟩
 have gCopied:Gf K mg "_law_copied" fCopied _ ["_law_deeds"]:=⟨PySem.W.mg_of X G aCopied,FCopied.kp,bCopied⟩
 have gdBothO:Gf K mg "both_orders" fdBothO _ ["room","deeds"]:=⟨PySem.W.mg_of X G adBothO,FdBothO.kp,bdBothO⟩
 have MO:Mk K CO fInit:=⟨mkCO,aInit,iInit,kcCO⟩
 have MS:Mk K CS fSInit:=⟨mkCS,aSInit,iSInit,kcCS⟩
 refine⟨dLaw,λs v=> ?_, λbase _ _=> ?_⟩
 ·obtain⟨_,_,_,_,_,_,_,_,_,rfl,_,_⟩:=FLaw.ex
  exact .of_eq rfl
 have KCW:FnOk l.prog w K mg base _ _ _ _ _ _:=p_J FCW T
 have KCWX:FnOk l.prog w K mg base _ _ _ _ _ _:=o_9 FCW T eO
 have KLead:FnOk l.prog w K mg base _ _ _ _ _ _:=n_D FLead T
 have KKey:FnOk l.prog w K mg base _ _ _ _ _ _:=n_0 FKey T gLead KLead
 have KRA:FnOk l.prog w K mg base _ _ _ _ _ _:=p_F FRA T gKey KKey
 have KBA:FnOk l.prog w K mg base _ _ _ _ _ _:=p_3 FBA T gKey KKey
 have KSplit:FnOk l.prog w K mg base _ _ _ _ _ _:=l_e FSplit T
 have KTake:FnOk l.prog w K mg base _ _ _ _ _ _:=n_J FTake T gKey KKey mBA KBA mRA KRA mSplit KSplit
 have KJoin:FnOk l.prog w K mg base _ _ _ _ _ _:=m_R FJoin T
 have KLet:FnOk l.prog w K mg base _ _ _ _ _ _:=o_z FLet T gKey KKey mBA KBA mJoin KJoin
 have KAhead:FnOk l.prog w K mg base _ _ _ _ _ _:=l_E FAhead T gKey KKey mBA KBA mRA KRA
 have KBetw:FnOk l.prog w K mg base _ _ _ _ _ _:=n_F FBetw T gLead KLead mBA KBA
 have KInit:FnOk l.prog w K mg base _ _ _ _ _ _:=n_b FInit T gCW KCW
 have KExch:FnOk l.prog w K mg base _ _ _ _ _ _:=n_g FSExch T TS mTake KTake mLet KLet
 have KChange:FnOk l.prog w K mg base _ _ _ _ _ _:=i_B FSChange T TS mSExch KExch
 have KRowOf:FnOk l.prog w K mg base _ _ _ _ _ _:=l_k FSRowOf TS ex
 have KEnd:FnOk l.prog w K mg base _ _ _ _ _ _:=o_T FSEnd T TS ex
 have KBring:FnOk l.prog w K mg base _ _ _ _ _ _:=l_l FSBring T TS ex mSChange KChange
 have KAlter:FnOk l.prog w K mg base _ _ _ _ _ _:=l_t FSAlter TS mSChange KChange mSRowOf KRowOf
 have KCut:FnOk l.prog w K mg base _ _ _ _ _ _:=o_Y FSCut TS mSChange KChange mSRowOf KRowOf
 have KBegin:FnOk l.prog w K mg base _ _ _ _ _ _:=l_a FSBegin T TS
 have KKeep:FnOk l.prog w K mg base _ _ _ _ _ _:=m_Q FSKeep T TS mSEnd KEnd
 have KBreak:FnOk l.prog w K mg base _ _ _ _ _ _:=l_b FSBreak T TS mSEnd KEnd mSExch KExch
 have KSIn:FnOk l.prog w K mg base _ _ _ _ _ _:=k_z FSInit T TS MO bInit KInit
 have KOrderOf:FnOk l.prog w K mg base _ _ _ _ _ _:=i_i FqOrderOf T TS gCW KCWX
 have KWithin:FnOk l.prog w K mg base _ _ _ _ _ _:=k_k FqWithin T gqOrderOf KOrderOf mBetw KBetw
 have KSpot:FnOk l.prog w K mg base _ _ _ _ _ _:=n_w FqSpot T TS gqOrderOf KOrderOf mAhead KAhead mSRowOf KRowOf
 have KFrom:FnOk l.prog w K mg base _ _ _ _ _ _:=m_O FqFrom T hmax gqOrderOf KOrderOf
 have KRankKey:FnOk l.prog w K mg base _ _ _ _ _ _:=i_d FqRankKey T gKey KKey
 have KText:FnOk l.prog w K mg base _ _ _ _ _ _:=m_W FqText T TS hsorted mBetw KBetw gqRankKey KRankKey
 have KDo:FnOk l.prog w K mg base _ _ _ _ _ _:=p_A FdDo TS mSBring KBring mSAlter KAlter mSCut KCut mSBegin KBegin mSKeep KKeep mSBreak KBreak
 have KAsk:FnOk l.prog w K mg base _ _ _ _ _ _:=m_C FdAsk TS mSRowOf KRowOf gqWithin KWithin gqText KText gqFrom KFrom gqSpot KSpot
 have KOne:FnOk l.prog w K mg base _ _ _ _ _ _:=n_2 FdOne TD ex eO xm gdAsk KAsk gdDo KDo
 have KAllN:FnOk l.prog w K mg base _ _ _ _ _ _:=m_j FdAll TS TD gdOne KOne mSBegin KBegin mSKeep KKeep mSBreak KBreak
 have KOf:FnOk l.prog w K mg base _ _ _ _ _ _:=q_g FdAnsOf gdAll KAllN gdOne KOne
 have KIn:FnOk l.prog w K mg base _ _ _ _ _ _:=q_m FdAnsIn gdAnsOf KOf
 have KAnswers:FnOk l.prog w K mg base _ _ _ _ _ _:=i_s FdAnswers TS MS bSInit KSIn gdAnsIn KIn
 have KWhole:FnOk l.prog w K mg base _ _ _ _ _ _:=k_T FWhole B
 have KAt:FnOk l.prog w K mg base _ _ _ _ _ _:=o_V FAt B
 have KAny:FnOk l.prog w K mg base _ _ _ _ _ _:=o_D KAt
 have KSame:FnOk l.prog w K mg base _ _ _ _ _ _:=m_U FSame B gWhole KWhole
 have KTexts:FnOk l.prog w K mg base _ _ _ _ _ _:=l_g FTexts
 have KDrawn:FnOk l.prog w K mg base _ _ _ _ _ _:=k_P FDrawn gTexts KTexts
 have KFar:FnOk l.prog w K mg base _ _ _ _ _ _:=o_W FFar B
 have KStep:FnOk l.prog w K mg base _ _ _ _ _ _:=m_4 FStep B
 have KRaised:FnOk l.prog w K mg base _ _ _ _ _ _:=k_l FRaised B gStep KStep
 have KRanked:FnOk l.prog w K mg base _ _ _ _ _ _:=j_I FRanked B gStep KStep
 have KSigned:FnOk l.prog w K mg base _ _ _ _ _ _:=i_0 FSigned B nb
 have KMoved:FnOk l.prog w K mg base _ _ _ _ _ _:=k_8 FMoved gRaised KRaised gRanked KRanked gSigned KSigned
 have KChangeOf:FnOk l.prog w K mg base _ _ _ _ _ _:=g_W FChangeOf gFar KFar gDrawn KDrawn
 have KQuestionOf:FnOk l.prog w K mg base _ _ _ _ _ _:=f_g FQuestionOf gFar KFar gTexts KTexts
 have KBringsOf:FnOk l.prog w K mg base _ _ _ _ _ _:=h_h FBringsOf B gAt KAny gFar KFar gDrawn KDrawn
 have KDeedsOf:FnOk l.prog w K mg base _ _ _ _ _ _:=h_3 FDeedsOf B gChangeOf KChangeOf gQuestionOf KQuestionOf
 have KRoomOf:FnOk l.prog w K mg base _ _ _ _ _ _:=j_Y FRoomOf
 have KCopied:FnOk l.prog w K mg base _ _ _ _ _ _:=i_S FCopied B
 have KMv:FnOk l.prog w K mg base _ _ _ _ _ _:=p_K FDeedMoved gDeedMoved gRaised KRaised gRanked KRanked gSigned KSigned gMoved KMoved
 have KChanged:FnOk l.prog w K mg base _ _ _ _ _ _:=i_e FChanged B
 have KAllChanged:FnOk l.prog w K mg base _ _ _ _ _ _:=f_u FAllChanged B gChanged KChanged
 have KNewStore:FnOk l.prog w K mg base _ _ _ _ _ _:=g_Z FNewStore
 have KLies:FnOk l.prog w K mg base _ _ _ _ _ _:=n_A FLies
 have KRowsBy:FnOk l.prog w K mg base _ _ _ _ _ _:=j_O FRowsBy B
 have KTold:FnOk l.prog w K mg base _ _ _ _ _ _:=m_h FToldByAll B gRowsBy KRowsBy gLies KLies
 have KAnswered:FnOk l.prog w K mg base _ _ _ _ _ _:=h_g FAnswered B gChanged KChanged gAllChanged KAllChanged gToldByAll KTold
 have KRows:FnOk l.prog w K mg base _ _ _ _ _ _:=m_l FRows T
 have KBothO:FnOk l.prog w K mg base _ _ _ _ _ _:=l_z FdBothO T TS MS bSInit KSIn gdAnsIn KIn mRows KRows
 have KMvC:FnOk l.prog w K mg base _ _ _ _ _ _:=m_b FDeedMoved gDeedMoved gRaised KRaised gRanked KRanked gSigned KSigned gMoved KMoved
 exact o_6 FLaw B gAt KAt gRoomOf KRoomOf gBringsOf KBringsOf gDeedsOf KDeedsOf gFar KFar gDrawn KDrawn gDeedMoved KMv KMvC gCopied KCopied gdAnswers KAnswers gdBothO KBothO gSame KSame gNewStore KNewStore gAnswered KAnswered gAllChanged KAllChanged gRowsBy KRowsBy
theorem q_G {l:PySem.W.OpenLaw} {q:Program} {loose:List Str} {XP:(Str->Option Value)->Heap->Prop} {YP:World->Heap->Prop} {d:DefRec} {K:Params->PySem.W.Frag} (hn:l.most=some 63) (hdf:d.params.defaults= [])
 (hY:∀(w:World) (h:Heap),YP w h->(K w.params).In h)
 (F:∀(w:World) (mg:Str→Option Value) (fa:Addr) (h:Heap),(K w.params).In h→h.Ns mainGlobals mg→mg d.name=some (.ref fa)→
   ∃fd:FuncData,(∀(s:Shared) (u:Value),BindsTo s fd ⟨[u], []⟩ [("_law_script",u)])/\∀base:Heap,(K w.params).In base->base.Ns mainGlobals mg->FnOk l.prog w (K w.params) mg base CX0 14 fa fd ["_law_script"] (l_h (K w.params))):
 PySem.W.WalkO q loose XP YP l.row.toRowW d [] (λf vs=>PySem.call f vs):=
 L2.m_B (n:=63) (k:=14) (x:="_law_script") (CX:=λ_=>CX0) (sp:=λw=>l_h (K w.params)) hn (by decide) hdf ⟨rfl,by decide,by decide⟩ hY F (λ_ _ a ns hl _ hS=>⟨a,ns,rfl,hS,hl,λ_=>rfl⟩) λ_ _ _ _ _ z=>z
end K1
namespace PySem.W.Fast
theorem tw2998526229315460671:True:=⟨⟩
theorem tw14685579116493463337:True:=⟨⟩
theorem tw560498451557576832:True:=⟨⟩
theorem tw7585600289710440061:True:=⟨⟩
theorem tw13709723854045552772:True:=⟨⟩
theorem tw9245532326069527257:True:=⟨⟩
theorem tw5139014781254150847:True:=⟨⟩
theorem tw10540823766981927973:True:=⟨⟩
theorem tw4055159673153594568:True:=⟨⟩
theorem tw5576902577796468746:True:=⟨⟩
theorem tw3830536277744021761:True:=⟨⟩
theorem tw12718230086388773648:True:=⟨⟩
theorem tw5491799249118989127:True:=⟨⟩
theorem tw11471136060754586363:True:=⟨⟩
theorem tw16661828042005297653:True:=⟨⟩
theorem tw11715464274256594479:True:=⟨⟩
theorem tw17950173708802867039:True:=⟨⟩
theorem tw770883996560613376:True:=⟨⟩
theorem tw11642637612017665374:True:=⟨⟩
theorem tw5676271850186083115:True:=⟨⟩
theorem tw576108599662825634:True:=⟨⟩
theorem tw12978609716325654398:True:=⟨⟩
theorem tw9252103610595155991:True:=⟨⟩
theorem tw3806244796271345756:True:=⟨⟩
theorem tw16563558948691043472:True:=⟨⟩
theorem tw5387745298154122835:True:=⟨⟩
theorem tw12073618751962840335:True:=⟨⟩
theorem tw99902715136761581:True:=⟨⟩
theorem tw12763129059222521938:True:=⟨⟩
theorem tw14684322128598659253:True:=⟨⟩
theorem tw17130490004065262805:True:=⟨⟩
theorem tw2067158850872145981:True:=⟨⟩
theorem tw16413693938832938598:True:=⟨⟩
theorem tw15650284227132391712:True:=⟨⟩
theorem tw6426973475798684499:True:=⟨⟩
theorem tw15089486374923851854:True:=⟨⟩
theorem tw12893612821047168589:True:=⟨⟩
theorem tw16060169031871993195:True:=⟨⟩
theorem tw15265383988368992520:True:=⟨⟩
theorem tw2531873464190334369:True:=⟨⟩
theorem tw6870183723008790387:True:=⟨⟩
theorem tw14952949837481914660:True:=⟨⟩
theorem tw5801408854346522293:True:=⟨⟩
theorem tw13014583645248671302:True:=⟨⟩
theorem tw5801420768619119900:True:=⟨⟩
theorem tw16794411180009198822:True:=⟨⟩
theorem tw14633759038954902156:True:=⟨⟩
theorem tw11511929059202542961:True:=⟨⟩
theorem tw11733514567194502763:True:=⟨⟩
theorem tw1017478002675475437:True:=⟨⟩
theorem tw5986347258005552427:True:=⟨⟩
theorem tw5529931638111669738:True:=⟨⟩
theorem tw8913468204570640791:True:=⟨⟩
theorem tw3344573128957863113:True:=⟨⟩
theorem tw17942260065377566940:True:=⟨⟩
theorem tw9684631546693192082:True:=⟨⟩
theorem tw15084991099700040922:True:=⟨⟩
theorem tw1783045618035450639:True:=⟨⟩
theorem tw10020272858203125396:True:=⟨⟩
theorem tw13041030214248601620:True:=⟨⟩
theorem tw4029920731569645935:True:=⟨⟩
theorem tw7896368292924937023:True:=⟨⟩
theorem tw4250166931623186987:True:=⟨⟩
theorem tw12331015537236119135:True:=⟨⟩
theorem tw8030691397298567312:True:=⟨⟩
theorem tw3069611533281290132:True:=⟨⟩
theorem tw15650336360827730907:True:=⟨⟩
theorem tw8831770582319870941:True:=⟨⟩
theorem tw8123781288068597238:True:=⟨⟩
theorem tw1631517653711632258:True:=⟨⟩
theorem tw13692937071564866873:True:=⟨⟩
theorem tw14681994980545372156:True:=⟨⟩
theorem tw12965956929054137568:True:=⟨⟩
theorem tw16701016179985798281:True:=⟨⟩
theorem tw585995576435384476:True:=⟨⟩
theorem tw10886527407955739817:True:=⟨⟩
theorem tw11190009047019408158:True:=⟨⟩
theorem tw1238180389759764454:True:=⟨⟩
theorem tw2281520328814395840:True:=⟨⟩
theorem tw8073874869403369428:True:=⟨⟩
theorem tw3040819784364367412:True:=⟨⟩
theorem tw6208888263564753325:True:=⟨⟩
theorem tw15748021630808722374:True:=⟨⟩
theorem tw16355328933552854947:True:=⟨⟩
theorem tw13008455758383909376:True:=⟨⟩
theorem tw2527678183037251085:True:=⟨⟩
theorem tw14176853145016504061:True:=⟨⟩
theorem tw13132806505526734947:True:=⟨⟩
theorem tw15857712451591979746:True:=⟨⟩
theorem tw8244404070534095945:True:=⟨⟩
theorem tw10391765445424467382:True:=⟨⟩
theorem tw358415570453581949:True:=⟨⟩
theorem tw10005421476921314158:True:=⟨⟩
theorem tw9859080874882833639:True:=⟨⟩
theorem tw5580327703193437802:True:=⟨⟩
theorem tw13452410791161351168:True:=⟨⟩
theorem tw17745072277516537365:True:=⟨⟩
theorem tw15760211242601389500:True:=⟨⟩
theorem tw13824111272836001251:True:=⟨⟩
theorem tw9802642455444297997:True:=⟨⟩
theorem tw44767695182509655:True:=⟨⟩
theorem tw12284589219204525242:True:=⟨⟩
theorem tw17507811981442536207:True:=⟨⟩
theorem tw13528256402429984945:True:=⟨⟩
theorem tw6334566032622621818:True:=⟨⟩
theorem tw17985378130738849676:True:=⟨⟩
theorem tw3477782986741833600:True:=⟨⟩
theorem tw9869096267062996474:True:=⟨⟩
theorem tw405951359668488119:True:=⟨⟩
theorem tw7312381895203661255:True:=⟨⟩
theorem tw9448454682427741257:True:=⟨⟩
theorem tw8661923424739633326:True:=⟨⟩
theorem tw2948607843063945662:True:=⟨⟩
theorem tw2712784540819166732:True:=⟨⟩
theorem tw2700926727633568866:True:=⟨⟩
theorem tw2931727583620109733:True:=⟨⟩
theorem tw18350229970794692292:True:=⟨⟩
theorem tw9831759847371633279:True:=⟨⟩
theorem tw11266947869667752345:True:=⟨⟩
theorem tw14604477875712901169:True:=⟨⟩
theorem tw4394317790464123197:True:=⟨⟩
theorem tw7075058884955846309:True:=⟨⟩
theorem tw4161752248074521833:True:=⟨⟩
theorem tw10652483502961317571:True:=⟨⟩
theorem tw822378353492405268:True:=⟨⟩
theorem tw14816758486017996566:True:=⟨⟩
theorem tw15347277646975604251:True:=⟨⟩
theorem tw657163088135459716:True:=⟨⟩
theorem tw10960196676776208618:True:=⟨⟩
theorem tw7885152222591136023:True:=⟨⟩
theorem tw18003745758284116776:True:=⟨⟩
theorem tw8355187497977077765:True:=⟨⟩
theorem tw84753824969782228:True:=⟨⟩
theorem tw3936178751231803886:True:=⟨⟩
theorem tw14485861772503447808:True:=⟨⟩
theorem tw14589936359393615122:True:=⟨⟩
theorem tw5471872178322221049:True:=⟨⟩
theorem tw10546298122608886889:True:=⟨⟩
theorem tw17850425583246407961:True:=⟨⟩
theorem tw2179937011139525690:True:=⟨⟩
theorem tw17585403113790937926:True:=⟨⟩
theorem tw2138509601863264767:True:=⟨⟩
theorem tw17400970236665320887:True:=⟨⟩
theorem tw8373751484272301306:True:=⟨⟩
theorem tw6962443829668177740:True:=⟨⟩
theorem tw5907083362500471789:True:=⟨⟩
theorem tw6423847025389835902:True:=⟨⟩
theorem tw10989553382734866785:True:=⟨⟩
theorem tw3359710775043463259:True:=⟨⟩
theorem tw1589373211966264844:True:=⟨⟩
theorem tw3608880362903156171:True:=⟨⟩
theorem tw13108769686242260667:True:=⟨⟩
theorem tw979952157669824887:True:=⟨⟩
theorem tw12123193547798079695:True:=⟨⟩
theorem tw2665051474715292780:True:=⟨⟩
theorem tw13212889675850125624:True:=⟨⟩
theorem tw12058827411544665598:True:=⟨⟩
theorem tw1238905227947608087:True:=⟨⟩
theorem tw12969470152635401338:True:=⟨⟩
theorem tw5513392306489212160:True:=⟨⟩
theorem tw823165455220984370:True:=⟨⟩
theorem tw14503892647685664618:True:=⟨⟩
theorem tw285895196467097906:True:=⟨⟩
theorem tw5254076706508178410:True:=⟨⟩
theorem tw2127541769290702068:True:=⟨⟩
theorem tw16321257047946988510:True:=⟨⟩
theorem tw4471139291802291986:True:=⟨⟩
theorem tw4429107194305013992:True:=⟨⟩
theorem tw8193436117869112956:True:=⟨⟩
theorem tw5374780932325284437:True:=⟨⟩
theorem tw17343320526968710853:True:=⟨⟩
theorem tw3729564078508091711:True:=⟨⟩
theorem tw1306664940595031569:True:=⟨⟩
theorem tw3516290532937162942:True:=⟨⟩
theorem tw16530916539677959607:True:=⟨⟩
theorem tw12621444432747258585:True:=⟨⟩
theorem tw10605153333288808301:True:=⟨⟩
theorem tw4348692242893447080:True:=⟨⟩
theorem tw9506514070851706557:True:=⟨⟩
theorem tw8356292098306641786:True:=⟨⟩
theorem tw18286798378924978201:True:=⟨⟩
theorem tw16343214074143840765:True:=⟨⟩
theorem tw14447611895236885818:True:=⟨⟩
theorem tw9352744137347530333:True:=⟨⟩
theorem tw14552574390696141434:True:=⟨⟩
theorem tw13203047532173799369:True:=⟨⟩
theorem tw16129964198964000543:True:=⟨⟩
theorem tw2463770761332245096:True:=⟨⟩
theorem tw16758433518746811956:True:=⟨⟩
theorem tw2802976998981073656:True:=⟨⟩
theorem tw15267263682494160612:True:=⟨⟩
theorem tw16440261177851848180:True:=⟨⟩
theorem tw7019828733122250581:True:=⟨⟩
theorem tw11346010093318236349:True:=⟨⟩
theorem tw15731187565935721514:True:=⟨⟩
theorem tw9031644308213929872:True:=⟨⟩
theorem tw2883686945591348217:True:=⟨⟩
theorem tw11645037865368358428:True:=⟨⟩
theorem tw7930507071092741769:True:=⟨⟩
end PySem.W.Fast
open PySem PySem.W PyProof.Rows
set_option maxRecDepth 100000 in
set_option maxHeartbeats 0 in
theorem PySem.Challenge.cw_twoorders_k06_whole_all_or_none_holds : PySem.Challenge.rw_twoorders_k06_whole_all_or_none.Holds := by
 w_on;o_law;k_head;(case hw=>w_witness2)
 k_fill
 refine K1.q_G (l:=PySem.Challenge.rw_twoorders_k06_whole_all_or_none) rfl rfl (λw h Y=>PySem.W.kIn_of Y) ?F
 case F=>
  intro w mg fa h KX G hmg
  refine' K1.o_G KX G hmg ?aCO ?aCS ?aInit ?iInit ?FInit ?aTake ?iTake ?FTake ?aLet ?iLet ?FLet ?aAhead ?iAhead ?FAhead ?aBetw ?iBetw ?FBetw ?aBA ?iBA ?FBA ?aRA ?iRA ?FRA ?aSplit ?iSplit ?FSplit ?aJoin ?iJoin ?FJoin ?aRows ?iRows ?FRows ?aSInit ?iSInit ?FSInit ?aSBring ?iSBring ?FSBring ?aSAlter ?iSAlter ?FSAlter ?aSCut ?iSCut ?FSCut ?aSBegin ?iSBegin ?FSBegin ?aSKeep ?iSKeep ?FSKeep ?aSBreak ?iSBreak ?FSBreak ?aSRowOf ?iSRowOf ?FSRowOf ?aSEnd ?iSEnd ?FSEnd ?aSChange ?iSChange ?FSChange ?aSExch ?iSExch ?FSExch ?aCW ?FCW ?aLead ?FLead ?aKey ?FKey ?aqOrderOf ?FqOrderOf ?aqWithin ?FqWithin ?aqText ?FqText ?aqRankKey ?FqRankKey ?aqFrom ?FqFrom ?aqSpot ?FqSpot ?adAnswers ?FdAnswers ?adAnsIn ?FdAnsIn ?adAnsOf ?FdAnsOf ?adAll ?FdAll ?adOne ?FdOne ?adDo ?FdDo ?adAsk ?FdAsk ?aWhole ?FWhole ?aAt ?FAt ?aSame ?FSame ?aTexts ?FTexts ?aDrawn ?FDrawn ?aFar ?FFar ?aChangeOf ?FChangeOf ?aQuestionOf ?FQuestionOf ?aBringsOf ?FBringsOf ?aDeedsOf ?FDeedsOf ?aNewStore ?FNewStore ?aRowsBy ?FRowsBy ?aChanged ?FChanged ?aAllChanged ?FAllChanged ?aLies ?FLies ?aToldByAll ?FToldByAll ?aAnswered ?FAnswered ?aStep ?FStep ?aRaised ?FRaised ?aRanked ?FRanked ?aSigned ?FSigned ?aMoved ?FMoved ?aDeedMoved ?FDeedMoved ?aRoomOf ?FRoomOf ?aCopied ?FCopied ?adBothO ?FdBothO ?aLaw ?FLaw ?pgCO ?hdCO ?poCO ?saCO ?mkCO ?kcCO ?pgCS ?hdCS ?poCS ?saCS ?mkCS ?kcCS ?nCO_word ?nCO_blocks ?nCO_bring ?nCS_room ?nCS_by_number ?nCS_by_rank ?nCS_by_text ?nCS_steps ?nCS_marks ?q1 ?q2 ?q3 ?q4 ?q5 ?qQ ?lQ ?aCT ?xCT ?aCF ?xCF ?aCM ?xCM ?aCN ?xCN ?aCNo ?xCNo ?ett ?emt ?emm ?eft ?efm ?eff ?ent ?enm ?enf ?enn ?eot ?eom ?eof ?eon ?eoo ?zlen ?zmin ?zsum ?zisinstance ?zint ?zbool ?zlist ?ztuple ?zstr ?zsorted ?zrange ?zmax ?nb
  (case aCO=>k_is);(case aCS=>k_is);(case aInit=>k_is);(case iInit=>k_is);(case FInit=>refine' L2.a_B ?l ?c ?k;(case l=>k_is);(case c=>k_is);(case k=>k_is));(case aTake=>k_is)
  (case iTake=>k_is);(case FTake=>refine' L2.a_B ?l ?c ?k;(case l=>k_is);(case c=>k_is);(case k=>k_is));(case aLet=>k_is);(case iLet=>k_is);(case FLet=>refine' L2.a_B ?l ?c ?k;(case l=>k_is);(case c=>k_is);(case k=>k_is));(case aAhead=>k_is)
  (case iAhead=>k_is);(case FAhead=>refine' L2.a_B ?l ?c ?k;(case l=>k_is);(case c=>k_is);(case k=>k_is));(case aBetw=>k_is);(case iBetw=>k_is);(case FBetw=>refine' L2.a_B ?l ?c ?k;(case l=>k_is);(case c=>k_is);(case k=>k_is));(case aBA=>k_is)
  (case iBA=>k_is);(case FBA=>refine' L2.a_B ?l ?c ?k;(case l=>k_is);(case c=>k_is);(case k=>k_is));(case aRA=>k_is);(case iRA=>k_is);(case FRA=>refine' L2.a_B ?l ?c ?k;(case l=>k_is);(case c=>k_is);(case k=>k_is));(case aSplit=>k_is)
  (case iSplit=>k_is);(case FSplit=>refine' L2.a_B ?l ?c ?k;(case l=>k_is);(case c=>k_is);(case k=>k_is));(case aJoin=>k_is);(case iJoin=>k_is);(case FJoin=>refine' L2.a_B ?l ?c ?k;(case l=>k_is);(case c=>k_is);(case k=>k_is));(case aRows=>k_is)
  (case iRows=>k_is);(case FRows=>refine' L2.a_B ?l ?c ?k;(case l=>k_is);(case c=>k_is);(case k=>k_is));(case aSInit=>k_is);(case iSInit=>k_is);(case FSInit=>refine' L2.a_B ?l ?c ?k;(case l=>k_is);(case c=>k_is);(case k=>k_is));(case aSBring=>k_is)
  (case iSBring=>k_is);(case FSBring=>refine' L2.a_B ?l ?c ?k;(case l=>k_is);(case c=>k_is);(case k=>k_is));(case aSAlter=>k_is);(case iSAlter=>k_is);(case FSAlter=>refine' L2.a_B ?l ?c ?k;(case l=>k_is);(case c=>k_is);(case k=>k_is));(case aSCut=>k_is)
  (case iSCut=>k_is);(case FSCut=>refine' L2.a_B ?l ?c ?k;(case l=>k_is);(case c=>k_is);(case k=>k_is));(case aSBegin=>k_is);(case iSBegin=>k_is);(case FSBegin=>refine' L2.a_B ?l ?c ?k;(case l=>k_is);(case c=>k_is);(case k=>k_is));(case aSKeep=>k_is)
  (case iSKeep=>k_is);(case FSKeep=>refine' L2.a_B ?l ?c ?k;(case l=>k_is);(case c=>k_is);(case k=>k_is));(case aSBreak=>k_is);(case iSBreak=>k_is);(case FSBreak=>refine' L2.a_B ?l ?c ?k;(case l=>k_is);(case c=>k_is);(case k=>k_is));(case aSRowOf=>k_is)
  (case iSRowOf=>k_is);(case FSRowOf=>refine' L2.a_B ?l ?c ?k;(case l=>k_is);(case c=>k_is);(case k=>k_is));(case aSEnd=>k_is);(case iSEnd=>k_is);(case FSEnd=>refine' L2.a_B ?l ?c ?k;(case l=>k_is);(case c=>k_is);(case k=>k_is));(case aSChange=>k_is)
  (case iSChange=>k_is);(case FSChange=>refine' L2.a_B ?l ?c ?k;(case l=>k_is);(case c=>k_is);(case k=>k_is));(case aSExch=>k_is);(case iSExch=>k_is);(case FSExch=>refine' L2.a_B ?l ?c ?k;(case l=>k_is);(case c=>k_is);(case k=>k_is));(case aCW=>k_is)
  (case FCW=>refine' L2.a_B ?l ?c ?k;(case l=>k_is);(case c=>k_is);(case k=>k_is));(case aLead=>k_is);(case FLead=>refine' L2.a_B ?l ?c ?k;(case l=>k_is);(case c=>k_is);(case k=>k_is));(case aKey=>k_is);(case FKey=>refine' L2.a_B ?l ?c ?k;(case l=>k_is);(case c=>k_is);(case k=>k_is));(case aqOrderOf=>k_is)
  (case FqOrderOf=>refine' L2.a_B ?l ?c ?k;(case l=>k_is);(case c=>k_is);(case k=>k_is));(case aqWithin=>k_is);(case FqWithin=>refine' L2.a_B ?l ?c ?k;(case l=>k_is);(case c=>k_is);(case k=>k_is));(case aqText=>k_is);(case FqText=>refine' L2.a_B ?l ?c ?k;(case l=>k_is);(case c=>k_is);(case k=>k_is));(case aqRankKey=>k_is)
  (case FqRankKey=>refine' L2.a_B ?l ?c ?k;(case l=>k_is);(case c=>k_is);(case k=>k_is));(case aqFrom=>k_is);(case FqFrom=>refine' L2.a_B ?l ?c ?k;(case l=>k_is);(case c=>k_is);(case k=>k_is));(case aqSpot=>k_is);(case FqSpot=>refine' L2.a_B ?l ?c ?k;(case l=>k_is);(case c=>k_is);(case k=>k_is));(case adAnswers=>k_is)
  (case FdAnswers=>refine' L2.a_B ?l ?c ?k;(case l=>k_is);(case c=>k_is);(case k=>k_is));(case adAnsIn=>k_is);(case FdAnsIn=>refine' L2.a_B ?l ?c ?k;(case l=>k_is);(case c=>k_is);(case k=>k_is));(case adAnsOf=>k_is);(case FdAnsOf=>refine' L2.a_B ?l ?c ?k;(case l=>k_is);(case c=>k_is);(case k=>k_is));(case adAll=>k_is)
  (case FdAll=>refine' L2.a_B ?l ?c ?k;(case l=>k_is);(case c=>k_is);(case k=>k_is));(case adOne=>k_is);(case FdOne=>refine' L2.a_B ?l ?c ?k;(case l=>k_is);(case c=>k_is);(case k=>k_is));(case adDo=>k_is);(case FdDo=>refine' L2.a_B ?l ?c ?k;(case l=>k_is);(case c=>k_is);(case k=>k_is));(case adAsk=>k_is)
  (case FdAsk=>refine' L2.a_B ?l ?c ?k;(case l=>k_is);(case c=>k_is);(case k=>k_is));(case aWhole=>k_is);(case FWhole=>refine' L2.a_B ?l ?c ?k;(case l=>k_is);(case c=>k_is);(case k=>k_is));(case aAt=>k_is);(case FAt=>refine' L2.a_B ?l ?c ?k;(case l=>k_is);(case c=>k_is);(case k=>k_is));(case aSame=>k_is)
  (case FSame=>refine' L2.a_B ?l ?c ?k;(case l=>k_is);(case c=>k_is);(case k=>k_is));(case aTexts=>k_is);(case FTexts=>refine' L2.a_B ?l ?c ?k;(case l=>k_is);(case c=>k_is);(case k=>k_is));(case aDrawn=>k_is);(case FDrawn=>refine' L2.a_B ?l ?c ?k;(case l=>k_is);(case c=>k_is);(case k=>k_is));(case aFar=>k_is)
  (case FFar=>refine' L2.a_B ?l ?c ?k;(case l=>k_is);(case c=>k_is);(case k=>k_is));(case aChangeOf=>k_is);(case FChangeOf=>refine' L2.a_B ?l ?c ?k;(case l=>k_is);(case c=>k_is);(case k=>k_is));(case aQuestionOf=>k_is);(case FQuestionOf=>refine' L2.a_B ?l ?c ?k;(case l=>k_is);(case c=>k_is);(case k=>k_is));(case aBringsOf=>k_is)
  (case FBringsOf=>refine' L2.a_B ?l ?c ?k;(case l=>k_is);(case c=>k_is);(case k=>k_is));(case aDeedsOf=>k_is);(case FDeedsOf=>refine' L2.a_B ?l ?c ?k;(case l=>k_is);(case c=>k_is);(case k=>k_is));(case aNewStore=>k_is);(case FNewStore=>refine' L2.a_B ?l ?c ?k;(case l=>k_is);(case c=>k_is);(case k=>k_is));(case aRowsBy=>k_is)
  (case FRowsBy=>refine' L2.a_B ?l ?c ?k;(case l=>k_is);(case c=>k_is);(case k=>k_is));(case aChanged=>k_is);(case FChanged=>refine' L2.a_B ?l ?c ?k;(case l=>k_is);(case c=>k_is);(case k=>k_is));(case aAllChanged=>k_is);(case FAllChanged=>refine' L2.a_B ?l ?c ?k;(case l=>k_is);(case c=>k_is);(case k=>k_is));(case aLies=>k_is)
  (case FLies=>refine' L2.a_B ?l ?c ?k;(case l=>k_is);(case c=>k_is);(case k=>k_is));(case aToldByAll=>k_is);(case FToldByAll=>refine' L2.a_B ?l ?c ?k;(case l=>k_is);(case c=>k_is);(case k=>k_is));(case aAnswered=>k_is);(case FAnswered=>refine' L2.a_B ?l ?c ?k;(case l=>k_is);(case c=>k_is);(case k=>k_is));(case aStep=>k_is)
  (case FStep=>refine' L2.a_B ?l ?c ?k;(case l=>k_is);(case c=>k_is);(case k=>k_is));(case aRaised=>k_is);(case FRaised=>refine' L2.a_B ?l ?c ?k;(case l=>k_is);(case c=>k_is);(case k=>k_is));(case aRanked=>k_is);(case FRanked=>refine' L2.a_B ?l ?c ?k;(case l=>k_is);(case c=>k_is);(case k=>k_is));(case aSigned=>k_is)
  (case FSigned=>refine' L2.a_B ?l ?c ?k;(case l=>k_is);(case c=>k_is);(case k=>k_is));(case aMoved=>k_is);(case FMoved=>refine' L2.a_B ?l ?c ?k;(case l=>k_is);(case c=>k_is);(case k=>k_is));(case aDeedMoved=>k_is);(case FDeedMoved=>refine' L2.a_B ?l ?c ?k;(case l=>k_is);(case c=>k_is);(case k=>k_is));(case aRoomOf=>k_is)
  (case FRoomOf=>refine' L2.a_B ?l ?c ?k;(case l=>k_is);(case c=>k_is);(case k=>k_is));(case aCopied=>k_is);(case FCopied=>refine' L2.a_B ?l ?c ?k;(case l=>k_is);(case c=>k_is);(case k=>k_is));(case adBothO=>k_is);(case FdBothO=>refine' L2.a_B ?l ?c ?k;(case l=>k_is);(case c=>k_is);(case k=>k_is));(case aLaw=>k_is)
  (case FLaw=>refine' L2.a_B ?l ?c ?k;(case l=>k_is);(case c=>k_is);(case k=>k_is));(case pgCO=>k_is);(case hdCO=>k_is);(case poCO=>k_is);(case saCO=>k_is);(case mkCO=>k_is)
  (case kcCO=>k_is);(case pgCS=>k_is);(case hdCS=>k_is);(case poCS=>k_is);(case saCS=>k_is);(case mkCS=>k_is)
  (case kcCS=>k_is);(case nCO_word=>k_is);(case nCO_blocks=>k_is);(case nCO_bring=>k_is);(case nCS_room=>k_is);(case nCS_by_number=>k_is)
  (case nCS_by_rank=>k_is);(case nCS_by_text=>k_is);(case nCS_steps=>k_is);(case nCS_marks=>k_is);(case q1=>k_is);(case q2=>k_is)
  (case q3=>k_is);(case q4=>k_is);(case q5=>k_is);(case qQ=>k_is);(case lQ=>k_is);(case aCT=>k_is)
  (case xCT=>k_exc);(case aCF=>k_is);(case xCF=>k_exc);(case aCM=>k_is);(case xCM=>k_exc);(case aCN=>k_is)
  (case xCN=>k_exc);(case aCNo=>k_is);(case xCNo=>k_exc);(case ett=>kts_exm);(case emt=>kts_exm);(case emm=>kts_exm)
  (case eft=>kts_exm);(case efm=>kts_exm);(case eff=>kts_exm);(case ent=>kts_exm);(case enm=>kts_exm);(case enf=>kts_exm)
  (case enn=>kts_exm);(case eot=>kts_exm);(case eom=>kts_exm);(case eof=>kts_exm);(case eon=>kts_exm);(case eoo=>kts_exm)
  (case zlen=>k_is);(case zmin=>k_is);(case zsum=>k_is);(case zisinstance=>k_is);(case zint=>k_is);(case zbool=>k_is)
  (case zlist=>k_is);(case ztuple=>k_is);(case zstr=>k_is);(case zsorted=>k_is);(case zrange=>k_is);(case zmax=>k_is)
  (case nb=>k_is)
#print axioms PySem.Challenge.cw_twoorders_k06_whole_all_or_none_holds
