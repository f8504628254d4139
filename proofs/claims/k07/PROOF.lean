import PyProof.Rows.All
import Wide.All
import OpenK.AllK
import Wide.FinOn
import Lean
import PyProof.EqAt
import PyProof.EqKinds
import PyProof.TupleCall
import PyProof.ReprStr
import KE.KTryMore
import KE.KIsAll
import PyProof.NsDelKeeps
import PyProof.ExcArgs
import KE.RegKTryMore
import KE.RegKIsAll
import PySem.Challenge.RW_twoorders_k07_a_store_by_hand
set_option linter.all false
set_option maxRecDepth 100000
set_option maxHeartbeats 4000000
set_option Elab.async false
def o_O:=@List.length_map
def o_P:=@List.getElem?_eq_getElem
def o_Q:=@List.length_append
def o_R:=@List.mem_cons_of_mem
def o_S:=@List.mem_cons_self
def o_T:=@List.mem_singleton
def o_U:=@List.length_cons
def o_V:=@Option.some.inj
def o_W:=@List.map_append
def o_X:=@Nat.le_refl
def o_Y:=@List.size_toArray
def o_Z:=@List.mem_cons
def o_0:=@List.getElem?_map
def o_1:=@List.mem_append_right
def o_2:=@List.getElem?_eq_some_iff
def o_3:=@List.map_cons
def o_4:=@Nat.lt_of_lt_of_le
def o_5:=@Bool.false_ne_true
def o_6:=@List.mem_append
def o_7:=@List.getD_eq_getElem?_getD
def o_8:=@List.take_of_length_le
def o_9:=@Nat.le_trans
def p_a:=@List.length_take
def p_b:=@List.flatten_append
def p_c:=@Nat.ne_of_lt
def p_d:=@List.filter_cons
def p_e:=@List.mem_of_getElem?
def p_g:=@Nat.zero_le
def p_h:=@List.flatten_cons
def p_i:=@List.nodup_cons
def p_j:=@List.mem_map
def p_k:=@List.length_eq_zero_iff
def p_l:=@List.append_nil
def p_n:=@List.mem_append_left
def p_o:=@List.length_nil
def p_q:=@List.length_reverse
def p_r:=@List.take_append_drop
def p_t:=@Nat.lt_of_le_of_lt
def p_u:=@decide_eq_true
def p_v:=@decide_eq_false
def p_w:=@of_decide_eq_true
def p_x:=@PySem.boot_len
def p_y:=@PySem.F.plainAttrs_list
def p_z:=@PySem.F.type_list_append
def p_A:=@PySem.F.slot_list_append
namespace L2
open PySem PySem.Spec PyProof.Rows
abbrev Key:=Sum Int Str
def g_6:Key->Value->Bool
 | .inl k,v=>Value.isInt k v
 | .inr x,v=>Value.isStrOf x v
def o_M (w:World):Key->Int
 | .inl k=>hashInt k
 | .inr x=>hashStr w x
theorem a_X:∀{k:Key} {v:Value},g_6 k v=true->(∃i t,k=Sum.inl i/\v=Value.int i t)\/(∃x t,k=Sum.inr x/\v=Value.str x t)
 | .inl i,v,h=>by
   obtain⟨t,e⟩:=Value.isInt_shape (k:=i) (v:=v) h;exact .inl ⟨i,t,rfl,e⟩
 | .inr x,v,h=>by
   obtain⟨t,e⟩:=Value.isStrOf_shape (x:=x) (v:=v) h;exact .inr ⟨x,t,rfl,e⟩
theorem i_D (i:Int) (t:Tok):g_6 (.inl i) (.int i t)=true:=by simp[g_6,Value.isInt]
theorem h_E (x:Str) (t:Tok):g_6 (.inr x) (.str x t)=true:=by simp[g_6,Value.isStrOf]
theorem m_c (a b:Int):decide ((Sum.inl a:Key)=Sum.inl b)=(a == b):=by
 by_cases e:a=b
 ·subst e;simp
 ·have h:¬ (Sum.inl a:Key)=Sum.inl b:=λq=>e (Sum.inl.inj q)
  rw[p_v h];exact (beq_eq_false_iff_ne.mpr e).symm
theorem m_k (a b:Str):decide ((Sum.inr a:Key)=Sum.inr b)=decide (a=b):=by
 by_cases e:a=b
 ·subst e;simp
 ·have h:¬ (Sum.inr a:Key)=Sum.inr b:=λq=>e (Sum.inr.inj q)
  rw[p_v h,p_v e]
theorem l_7 (a:Int) (b:Str):decide ((Sum.inl a:Key)=Sum.inr b)=false:=p_v (λq=>nomatch q)
theorem m_L (a:Str) (b:Int):decide ((Sum.inr a:Key)=Sum.inl b)=false:=p_v (λq=>nomatch q)
def a_V (prog:Program) (w:World):PySem.KeyKind prog w Key where
 is:=g_6
 hash:=o_M w
 inj:=λv a b ha hb=>by
  rcases a_X ha with⟨i,t,rfl,rfl⟩ | ⟨x,t,rfl,rfl⟩
  ·rcases a_X hb with⟨j,u,rfl,e⟩ | ⟨y,u,rfl,e⟩
   ·injection e with e1 _;rw[e1]
   ·exact nomatch e
  ·rcases a_X hb with⟨j,u,rfl,e⟩ | ⟨y,u,rfl,e⟩
   ·exact nomatch e
   ·injection e with e1 _;rw[e1]
 byValue:=λk v h=>by
  rcases a_X h with⟨i,t,rfl,rfl⟩ | ⟨x,t,rfl,rfl⟩ <;> rfl
 pyHash:=λhv h=>by
  rcases a_X hv with⟨i,t,rfl,rfl⟩ | ⟨x,t,rfl,rfl⟩
  ·exact wpAny_pyHash_int h
  ·exact wpAny_pyHash_str h
 eqBool:=λhu hv h=>by
  rcases a_X hu with⟨i,t,rfl,rfl⟩ | ⟨x,t,rfl,rfl⟩
  ·rcases a_X hv with⟨j,u,rfl,rfl⟩ | ⟨y,u,rfl,rfl⟩
   ·rw[m_c] at h;exact wpAny_eqBool_int h
   ·rw[l_7] at h;exact SeqAt.EqAt.int_str i t y u _ _ _ _ h
  ·rcases a_X hv with⟨j,u,rfl,rfl⟩ | ⟨y,u,rfl,rfl⟩
   ·rw[m_L] at h;exact SeqAt.EqAt.str_int x t j u _ _ _ _ h
   ·rw[m_k] at h;exact wpAny_eqBool_str h
 «strs»:=λk x t v h=>by
  rcases a_X h with⟨i,u,rfl,e⟩ | ⟨y,u,rfl,e⟩
  ·exact nomatch e
  ·injection e with e1 _
   subst e1
   cases v <;> rfl
theorem f_C (prog:Program) (w:World) (i:Int) (t:Tok):(a_V prog w).is (.inl i) (.int i t)=true:=i_D i t
theorem f_4 (prog:Program) (w:World) (x:Str) (t:Tok):(a_V prog w).is (.inr x) (.str x t)=true:=h_E x t
inductive V where
 | non | bl (b:Bool) | int (i:Int) | str (x:Str) | byt (b:Array UInt8) | flt (b:UInt64) | ref (a:Addr) | ty (n:String)
 deriving DecidableEq
def RelV:V->Value->Prop
 | .non,u=>u=Value.none
 | .bl b,u=>u=Value.bool b
 | .int i,u=>∃t,u=Value.int i t
 | .str x,u=>∃t,u=Value.str x t
 | .byt b,u=>∃t,u=Value.bytes b t
 | .flt b,u=>∃t,u=Value.float b t
 | .ref a,u=>u=Value.ref a
 | .ty n,u=>u=Value.type n
abbrev Vals:List V->List Value->Prop:=Paired RelV
theorem Vals.length {xs:List V} {us:List Value} (r:Vals xs us):xs.length=us.length:=Paired.length r
theorem Vals.get:∀{xs:List V} {us:List Value} {i:Nat} {x:V},Vals xs us->xs[i]? =some x->∃u,us[i]? =some u/\RelV x u
 | _,_,_,_,.nil,e=>by simp at e
 | _,_,0,_,.cons r _,e=>by simp at e;subst e;exact⟨_,rfl,r⟩
 | _,_,i+1,x,.cons _ t,e=>by
   obtain⟨u,h1,h2⟩:=Vals.get (i:=i) (x:=x) t (by simpa using e);exact⟨u,by simpa using h1,h2⟩
theorem Vals.set {x:V} {u:Value} (r:RelV x u):∀{xs:List V} {us:List Value} (i:Nat),Vals xs us->Vals (xs.set i x) (us.set i u)
 | _,_,_,.nil=> .nil
 | _,_,0,.cons _ t=> .cons r t
 | _,_,i+1,.cons q t=> .cons q (Vals.set r i t)
theorem Vals.append:∀{xs ys:List V} {us ws:List Value},Vals xs us->Vals ys ws->Vals (xs++ys) (us++ws)
 | _,_,_,_,.nil,s=>s
 | _,_,_,_,.cons r t,s=> .cons r (Vals.append t s)
theorem Vals.take:∀{xs:List V} {us:List Value} (n:Nat),Vals xs us->Vals (xs.take n) (us.take n)
 | _,_,0,_=> .nil
 | _,_,_+1,.nil=> .nil
 | _,_,n+1,.cons r t=> .cons r (Vals.take n t)
theorem Vals.drop:∀{xs:List V} {us:List Value} (n:Nat),Vals xs us->Vals (xs.drop n) (us.drop n)
 | _,_,0,r=>r
 | _,_,_+1,.nil=> .nil
 | _,_,n+1,.cons _ t=>Vals.drop n t
def RelO:Option V->Option Value->Prop
 | some v,some u=>RelV v u
 | none,none=>True
 | _,_=>False
def KV {κ:Type}:List (κ×V)->List (κ×Value)->Prop:=Paired λ(p:κ×V) (q:κ×Value)=>p.1=q.1/\RelV p.2 q.2
def kV:Key->V
 | .inl i=> .int i
 | .inr x=> .str x
inductive HO where
 /-- a list -/
 | lst (xs:List V)
 /-- a tuple (never changes) -/
 | tup (xs:List V)
 /-- a dict whose keys are ints and texts;one whose keys are tuples of ints and texts (the empty one is both) -/
 | dK (kvs:List (Key×V)) | dT (kvs:List (List Key×V))
 /-- a set of ints:its members,its size -/
 | set (S:Int->Bool) (n:Nat)
 /-- an instance of the class at C,its dict at dx,its attributes -/
 | ins (C dx:Addr) (fs:List (Str×V))
 /-- the dict of the instance at x -/
 | own (x:Addr)
 /-- the dict of an exception -/
 | xd (fs:List (Str×V))
 /-- a bound method,f of x -/
 | met (f x:Addr)
 /-- a range object lo,lo+1,.. below hi -/
 | rng (lo hi:Int)
 /-- a thing that is known to the object (the script;a dict while a loop walks it):read,never written while it is so -/
 | frz (o:Obj) (u:HO)
 /-- a code object's table -/
 | tbl (ps:Array Value)
 /-- any other thing,by what is true of its one object (a def of one's own:SetO a S n:=HO.ext λh=> ..) -/
 | ext (φ:Heap->Prop)
abbrev Hp:=Addr->Option HO
def upd (H:Hp) (a:Addr) (o:HO):Hp:=λb=>if b=a then some o else H b
theorem a_b {H:Hp} {a:Addr} {o:HO}:upd H a o a=some o:=by unfold upd;rw[if_pos rfl]
theorem a_i {H:Hp} {a b:Addr} {o:HO} (h:b≠a):upd H a o b=H b:=by unfold upd;rw[if_neg h]
theorem d_5 {H:Hp} {a b:Addr} {o u:HO} (h:H a=some o) (h':H b=some u) (d:o≠u):a≠b:=by
 intro e;subst e;rw[h] at h';exact d (o_V h')
theorem a_h {H:Hp} {a b:Addr} {o:HO} (h:H a=some o) (h':H b=none):a≠b:=by
 intro e;subst e;rw[h] at h';cases h'
section
variable (P:Program) (w:World)
def ObjOk (H:Hp) (h:Heap) (a:Addr):HO->Prop
 | .lst xs=>xs.length<=sizeLine/\∃(its:List Value) (n:Nat),Vals xs its/\h.get? a=some { cls:= .type "list",data:= .seq its.toArray n }
 | .tup xs=>xs.length<=sizeLine/\∃its:List Value,Vals xs its/\IsTup h a its.toArray
 | .dK kvs=>kvs.length<=sizeLine/\(a == sysModules)=false/\∃vs,KV kvs vs/\h.DictOf (a_V P w) a vs
 | .dT kvs=>kvs.length≤sizeLine∧(a == sysModules)=false∧∃xs:List (List Key×Addr×Value),
    Paired (λ(p:List Key×V) (q:List Key×Addr×Value)=>p.1=q.1/\H q.2.1=some (.tup (p.1.map kV))/\RelV p.2 q.2.2) kvs xs/\
    ∃o es ep,h.get? a=some o/\o.ExactDict/\o.data= .dict es ep/\es.toList=xs.map (entryOfKey (tupleKind (a_V P w)))/\(xs.map (·.1)).Nodup
 | .set S n=>h.SetOf (intKind P w) a S n
 | .ins C dx fs=>H dx=some (.own a)∧fs.length≤1000∧dx≠a∧h.get? a=some (PySem.W.instObj C dx)∧
    ∃mA,h.Ns1 dx mA/\(∀f,RelO (fs.lookup f) (mA f))/\PySem.Within mA (fs.map (·.1))
 | .own _=>∃o,h.get? a=some o
 | .xd fs=>∃mA,h.Ns1 a mA/\∀f,RelO (fs.lookup f) (mA f)
 | .rng lo hi=>∃t u v,h.get? a=some { cls:= .type "range",data:= .fields #[.int lo t,.int hi u,.int 1 v] }
 | .frz o u=>h.get? a=some o/\ObjOk H h a u
 | .tbl ps=>h.get? a=some { cls:= .none,data:= .fields ps }
 | .met f x=>h.get? a=some (PySem.W.methodObj (.ref f) (.ref x))
 | .ext φ=>φ h/\(∃o,h.get? a=some o)/\∀h1 h2:Heap,φ h1->(∀o,h1.get? a=some o->h2.get? a=some o)->φ h2
def HOk (H:Hp) (h:Heap):Prop:=∀a o,H a=some o->ObjOk P w H h a o
end
section
variable {P:Program} {w:World} {H H':Hp} {h h':Heap} {a:Addr} {o:HO}
theorem ObjOk.lt (x:ObjOk P w H h a o):a < h.objs.size:=by
 cases o with
 | lst xs=>obtain⟨_,_,_,_,e⟩:=x;exact Heap.lt_size e
 | tup xs=>obtain⟨_,_,_,p⟩:=x;exact p.lt
 | dK kvs=>obtain⟨_,_,_,_,o,_,_,e,_⟩:=x;exact Heap.lt_size e
 | dT kvs=>obtain⟨_,_,_,_,o,_,_,e,_⟩:=x;exact Heap.lt_size e
 | set S n=>obtain⟨o,_,_,_,e,_⟩:=x;exact Heap.lt_size e
 | ins C dx fs=>obtain⟨_,_,_,e,_⟩:=x;exact Heap.lt_size e
 | own y=>obtain⟨_,e⟩:=x;exact Heap.lt_size e
 | xd fs=>obtain⟨_,⟨_,_,_,e,_⟩,_⟩:=x;exact Heap.lt_size e
 | rng lo hi=>obtain⟨_,_,_,e⟩:=x;exact Heap.lt_size e
 | frz ob u=>obtain⟨e,_⟩:=x;exact Heap.lt_size e
 | tbl ps=>exact Heap.lt_size (show h.get? a=some _ from x)
 | met f y=>exact Heap.lt_size (show h.get? a=some _ from x)
 | ext φ=>obtain⟨_,⟨_,e⟩,_⟩:=x;exact Heap.lt_size e
theorem Paired.mapP {α β:Type} {F G:α->β->Prop}:∀{l₁:List α} {l₂:List β},Paired F l₁ l₂->(∀a b,F a b->G a b)->Paired G l₁ l₂
 | _,_,.nil,_=> .nil
 | _,_,.cons r t,f=> .cons (f _ _ r) (Paired.mapP t f)
theorem ObjOk.stay (x:ObjOk P w H h a o) (k:∀b u,(b=a\/H b=some (.own a))->h.get? b=some u->h'.get? b=some u)
 (ho:∀b,H b=some (.own a)->H' b=some (.own a)) (ht:∀b xs,H b=some (.tup xs)->H' b=some (.tup xs)):ObjOk P w H' h' a o:=by
 induction o with
 | lst xs=>obtain⟨z,its,n,r,e⟩:=x;exact⟨z,its,n,r,k _ _ (.inl rfl) e⟩
 | tup xs=>obtain⟨z,its,r,ob,e,c⟩:=x;exact⟨z,its,r,ob,k _ _ (.inl rfl) e,c⟩
 | dK kvs=>obtain⟨z,y,vs,r,ob,es,ep,e,c⟩:=x;exact⟨z,y,vs,r,ob,es,ep,k _ _ (.inl rfl) e,c⟩
 | dT kvs=>
   obtain⟨z,y,xs,r,ob,es,ep,e,c⟩:=x;exact⟨z,y,xs,Paired.mapP r λp q z=>⟨z.1,ht _ _ z.2.1,z.2.2⟩,ob,es,ep,k _ _ (.inl rfl) e,c⟩
 | set S n=>obtain⟨ob,es,ep,t,e,c⟩:=x;exact⟨ob,es,ep,t,k _ _ (.inl rfl) e,c⟩
 | ins C dx fs=>
   obtain⟨d,z,ne,e,mA,⟨od,es,ep,e2,c⟩,r⟩:=x;exact⟨ho _ d,z,ne,k _ _ (.inl rfl) e,mA,⟨od,es,ep,k _ _ (.inr d) e2,c⟩,r⟩
 | own y=>obtain⟨ob,e⟩:=x;exact⟨ob,k _ _ (.inl rfl) e⟩
 | xd fs=>obtain⟨mA,⟨od,es,ep,e,c⟩,r⟩:=x;exact⟨mA,⟨od,es,ep,k _ _ (.inl rfl) e,c⟩,r⟩
 | rng lo hi=>obtain⟨t,u,v,e⟩:=x;exact⟨t,u,v,k _ _ (.inl rfl) e⟩
 | frz ob u ih=>obtain⟨e,q⟩:=x;exact⟨k _ _ (.inl rfl) e,ih q⟩
 | tbl ps=>
   have e:h.get? a=some { cls:= .none,data:= .fields ps }:=x;show h'.get? a=some { cls:= .none,data:= .fields ps };exact k a _ (.inl rfl) e
 | met f y=>
   have e:h.get? a=some (PySem.W.methodObj (.ref f) (.ref y)):=x;show h'.get? a=some (PySem.W.methodObj (.ref f) (.ref y));exact k a _ (.inl rfl) e
 | ext φ=>obtain⟨p,⟨o,e⟩,st⟩:=x;exact⟨st _ _ p λo q=>k _ _ (.inl rfl) q,⟨o,k _ _ (.inl rfl) e⟩,st⟩
theorem HOk.lt (x:HOk P w H h) (e:H a=some o):a < h.objs.size:=(x a o e).lt
theorem HOk.fresh (x:HOk P w H h) (e:h.objs.size<=a):H a=none:=by
 cases q:H a with
 | none=>rfl
 | some u=>exact absurd (o_4 (x.lt q) e) (Nat.lt_irrefl _)
theorem HOk.kept (x:HOk P w H h) (k:∀b u,h.get? b=some u->h'.get? b=some u):HOk P w H h':=λa o e=>
 (x a o e).stay (λb u _ q=>k b u q) (λ_ q=>q) λ_ _ q=>q
theorem HOk.laid (x:HOk P w H h) (k:∀b u,h.get? b=some u->h'.get? b=some u) (hp:h.objs.size<=a) (new:ObjOk P w (upd H a o) h' a o):HOk P w (upd H a o) h':=λb u e=>by
 have hn:=x.fresh hp;by_cases hb:b=a
 ·subst hb;rw[a_b] at e;cases e;exact new
 ·rw[a_i hb] at e
  exact (x b u e).stay (λc v _ q=>k c v q) (λc q=>by rw[a_i (a_h q hn)];exact q) λc xs q=>by rw[a_i (a_h q hn)];exact q
end
def Rd (H:Hp) (a:Addr) (u:HO):Prop:=H a=some u\/∃o,H a=some (.frz o u)
theorem Rd.ok {P:Program} {w:World} {H:Hp} {h:Heap} {a:Addr} {u:HO} (r:Rd H a u) (x:HOk P w H h):ObjOk P w H h a u:=by
 rcases r with r | ⟨o,r⟩
 ·exact x a u r
 ·obtain⟨_,q⟩:=x a _ r
  exact q
def Mut:Option HO->Prop
 | some (.lst _)=>True
 | some (.dK _)=>True
 | some (.dT _)=>True
 | some (.set _ _)=>True
 | some (.ins _ _ _)=>True
 | some (.ext _)=>True
 | _=>False
section
variable {P:Program} {w:World} {H:Hp} {h h':Heap} {x e:Addr} {o':HO}
theorem HOk.write (ok:HOk P w H h) (mu:Mut (H x)) (he:e=x\/H e=some (.own x)) (k:∀b u,b≠e->h.get? b=some u->h'.get? b=some u) (heo:∃u,h'.get? e=some u)
 (new:ObjOk P w (upd H x o') h' x o'):HOk P w (upd H x o') h':=λb u q=>by
 have nown:∀c y,H c=some (.own y)->c≠x:=λc y r z=>by subst z;rw[r] at mu;exact mu
 have ntup:∀c xs,H c=some (.tup xs)->c≠x:=λc xs r z=>by subst z;rw[r] at mu;exact mu
 by_cases hb:b=x
 ·subst hb;rw[a_b] at q;cases q;exact new
 ·rw[a_i hb] at q
  by_cases a:b=e
  ·have q':H b=some (.own x):=by
    rcases he with z | z
    ·exact absurd (a.trans z) hb
    ·rw[a];exact z
   rw[q] at q';cases q';obtain⟨v,hv⟩:=heo;exact⟨v,by rw[a];exact hv⟩
  ·refine (ok b u q).stay (λc v hc r=>k c v ?_ r) (λc r=>by rw[a_i (nown c b r)];exact r) λc xs r=>by rw[a_i (ntup c xs r)];exact r
   rcases hc with rfl | hc
   ·exact a
   ·rintro rfl
    rcases he with z | z
    ·exact nown c b hc z
    ·rw[hc] at z;cases z;exact hb rfl
end
structure Un (fs ex:List Addr) (H H':Hp) (h h':Heap):Prop where
 keep:∀b o,h.get? b=some o->H b=none->b∉fs->b∉ex->h'.get? b=some o
 slot:∀b o,h.get? b=some o->H b=none->b∈fs->b∉ex->∃sl,h'.get? b=some { o with slots:=sl }
 free:∀b o,h.get? b=some o->H b=none->b∉ex->H' b=none
 there:∀b o,h.get? b=some o->b∉ex->∃o',h'.get? b=some o'
 tups:∀b xs,H b=some (.tup xs)->H' b=some (.tup xs)
 frzs:∀b o u,H b=some (.frz o u)->H' b=some (.frz o u)
 tbls:∀b ps,H b=some (.tbl ps)->∃more,H' b=some (.tbl (ps++more))
section
variable {fs fs' ex ex':List Addr} {H H1 H2:Hp} {h h1 h2 h':Heap} {a x e:Addr} {o:HO}
theorem Un.any (u:Un fs ex H H1 h h1) {b:Addr} {ob:Obj} (q:h.get? b=some ob) (n:H b=none) (hx:b∉ex):∃sl,h1.get? b=some { ob with slots:=sl }:=by
 by_cases hb:b∈fs
 ·exact u.slot b ob q n hb hx
 ·exact⟨ob.slots,u.keep b ob q n hb hx⟩
theorem Un.kept (k:∀b u,h.get? b=some u->h'.get? b=some u):Un fs ex H H h h':=
 ⟨λb ob q _ _ _=>k b ob q,λb ob q _ _ _=>⟨ob.slots,k b ob q⟩,λ_ _ _ n _=>n,λb ob q _=>⟨ob,k b ob q⟩,λ_ _ q=>q,λ_ _ _ q=>q,λ_ ps q=>⟨#[],by rw[q];simp⟩⟩
theorem Un.refl:Un fs ex H H h h:=Un.kept λ_ _ q=>q
theorem Un.laid (k:∀b u,h.get? b=some u->h'.get? b=some u) (hp:h.objs.size<=a) (hn:H a=none):Un fs ex H (upd H a o) h h' where
 keep:=λb u q _ _ _=>k b u q
 slot:=λb u q _ _ _=>⟨u.slots,k b u q⟩
 free:=λb u q n _=>by rw[a_i (p_c (o_4 (Heap.lt_size q) hp))];exact n
 there:=λb u q _=>⟨u,k b u q⟩
 tups:=λb xs q=>by rw[a_i (a_h q hn)];exact q
 frzs:=λb u xs q=>by rw[a_i (a_h q hn)];exact q
 tbls:=λb ps q=>⟨#[],by rw[a_i (a_h q hn),q];simp⟩
theorem Un.write (mu:Mut (H x)) (he:e=x\/H e=some (.own x)) (k:∀b u,b≠e->h.get? b=some u->h'.get? b=some u) (heo:∃u,h'.get? e=some u):Un fs ex H (upd H x o) h h':=by
 have hx:∀b,H b=none->b≠x:=λb n z=>by subst z;rw[n] at mu;exact mu
 have hb:∀b,H b=none->b≠e:=λb n z=>by
  subst z;rcases he with r | r
  ·exact hx b n r
  ·rw[n] at r;cases r
 have hm:∀b u,H b=some u->¬ Mut (some u)->b≠x:=λb u q nm z=>by subst z;rw[q] at mu;exact nm mu
 refine⟨λb u q n _ _=>k b u (hb b n) q,λb u q n _ _=>⟨u.slots,k b u (hb b n) q⟩,λb u q n _=>by rw[a_i (hx b n)];exact n,λb u q _=> ?_,
  λb xs q=>by rw[a_i (hm b _ q λz=>z)];exact q,λb u xs q=>by rw[a_i (hm b _ q λz=>z)];exact q,λb ps q=>⟨#[],by rw[a_i (hm b _ q λz=>z),q];simp⟩⟩
 by_cases a:b=e
 ·subst a;exact heo
 ·exact⟨u,k b u a q⟩
end
def trk (h:Heap) (H:Hp):List Addr:=(List.range h.objs.size).filter λa=>(H a).isSome
def j_K (h:Heap) (H:Hp):Heap:=PySem.W.hideAll h (trk h H)
theorem h_D (h:Heap) (H:Hp):(j_K h H).objs.size=h.objs.size:=PySem.W.hideAll_size _ _
theorem j_P {h:Heap} {H:Hp} {b:Addr} {o:Obj} (e:h.get? b=some o) (n:H b=none):(j_K h H).get? b=some o:=
 PySem.W.hideAll_get _ e λhm=>by
  have q:(H b).isSome=true:=(List.mem_filter.mp hm).2;rw[n] at q;simp at q
theorem l_f {h:Heap} {H:Hp} {b:Addr} {o:Obj} (e:(j_K h H).get? b=some o):h.get? b=some o/\H b=none:=by
 have e':h.get? b=some o:=PySem.W.of_hideAll (trk h H) e;refine⟨e',?_⟩;cases q:H b with
 | none=>rfl
 | some x=>
   have hm:b∈trk h H:=List.mem_filter.mpr ⟨List.mem_range.mpr (Heap.lt_size e'),by simp[q]⟩;have z:(j_K h H).get? b=none:=PySem.W.hideAll_none (trk h H) hm;rw[z] at e;cases e
def l_e (g h:Heap) (L:Addr):List (Addr×Obj):=(List.range h.objs.size).filterMap λa=>if a=L\/(g.get? a).isSome=true then none else (h.get? a).map λo=>(a,o)
def d_F (g h:Heap) (L d:Addr):List (Addr×Obj):=(l_e g h L).filter λp=>decide (p.1≠d)
structure Mod (K:PySem.W.Frag) (mg:Str->Option Value) (base:Heap):Prop where
 kin:K.In base
 glob:base.Ns mainGlobals mg
 blt:∃mb,base.Ns builtinsNs mb/\∀x:Str,x≠"__name__"->mb x=bootBuiltins x
 nolimit:base.NoLimit
structure Cx where
 prog:Program
 w:World
 K:PySem.W.Frag
 mg:Str->Option Value
 base:Heap
 A:Around
 N:List Str
 s₀:Shared
 H₀:Hp
 env:Env
 outer:List Env
 stack:List Env
 ex:List Addr
 fn:Str->Bool
 calm:Bool
 pn:List (Addr×Obj)
 xe:Value->Shared->Prop
def frs (l:List Env):List Addr:=l.filterMap (·.frame)
abbrev Cx.fs (X:Cx):List Addr:=frs X.outer
def Vis (sc:Scope) (x:Str):Prop:=sc.names.lookup x=some .local\/sc.names.lookup x=some .cell\/sc.names.lookup x=some .free
def Loc (sc:Scope) (x:Str):Prop:=sc.names.lookup x=some .local\/sc.names.lookup x=some .cell
def o_p (env:Env) (h:Heap) (m:Str->Option Value) (x:Str) (u:Value):Prop:=
 (env.kindOf x=some .local/\m x=some u)\/((env.kindOf x=some .cell\/env.kindOf x=some .free)/\∃c,env.cells.lookup x=some c/\h.IsCell c (some u))
structure Cx.Ok (X:Cx):Prop where
 mod:Mod X.K X.mg X.base
 kind:X.env.scope.kind= .function
 glob:X.env.globals=mainGlobals
 blt:X.env.builtins=builtinsNs
 above:X.s₀.heap.objs.size<=X.env.locals
 inj:∀x y c,X.env.cells.lookup x=some c->X.env.cells.lookup y=some c->x=y
 has:∀x,(X.env.kindOf x=some .cell\/X.env.kindOf x=some .free)->∃c,X.env.cells.lookup x=some c
 cab:∀x c,X.fn x=true->X.env.cells.lookup x=some c->X.s₀.heap.objs.size<=c
 hd:X.calm=true->X.A.handled=none
 frames:X.A.frames=some X.stack
 stk:X.stack=X.outer\/(X.stack=X.env::X.outer/\X.env.frame=some X.env.locals)
 exf:∀b∈X.ex,b≠X.env.locals/\∀x c,X.env.cells.lookup x=some c->c≠b
 bs:∀b o,X.base.get? b=some o->X.s₀.heap.get? b=some o/\X.H₀ b=none
 bsz:X.base.objs.size<=X.s₀.heap.objs.size
 noex:∀b o,X.base.get? b=some o->b∉X.ex
 exfs:∀b∈X.ex,b∉X.fs
 funs:X.s₀.heap.FunFrames X.base X.outer
 frf:∀b∈X.fs,X.H₀ b=none
structure Inv (X:Cx) (pins:List (Addr×Obj)) (σ:List (Option V)) (H:Hp) (s:Shared):Prop where
 ok:X.Ok
 os:s.os=X.s₀.os
 bare:AllBare s.gens
 base:Un X.fs X.ex X.H₀ H X.s₀.heap s.heap
 loc:∃m,s.heap.Ns X.env.locals m/\∀(i:Nat) (x:Str) (v:V),X.N[i]? =some x->σ[i]? =some (some v)->Vis X.env.scope x->∃u,RelV v u/\o_p X.env s.heap m x u
 cell:∀x c,X.env.cells.lookup x=some c->∃v,s.heap.IsCell c v
 free:H X.env.locals=none
 freeC:∀x c,X.env.cells.lookup x=some c->H c=none
 pin:∀p∈X.pn++pins,s.heap.get? p.1=some p.2/\H p.1=none/\p.1≠X.env.locals/\p.1∉X.fs/\∀v,p.2.data≠ .cell v
 hok:HOk X.prog X.w H s.heap
 len:σ.length=X.N.length
section
variable {X:Cx} {pins:List (Addr×Obj)} {σ:List (Option V)} {H H':Hp} {s:Shared} {h':Heap}
theorem Cx.Ok.nofr (ok:X.Ok) {b:Addr} {o:Obj} (e:X.base.get? b=some o):b∉X.fs:=λhb=>by
 have:=(ok.funs.mem hb).1;rw[e] at this;cases this
theorem Inv.bs (I:Inv X pins σ H s):∀b o,X.base.get? b=some o->s.heap.get? b=some o/\H b=none:=λb o e=>
 ⟨I.base.keep b o (I.ok.bs b o e).1 (I.ok.bs b o e).2 (I.ok.nofr e) (I.ok.noex b o e),I.base.free b o (I.ok.bs b o e).1 (I.ok.bs b o e).2 (I.ok.noex b o e)⟩
theorem Inv.bk (I:Inv X pins σ H s):∀b o,X.base.get? b=some o->s.heap.get? b=some o:=λb o e=>(I.bs b o e).1
theorem Inv.mod (I:Inv X pins σ H s):Mod X.K X.mg X.base:=I.ok.mod
theorem Inv.kIn (I:Inv X pins σ H s):X.K.In s.heap:=I.ok.mod.kin.keeps I.bk
theorem Inv.nolimit (I:Inv X pins σ H s):s.heap.NoLimit:=I.ok.mod.nolimit.keeps I.bk
theorem Inv.lt (I:Inv X pins σ H s):X.env.locals < s.heap.objs.size:=let ⟨_,hn,_⟩:=I.loc;hn.lt
theorem Inv.sz (I:Inv X pins σ H s):X.s₀.heap.objs.size<=s.heap.objs.size:=o_9 I.ok.above (Nat.le_of_lt I.lt)
theorem Inv.nofs (I:Inv X pins σ H s) {a:Addr} (h:s.heap.objs.size<=a):a∉X.fs:=λhb=>by
 obtain⟨_,o,ho,_⟩:=I.ok.funs.mem hb;exact absurd (o_4 (Heap.lt_size ho) (o_9 I.sz h)) (Nat.lt_irrefl _)
theorem Inv.cne (I:Inv X pins σ H s):∀x c,X.env.cells.lookup x=some c->c≠X.env.locals:=λx c e z=>by
 obtain⟨v,o,ho,hd⟩:=I.cell x c e;obtain⟨m,⟨o',es,ep,ho',hd',_⟩,_⟩:=I.loc;rw[z,ho'] at ho;cases ho;rw[hd'] at hd;cases hd
theorem Inv.funs (I:Inv X pins σ H s):s.heap.FunFrames X.base X.outer:=by
 have all:∀(l:List Env),(∀b∈frs l,b∈X.fs)->X.s₀.heap.FunFrames X.base l->s.heap.FunFrames X.base l:=by
  intro l;induction l with
  | nil=>intro _ _;trivial
  | cons env r ih=>
    intro hs hl;obtain⟨hk,⟨L,o,hf,hn,ho,hd⟩,hr⟩:=hl;have hL:L∈X.fs:=hs L (by unfold frs;rw[List.filterMap_cons,hf];exact o_S);obtain⟨sl,e⟩:=I.base.slot L o ho (I.ok.frf L hL) hL λz=>I.ok.exfs L z hL;exact⟨hk,⟨L,_,hf,hn,e,hd⟩,ih (λb hb=>hs b (by unfold frs;rw[List.filterMap_cons,hf];exact o_R _ hb)) hr⟩
 exact all X.outer (λ_ hb=>hb) I.ok.funs
theorem Inv.stack (I:Inv X pins σ H s):s.heap.FunFrames X.base X.stack:=by
 rcases I.ok.stk with e | ⟨e,hf⟩
 ·rw[e];exact I.funs
 ·rw[e]
  obtain⟨m,hn,_⟩:=I.loc;refine .cons (by rw[I.ok.kind];decide) hf hn ?_ I.funs;exact Heap.get?_none_of_le (o_9 I.ok.bsz I.ok.above)
theorem Inv.stkSub (I:Inv X pins σ H s):∀b∈frs X.stack,b∈X.env.locals::X.fs:=λb hb=>by
 rcases I.ok.stk with e | ⟨e,hf⟩
 ·rw[e] at hb;exact o_R _ hb
 ·rw[e] at hb
  unfold frs at hb;rw[List.filterMap_cons,hf] at hb;exact hb
theorem Inv.stkFree (I:Inv X pins σ H s):∀b∈frs X.stack,H b=none:=λb hb=>by
 rcases o_Z.mp (I.stkSub b hb) with e | hb
 ·rw[e];exact I.free
 ·obtain⟨_,o,ho,_⟩:=I.ok.funs.mem hb
  exact I.base.free b o ho (I.ok.frf b hb) λz=>I.ok.exfs b z hb
theorem Inv.step {g':Array GenState} {t':Nat} {d':Drawn} {ch:List Addr} (I:Inv X pins σ H s)
 (hch:∀b∈ch,(b∈X.ex\/X.s₀.heap.objs.size<=b)/\b≠X.env.locals/\(∀x c,X.env.cells.lookup x=some c->c≠b)/\∀p∈X.pn++pins,p.1≠b)
 (keep:∀b o,b≠X.env.locals->b∉X.fs->b∉ch->s.heap.get? b=some o->H b=none->h'.get? b=some o)
 (slot:∀b o,b≠X.env.locals->b∈X.fs->b∉ch->s.heap.get? b=some o->H b=none->∃sl,h'.get? b=some { o with slots:=sl }) (free:∀b o,b∉ch->s.heap.get? b=some o->H b=none->H' b=none)
 (there:∀b o,b∉ch->s.heap.get? b=some o->∃o',h'.get? b=some o')
 (tups:∀b xs,H b=some (.tup xs)->H' b=some (.tup xs)) (frzs:∀b o u,H b=some (.frz o u)->H' b=some (.frz o u)) (tbls:∀b ps,H b=some (.tbl ps)->∃more,H' b=some (.tbl (ps++more)))
 (ns:∀m,s.heap.Ns X.env.locals m->h'.Ns X.env.locals m) (hok:HOk X.prog X.w H' h') (hg:AllBare g'):
 Inv X pins σ H' { s with heap:=h',gens:=g',drawn:=d',toks:=t' }:=by
 have neL:∀b o,X.s₀.heap.get? b=some o->b≠X.env.locals:=λb o e=>p_c (o_4 (Heap.lt_size e) I.ok.above)
 have neC:∀b o,X.s₀.heap.get? b=some o->b∉X.ex->b∉ch:=λb o e hx hb=>by
  rcases (hch b hb).1 with z | z
  ·exact hx z
  ·exact absurd (o_4 (Heap.lt_size e) z) (Nat.lt_irrefl _)
 have cellK:∀x c,X.env.cells.lookup x=some c->∀v,s.heap.IsCell c v->h'.IsCell c v:=λx c e v ⟨o,ho,hd⟩=>by
  have nch:c∉ch:=λz=>(hch c z).2.2.1 x c e rfl;by_cases hc:c∈X.fs
  ·obtain⟨sl,q⟩:=slot c o (I.cne x c e) hc nch ho (I.freeC x c e)
   exact⟨_,q,hd⟩
  ·exact⟨o,keep c o (I.cne x c e) hc nch ho (I.freeC x c e),hd⟩
 refine⟨I.ok,I.os,hg,⟨λb o e n hb hx=> ?_, λb o e n hb hx=> ?_, λb o e n hx=> ?_, λb o e hx=> ?_, λb xs e=>tups b xs (I.base.tups b xs e),λb o xs e=>frzs b o xs (I.base.frzs b o xs e),λb ps e=> ?_⟩,?_, λx c e=> ?_, ?_, λx c e=> ?_, λp hp=> ?_, hok,I.len⟩
 ·exact keep b o (neL b o e) hb (neC b o e hx) (I.base.keep b o e n hb hx) (I.base.free b o e n hx)
 ·obtain⟨sl,e1⟩:=I.base.slot b o e n hb hx
  obtain⟨sl',e2⟩:=slot b _ (neL b o e) hb (neC b o e hx) e1 (I.base.free b o e n hx);exact⟨sl',e2⟩
 ·obtain⟨o',e1⟩:=I.base.there b o e hx
  exact free b o' (neC b o e hx) e1 (I.base.free b o e n hx)
 ·obtain⟨o',e1⟩:=I.base.there b o e hx
  exact there b o' (neC b o e hx) e1
 ·obtain⟨m1,e1⟩:=I.base.tbls b ps e
  obtain⟨m2,e2⟩:=tbls b _ e1;exact⟨m1++m2,by rw[e2,Array.append_assoc]⟩
 ·obtain⟨m,hn,hl⟩:=I.loc
  refine⟨m,ns m hn,λi x v e1 e2 e3=> ?_⟩;obtain⟨u,r,l⟩:=hl i x v e1 e2 e3;refine⟨u,r,?_⟩;rcases l with l | ⟨k,c,e,z⟩
  ·exact .inl l
  ·exact .inr ⟨k,c,e,cellK x c e _ z⟩
 ·obtain⟨v,z⟩:=I.cell x c e
  exact⟨v,cellK x c e v z⟩
 ·obtain⟨m,⟨o,_,_,ho,_⟩,_⟩:=I.loc
  exact free _ o (λz=>(hch _ z).2.1 rfl) ho I.free
 ·obtain⟨v,o,ho,hd⟩:=I.cell x c e
  exact free c o (λz=>(hch c z).2.2.1 x c e rfl) ho (I.freeC x c e)
 ·obtain⟨e,n,ne,nf,d⟩:=I.pin p hp
  have nch:p.1∉ch:=λz=>(hch p.1 z).2.2.2 p hp rfl;exact⟨keep p.1 p.2 ne nf nch e n,free p.1 p.2 nch e n,ne,nf,d⟩
theorem Inv.un {t':Nat} (I:Inv X pins σ H s) (u:Un X.fs [] H H' s.heap h') (hok:HOk X.prog X.w H' h'):Inv X pins σ H' { s with heap:=h',toks:=t' }:=by
 obtain⟨m,⟨o,es,ep,ho,r⟩,_⟩:=id I.loc;obtain⟨sl,hL⟩:=u.any ho I.free (by simp)
 exact I.step (g':=s.gens) (d':=s.drawn) (ch:= []) (λ_ z=>nomatch z) (λb o _ hb _ e n=>u.keep b o e n hb (by simp)) (λb o _ hb _ e n=>u.slot b o e n hb (by simp)) (λb o _ e n=>u.free b o e n (by simp)) (λb o _ e=>u.there b o e (by simp)) u.tups u.frzs u.tbls (λm' hm=>by
  obtain⟨o',es',ep',a,r'⟩:=hm;rw[ho] at a;cases a;exact⟨_,es',ep',hL,r'⟩) hok I.bare
theorem Inv.call {g':Array GenState} {t':Nat} {d':Drawn} {ch:List Addr} (I:Inv X pins σ H s) (u:Un (frs X.stack) ch H H' s.heap h') (hok:HOk X.prog X.w H' h') (hg:AllBare g')
 (hch:∀b∈ch,(b∈X.ex\/X.s₀.heap.objs.size<=b)/\b≠X.env.locals/\(∀x c,X.env.cells.lookup x=some c->c≠b)/\∀p∈X.pn++pins,p.1≠b):
 Inv X pins σ H' { s with heap:=h',gens:=g',drawn:=d',toks:=t' }:=by
 obtain⟨m,⟨o,es,ep,ho,r⟩,_⟩:=id I.loc;obtain⟨sl,hL⟩:=u.any ho I.free λz=>(hch _ z).2.1 rfl
 exact I.step (ch:=ch) hch (λb o hL hb hc e n=>u.keep b o e n (λz=>(o_Z.mp (I.stkSub b z)).elim hL hb) hc) (λb o _ _ hc e n=>u.any e n hc) (λb o hc e n=>u.free b o e n hc) (λb o hc e=>u.there b o e hc) u.tups u.frzs u.tbls (λm' hm=>by
  obtain⟨o',es',ep',a,r'⟩:=hm;rw[ho] at a;cases a;exact⟨_,es',ep',hL,r'⟩) hok hg
theorem Inv.turned {t':Nat} {it:Addr} (I:Inv X pins σ H s) (k:∀b o,b≠it->s.heap.get? b=some o->h'.get? b=some o) (hn:H it=none) (hL:it≠X.env.locals)
 (h1:it∈X.ex\/X.s₀.heap.objs.size<=it) (h2:∀x c,X.env.cells.lookup x=some c->c≠it) (h3:∀p∈X.pn++pins,p.1≠it):Inv X pins σ H { s with heap:=h',toks:=t' }:=by
 have nit:∀b u,H b=some u->b≠it:=λb u e z=>by rw[z,hn] at e;cases e
 refine I.step (g':=s.gens) (d':=s.drawn) (ch:= [it]) (λb hb=> ?_) (λb o _ _ hc e _=>k b o (λz=>hc (by simp[z])) e) (λb o _ _ hc e _=>⟨o.slots,k b o (λz=>hc (by simp[z])) e⟩) (λ_ _ _ _ n=>n)
  (λb o hc e=>⟨o,k b o (λz=>hc (by simp[z])) e⟩) (λ_ _ e=>e) (λ_ _ _ e=>e) (λb ps e=>⟨#[],by rw[e];simp⟩) (λm hm=> ?_) (λb u e=> ?_) I.bare
 ·have e:b=it:=by simpa using hb
  subst e;exact⟨h1,hL,h2,h3⟩
 ·obtain⟨o,es,ep,ho,r⟩:=hm
  exact⟨o,es,ep,k _ o (Ne.symm hL) ho,r⟩
 ·refine (I.hok b u e).stay (λc v hc q=>k c v ?_ q) (λ_ q=>q) λ_ _ q=>q
  rcases hc with z | z
  ·rw[z];exact nit b u e
  ·exact nit c _ z
theorem Inv.tok (I:Inv X pins σ H s) (t:Nat):Inv X pins σ H { s with toks:=t }:=I.un (h':=s.heap) (t':=t) Un.refl I.hok
theorem Inv.kept {t':Nat} (I:Inv X pins σ H s) (k:∀b u,s.heap.get? b=some u->h'.get? b=some u):Inv X pins σ H { s with heap:=h',toks:=t' }:=I.un (Un.kept k) (I.hok.kept k)
theorem Inv.laid {a:Addr} {o:HO} {t':Nat} (I:Inv X pins σ H s) (k:∀b u,s.heap.get? b=some u->h'.get? b=some u) (hp:s.heap.objs.size<=a) (new:ObjOk X.prog X.w (upd H a o) h' a o):
 Inv X pins σ (upd H a o) { s with heap:=h',toks:=t' }:=I.un (Un.laid k hp (I.hok.fresh hp)) (I.hok.laid k hp new)
theorem Inv.write {x e:Addr} {o:HO} {t':Nat} (I:Inv X pins σ H s) (mu:Mut (H x)) (he:e=x\/H e=some (.own x)) (k:∀b u,b≠e->s.heap.get? b=some u->h'.get? b=some u) (heo:∃u,h'.get? e=some u)
 (new:ObjOk X.prog X.w (upd H x o) h' x o):Inv X pins σ (upd H x o) { s with heap:=h',toks:=t' }:=I.un (Un.write mu he k heo) (I.hok.write mu he k heo new)
theorem Inv.pins_of {pins':List (Addr×Obj)} (I:Inv X pins σ H s) (h:∀p∈pins',s.heap.get? p.1=some p.2/\H p.1=none/\p.1≠X.env.locals/\p.1∉X.fs/\∀v,p.2.data≠ .cell v):Inv X pins' σ H s:=
 ⟨I.ok,I.os,I.bare,I.base,I.loc,I.cell,I.free,I.freeC,λp hp=>(o_6.mp hp).elim (λz=>I.pin p (p_n _ z)) (h p),I.hok,I.len⟩
theorem d_8 {N:List Str} (hN:N.Nodup) {i j:Nat} {x:Str} (a:N[i]? =some x) (b:N[j]? =some x):i=j:=by
 obtain⟨h1,e1⟩:=o_2.mp a;obtain⟨h2,e2⟩:=o_2.mp b;exact (List.getElem_inj hN).mp (e1.trans e2.symm)
theorem e_L {M:Model} {A:Around} {E:Value->Shared->Prop} {i:Nat} {x:Str} {v:V} {u:Value} {Q:Unit->Shared->Prop} (I:Inv X pins σ H s) (hN:X.N.Nodup) (hi:X.N[i]? =some x) (hx:Loc X.env.scope x) (r:RelV v u)
 (h:∀s',Inv X pins (σ.set i (some v)) H s'->(∃a,Heap.SameBut a s.heap s'.heap/\(a=X.env.locals\/X.env.cells.lookup x=some a))->Q () s') (hf:X.fn x=true\/X.env.scope.names.lookup x=some .local:=by first | exact .inl rfl | exact .inr rfl | assumption):wpAny M A (storeName X.env x u) Q E s:=by
 obtain⟨m,hn,hl⟩:=id I.loc;have F:(X.env.scope.kind == .class||(X.env.scope.kind == .module&&X.env.locals != X.env.globals))=false:=by rw[I.ok.kind];rfl
 have hiσ:i < σ.length:=by rw[I.len];exact (o_2.mp hi).1
 have cne:=I.cne
 have tracked:∀{a:Addr} {h':Heap},(∃o,s.heap.get? a=some o/\H a=none)->Heap.SameBut a s.heap h'->HOk X.prog X.w H h':=λ{a h'} ha hs b ob e=>by
  obtain⟨_,_,f⟩:=ha;refine (I.hok b ob e).stay (λc w' hc q=>(hs.2 c ?_).trans q) (λ_ q=>q) λ_ _ q=>q;rintro rfl;rcases hc with rfl | hc
  ·rw[f] at e;cases e
  ·rw[f] at hc;cases hc
 rcases hx with hk | hk
 ·refine wpAny_storeName_local hk hn (λh' G hs=> ?_) F
  obtain⟨oL,_,_,J,_⟩:=id hn;refine h _ ⟨I.ok,I.os,I.bare,⟨λb o e n hb hx=> ?_, λb o e n hb hx=> ?_, I.base.free,λb o e hx=> ?_, I.base.tups,I.base.frzs,I.base.tbls⟩,⟨_,G,λj y v' e1 e2 e3=> ?_⟩,λy c e=> ?_, I.free,I.freeC,λp hp=> ?_, tracked ⟨oL,J,I.free⟩ hs,by simpa using I.len⟩ ⟨_,hs,.inl rfl⟩
  ·exact (hs.2 b (p_c (o_4 (Heap.lt_size e) I.ok.above))).trans (I.base.keep b o e n hb hx)
  ·obtain⟨sl,e1⟩:=I.base.slot b o e n hb hx
   exact⟨sl,(hs.2 b (p_c (o_4 (Heap.lt_size e) I.ok.above))).trans e1⟩
  ·obtain⟨o',e1⟩:=I.base.there b o e hx
   exact⟨o',(hs.2 b (p_c (o_4 (Heap.lt_size e) I.ok.above))).trans e1⟩
  ·by_cases hj:j=i
   ·subst hj
    rw[hi] at e1;cases e1;rw[List.getElem?_set_self hiσ] at e2;cases e2;exact⟨u,r,.inl ⟨hk,by simp⟩⟩
   ·rw[List.getElem?_set_ne (Ne.symm hj)] at e2
    obtain⟨u',r',q⟩:=hl j y v' e1 e2 e3;refine⟨u',r',?_⟩;rcases q with⟨k,e⟩ | ⟨k,c,e,z⟩
    ·refine .inl ⟨k,?_⟩
     have:y≠x:=λe=>hj (d_8 hN e1 (e ▸ hi));simp[this,e]
    ·exact .inr ⟨k,c,e,z.sameBut hs (cne y c e)⟩
  ·obtain⟨w',z⟩:=I.cell y c e
   exact⟨w',z.sameBut hs (cne y c e)⟩
  ·obtain⟨e,n,ne,nf,d⟩:=I.pin p hp
   exact⟨(hs.2 p.1 ne).trans e,n,ne,nf,d⟩
 ·have g:X.fn x=true:=by
   rcases hf with z | z
   ·exact z
   ·rw[z] at hk;cases hk
  obtain⟨c,hc⟩:=I.ok.has x (.inl hk);obtain⟨w',z⟩:=I.cell x c hc;refine wpAny_storeName_cell I.ok.kind hk hc z (λh' l hs=> ?_);obtain⟨oc,B,C⟩:=id z;refine h { s with heap:=h' } ⟨I.ok,I.os,I.bare,⟨λb o e n hb hx=> ?_, λb o e n hb hx=> ?_, I.base.free,λb o e hx=> ?_, I.base.tups,I.base.frzs,I.base.tbls⟩,⟨m,hn.sameBut hs (Ne.symm (cne x c hc)),λj y v' e1 e2 e3=> ?_⟩,λy c' e=> ?_, I.free,I.freeC,λp hp=> ?_, tracked ⟨oc,B,I.freeC x c hc⟩ hs,by simpa using I.len⟩ ⟨c,hs,.inr hc⟩
  ·exact (hs.2 b (p_c (o_4 (Heap.lt_size e) (I.ok.cab x c g hc)))).trans (I.base.keep b o e n hb hx)
  ·obtain⟨sl,e1⟩:=I.base.slot b o e n hb hx
   exact⟨sl,(hs.2 b (p_c (o_4 (Heap.lt_size e) (I.ok.cab x c g hc)))).trans e1⟩
  ·obtain⟨o',e1⟩:=I.base.there b o e hx
   exact⟨o',(hs.2 b (p_c (o_4 (Heap.lt_size e) (I.ok.cab x c g hc)))).trans e1⟩
  ·by_cases hj:j=i
   ·subst hj
    rw[hi] at e1;cases e1;rw[List.getElem?_set_self hiσ] at e2;cases e2;exact⟨u,r,.inr ⟨.inl hk,c,hc,l⟩⟩
   ·rw[List.getElem?_set_ne (Ne.symm hj)] at e2
    obtain⟨u',r',q⟩:=hl j y v' e1 e2 e3;refine⟨u',r',?_⟩;rcases q with q | ⟨k,c',e,z'⟩
    ·exact .inl q
    ·refine .inr ⟨k,c',e,z'.sameBut hs ?_⟩
     rintro rfl;exact hj (d_8 hN e1 (I.ok.inj _ _ _ e hc ▸ hi))
  ·by_cases t:c'=c
   ·subst t;exact⟨_,l⟩
   ·obtain⟨w2,z2⟩:=I.cell y c' e
    exact⟨w2,z2.sameBut hs t⟩
  ·obtain⟨e,n,ne,nf,d⟩:=I.pin p hp
   refine⟨(hs.2 p.1 ?_).trans e,n,ne,nf,d⟩;intro q;rw[q,B] at e;have q':oc=p.2:=o_V e;exact d w' (by rw[<-q'];exact C)
theorem c_S {M:Model} {A:Around} {E:Value->Shared->Prop} {i:Nat} {x:Str} {v:V} {u:Value} {Q:Unit->Shared->Prop} (I:Inv X pins σ H s) (hN:X.N.Nodup) (hi:X.N[i]? =some x) (hx:Loc X.env.scope x) (r:RelV v u)
 (h:∀s',Inv X pins (σ.set i (some v)) H s'->Q () s') (hf:X.fn x=true\/X.env.scope.names.lookup x=some .local:=by first | exact .inl rfl | exact .inr rfl | assumption):wpAny M A (storeName X.env x u) Q E s:=
 e_L I hN hi hx r (λs' I' _=>h s' I') hf
theorem Inv.call' {s':Shared} {ch:List Addr} (I:Inv X pins σ H s) (ho:s'.os=s.os) (u:Un (frs X.stack) ch H H' s.heap s'.heap) (hok:HOk X.prog X.w H' s'.heap) (hg:AllBare s'.gens)
 (hch:∀b∈ch,(b∈X.ex\/X.s₀.heap.objs.size<=b)/\b≠X.env.locals/\(∀x c,X.env.cells.lookup x=some c->c≠b)/\∀p∈X.pn++pins,p.1≠b):Inv X pins σ H' s':=by
 obtain⟨h',g',d',t',o'⟩:=s';have e:o'=s.os:=ho;subst e;exact I.call (g':=g') (t':=t') (d':=d') u hok hg hch
end
abbrev XK:=Value->Option Addr->Hp->Prop
abbrev St:=List (Option V)
abbrev VK:=V->Hp->Prop
abbrev TE:=St->Hp->VK->Prop
abbrev TT:=St->Hp->(Bool->Hp->Prop)->Prop
abbrev TA:=St->Hp->(List V->Hp->Prop)->Prop
structure e_y where
 nx:St->Hp->Prop
 rt:VK
 bk:St->Hp->Prop:=λ_ _=>False
 ct:St->Hp->Prop:=λ_ _=>False
abbrev TS:=e_y->St->Hp->Prop
def EP (X:Cx) (pins:List (Addr×Obj)) (σ:St) (Q:VK) (u:Value) (s':Shared):Prop:=∃v H',Inv X pins σ H' s'/\RelV v u/\Q v H'
def TP (X:Cx) (pins:List (Addr×Obj)) (σ:St) (Q:Bool->Hp->Prop) (b:Bool) (s':Shared):Prop:=∃H',Inv X pins σ H' s'/\Q b H'
def AP (X:Cx) (pins:List (Addr×Obj)) (σ:St) (Q:List V->Hp->Prop) (us:List Value) (s':Shared):Prop:=∃vs H',Inv X pins σ H' s'/\Vals vs us/\Q vs H'
def SP (X:Cx) (pins:List (Addr×Obj)) (D:e_y) (f:Flow) (s':Shared):Prop:=
 match f with
 | .next=>∃σ' H',Inv X pins σ' H' s'/\D.nx σ' H'
 | .brk=>∃σ' H',Inv X pins σ' H' s'/\D.bk σ' H'
 | .cont=>∃σ' H',Inv X pins σ' H' s'/\D.ct σ' H'
 | .ret u=>∃v σ' H',Inv X pins σ' H' s'/\RelV v u/\D.rt v H'
def PE (X:Cx) (e:Expr) (t:TE):Prop:=
 ∀(pins:List (Addr×Obj)) (s:Shared) (σ:St) (H:Hp) (Q:VK),Inv X pins σ H s->t σ H Q->wpAny (model X.prog X.w) X.A (eval e X.env) (EP X pins σ Q) X.xe s
def PT (X:Cx) (e:Expr) (t:TT):Prop:=
 ∀(pins:List (Addr×Obj)) (s:Shared) (σ:St) (H:Hp) (Q:Bool->Hp->Prop),Inv X pins σ H s->t σ H Q->wpAny (model X.prog X.w) X.A (isTrue e X.env (eval e X.env)) (TP X pins σ Q) X.xe s
def PW (X:Cx) (e:Expr) (t:TT):Prop:=
 ∀(whole:Sem Value) (pins:List (Addr×Obj)) (s:Shared) (σ:St) (H:Hp) (Q:Bool->Hp->Prop),Inv X pins σ H s->t σ H Q->wpAny (model X.prog X.w) X.A (isTrue e X.env whole) (TP X pins σ Q) X.xe s
theorem PW.pt {X:Cx} {e:Expr} {t:TT} (h:PW X e t):PT X e t:=h _
def PA (X:Cx) (es:List Expr) (t:TA):Prop:=
 ∀(pos:Pos) (pins:List (Addr×Obj)) (s:Shared) (σ:St) (H:Hp) (Q:List V->Hp->Prop),Inv X pins σ H s->t σ H Q->wpAny (model X.prog X.w) X.A (spliced (backTo pos (starEach es X.env))) (AP X pins σ Q) X.xe s
def PS (X:Cx) (st:Stmt) (t:TS):Prop:=
 ∀(pins:List (Addr×Obj)) (s:Shared) (σ:St) (H:Hp) (D:e_y),Inv X pins σ H s->t D σ H->wpAny (model X.prog X.w) X.A (exec st X.env) (SP X pins D) X.xe s
def PSs (X:Cx) (st:List Stmt) (t:TS):Prop:=
 ∀(pins:List (Addr×Obj)) (s:Shared) (σ:St) (H:Hp) (D:e_y),Inv X pins σ H s->t D σ H->wpAny (model X.prog X.w) X.A (execs st X.env) (SP X pins D) X.xe s
theorem thn {α:Type} {t:Sem α} {Q Q':α->Shared->Prop} {M:Model} {A:Around} {E:Value->Shared->Prop} {s:Shared} (h:wpAny M A t Q E s) (hQ:∀a s,Q a s->Q' a s):wpAny M A t Q' E s:=wpAny_mono h hQ λ_ _ x=>x
section
variable {X:Cx}
theorem bin {a b:Expr} {ta tb:TE} (ha:PE X a ta) (hb:PE X b tb) {pins:List (Addr×Obj)} {s:Shared} {σ:St} {H:Hp} {R:V->V->Hp->Prop} (I:Inv X pins σ H s) (h:ta σ H λx H1=>tb σ H1 λy H2=>R x y H2)
 {α:Type} {Q:α->Shared->Prop} {f:Value->Value->Sem α}
 (hf:∀v u s2 x y H2,Inv X pins σ H2 s2->RelV x v->RelV y u->R x y H2->wpAny (model X.prog X.w) X.A (f v u) Q X.xe s2):
 wpAny (model X.prog X.w) X.A (eval a X.env) (λv s₁=>wpAny (model X.prog X.w) X.A (eval b X.env) (λu s₂=>wpAny (model X.prog X.w) X.A (f v u) Q X.xe s₂) X.xe s₁) X.xe s:=by
 refine thn (ha pins s σ H _ I h) λv s1 ⟨x,H1,I1,r1,q1⟩=> ?_;refine thn (hb pins s1 σ H1 _ I1 q1) λu s2 ⟨y,H2,I2,r2,q2⟩=> ?_;exact hf v u s2 x y H2 I2 r1 r2 q2
def o_e (i:Nat):TE:=λσ H Q=>∃v,σ[i]? =some (some v)/\Q v H
def tC (v:V):TE:=λ_ H Q=>Q v H
theorem m_f {i:Nat} {x:Str} {pos:Pos} (hN:X.N[i]? =some x) (hv:Vis X.env.scope x) (hd:(x == ("__debug__":Str))=false:=by decide) (hcd:(x == ("__classdict__":Str))=false:=by decide):PE X (.Name x pos) (o_e i):=by
 intro pins s σ H Q I h;obtain⟨v,e,h⟩:=h;obtain⟨m,hn,hl⟩:=I.loc;obtain⟨u,r,l⟩:=hl i x v hN e hv;have fin:EP X pins σ Q u s:=⟨v,H,I,r,h⟩;rcases l with⟨hk,hm⟩ | ⟨hk,c,hc,a⟩
 ·exact wpAny_Name (wpAny_loadName_local I.ok.kind hk hn hm fin) hd
 ·rcases hk with hk | hk
  ·exact wpAny_Name (wpAny_loadName_cell I.ok.kind hk hc a fin) hd
  ·exact wpAny_Name (wpAny_loadName_free I.ok.kind hk hc a fin hcd) hd
theorem a_e {i j pos}:PE X (.Constant (.int i) j pos) (tC (.int i)):=λ_ _ _ H _ I h=>wpAny_Constant_int ⟨.int i,H,I.tok _,⟨_,rfl⟩,h⟩
theorem b_6 {b j pos}:PE X (.Constant (.bool b) j pos) (tC (.bl b)):=λ_ _ _ H _ I h=>Constant_bool ⟨.bl b,H,I,rfl,h⟩
theorem k_o {j pos}:PE X (.Constant .none j pos) (tC .non):=λ_ _ _ H _ I h=>Constant_none ⟨.non,H,I,rfl,h⟩
theorem a_j {x j pos}:PE X (.Constant (.str x) j pos) (tC (.str x)):=λ_ _ _ H _ I h=>Calls.Constant_str ⟨.str x,H,I.tok _,⟨_,rfl⟩,h⟩
def Gl (X:Cx) (x:Str):Prop:=X.env.kindOf x=some .globalImplicit
theorem b_I {E:Value->Shared->Prop} {pins:List (Addr×Obj)} {s:Shared} {σ:St} {H:Hp} {x:Str} {u:Value} {pos:Pos} {Q:Value->Shared->Prop} (I:Inv X pins σ H s) (hg:Gl X x) (hm:X.mg x=some u) (h:Q u s)
 (hd:(x == ("__debug__":Str))=false:=by decide):wpAny (model X.prog X.w) X.A (eval (.Name x pos) X.env) Q E s:=
 Calls.Name_function_global I.ok.kind hg (Calls.loadGlobal_global (by rw[I.ok.glob];exact I.mod.glob.keeps I.bk) hm h) hd
theorem e_z {E:Value->Shared->Prop} {pins:List (Addr×Obj)} {s:Shared} {σ:St} {H:Hp} {x:Str} {u:Value} {pos:Pos} {Q:Value->Shared->Prop} (I:Inv X pins σ H s) (hg:Gl X x) (hm:X.mg x=none) (hv:bootBuiltins x=some u) (h:Q u s)
 (hn:x≠"__name__":=by decide) (hd:(x == ("__debug__":Str))=false:=by decide):wpAny (model X.prog X.w) X.A (eval (.Name x pos) X.env) Q E s:=by
 obtain⟨mb,h1,h2⟩:=I.mod.blt;exact Calls.Name_function_global I.ok.kind hg (Calls.loadGlobal_builtin (by rw[I.ok.glob];exact I.mod.glob.keeps I.bk) hm (by rw[I.ok.blt];exact h1.keeps I.bk) ((h2 x hn).trans hv) h) hd
theorem f_P {x:Str} {v:V} {u:Value} {pos:Pos} (hg:Gl X x) (hm:X.mg x=some u) (r:RelV v u) (hd:(x == ("__debug__":Str))=false:=by decide):PE X (.Name x pos) (tC v):=
 λ_ _ _ H _ I h=>b_I I hg hm ⟨v,H,I,r,h⟩ hd
theorem k_W {x:Str} {v:V} {u:Value} {pos:Pos} (hg:Gl X x) (hm:X.mg x=none) (hv:bootBuiltins x=some u) (r:RelV v u) (hn:x≠"__name__":=by decide) (hd:(x == ("__debug__":Str))=false:=by decide):PE X (.Name x pos) (tC v):=
 λ_ _ _ H _ I h=>e_z I hg hm hv ⟨v,H,I,r,h⟩ hn hd
variable {a b:Expr} {ta tb:TE} {pos:Pos}
def PC (X:Cx) (op:CmpOp) (a b:Expr) (t:TE):Prop:=
 ∀(pins:List (Addr×Obj)) (s:Shared) (σ:St) (H:Hp) (Q:VK),Inv X pins σ H s->t σ H Q->
  wpAny (model X.prog X.w) X.A (eval a X.env) (λv s₁=>wpAny (model X.prog X.w) X.A (eval b X.env) (λu s₂=>wpAny (model X.prog X.w) X.A (compareOp op v u) (EP X pins σ Q) X.xe s₂) X.xe s₁) X.xe s
theorem i_3 (b:Expr) {op:CmpOp} (h:op≠ .In) (h2:op≠ .NotIn):behindInMarks op b=false:=by
 have e1:(op == CmpOp.In)=false:=by cases op <;> first | rfl | exact absurd rfl h
 have e2:(op == CmpOp.NotIn)=false:=by cases op <;> first | rfl | exact absurd rfl h2
 cases b <;> simp[behindInMarks,e1,e2]
def n_F (ta:TE):TE:=λσ H Q=>ta σ H λx H1=>Q (.bl (!decide (x= .non))) H1
theorem RelV.none_iff {x:V} {v:Value} (r:RelV x v):(v == Value.none)=decide (x= .non):=by
 cases x with
 | non=>cases r;rfl
 | bl _=>cases r;rfl
 | int _=>obtain⟨t,rfl⟩:=r;rfl
 | str _=>obtain⟨t,rfl⟩:=r;rfl
 | byt _=>obtain⟨t,rfl⟩:=r;rfl
 | flt _=>obtain⟨t,rfl⟩:=r;rfl
 | ref _=>cases r;rfl
 | ty _=>cases r;rfl
theorem h_w {j pos'} (ha:PE X a ta):PC X .IsNot a (.Constant .none j pos') (n_F ta):=by
 intro pins s σ H Q I h;refine thn (ha pins s σ H _ I h) λv s1 ⟨x,H1,I1,r1,q1⟩=> ?_;exact Constant_none (isnot_none_gen ⟨.bl _,H1,I1,by rw[r1.none_iff];rfl,q1⟩)
def tB (t:TE):TT:=λσ H Q=>t σ H λx H1=>∃c,x= .bl c/\Q c H1
theorem d_C {op:CmpOp} {t:TE} (h:PC X op a b t) (h1:behindInMarks op b=false:=by first | exact i_3 _ (by decide) (by decide) | rfl):PT X (.Compare a [op] [b] pos) (tB t):=by
 intro pins s σ H Q I hw;refine wpAny_isTrue_Compare1 (thn (h pins s σ H _ I hw) λv s1 h1=>thn h1 λu s2 h2=>thn h2 λc s3 ⟨x,H1,I1,r1,q1⟩=> ?_) h1;obtain⟨d,rfl,q⟩:=q1;cases r1;exact wpAny_truthy_bool ⟨H1,I1,q⟩
theorem c_a {e:Expr} {t:TE} (h:PE X e t) (he:∀whole,isTrue e X.env whole=(do let v<-whole;standAt e.pos;holding [v] (truthy v)):=by intro _;rfl):PT X e (tB t):=by
 intro pins s σ H Q I hw;refine isTrue_plain (thn (h pins s σ H _ I hw) λv s1 ⟨x,H1,I1,r1,q1⟩=> ?_) (he _);obtain⟨d,rfl,q⟩:=q1;cases r1;exact wpAny_truthy_bool ⟨H1,I1,q⟩
variable {tA tB':TT} {d_F:List Expr}
def o_K (t u:TT):TT:=λσ H Q=>t σ H λc H1=>if c=true then u σ H1 Q else Q false H1
def tOr (t u:TT):TT:=λσ H Q=>t σ H λc H1=>if c=true then Q true H1 else u σ H1 Q
def o_x (t:TT):TT:=λσ H Q=>t σ H λc H1=>Q (!c) H1
theorem c_B (ha:PT X a tA):PW X (.BoolOp .And [a] pos) tA:=by
 intro wh pins s σ H Q I h;refine isTrue_and (thn (ha pins s σ H Q I h) λc s1 e=> ?_);cases c with
 | true=>exact isTrue_and_nil e
 | false=>exact e
theorem b_9 (ha:PT X a tA):PW X (.BoolOp .Or [a] pos) tA:=by
 intro wh pins s σ H Q I h;refine isTrue_or (thn (ha pins s σ H Q I h) λc s1 e=> ?_);cases c with
 | false=>exact isTrue_or_nil e
 | true=>exact e
theorem d_Z (ha:PT X a tA) (hb:PW X (.BoolOp .And (b::d_F) pos) tB'):PW X (.BoolOp .And (a::b::d_F) pos) (o_K tA tB'):=by
 intro wh pins s σ H Q I h;refine isTrue_and (thn (ha pins s σ H _ I h) λc s1 ⟨H1,I1,q1⟩=> ?_);cases c with
 | true=>exact hb wh pins s1 σ H1 Q I1 q1
 | false=>exact⟨H1,I1,q1⟩
theorem d_I (ha:PT X a tA) (hb:PW X (.BoolOp .Or (b::d_F) pos) tB'):PW X (.BoolOp .Or (a::b::d_F) pos) (tOr tA tB'):=by
 intro wh pins s σ H Q I h;refine isTrue_or (thn (ha pins s σ H _ I h) λc s1 ⟨H1,I1,q1⟩=> ?_);cases c with
 | true=>exact⟨H1,I1,q1⟩
 | false=>exact hb wh pins s1 σ H1 Q I1 q1
theorem c_L (ha:PT X a tA):PT X (.UnaryOp .Not a pos) (o_x tA):=by
 intro pins s σ H Q I h;exact isTrue_not (ha pins s σ H (λc H1=>Q (!c) H1) I h)
def n_c (ta tb:TE):TE:=λσ H Q=>ta σ H λx H1=>∃c,x= .bl c/\if c=true then tb σ H1 Q else Q (.bl false) H1
def n_N (ta:TE):TE:=λσ H Q=>ta σ H λx H1=>∃c,x= .bl c/\Q (.bl (!c)) H1
theorem h_3 {op} {t:TE} (h:PE X a t):PE X (.BoolOp op [a] pos) t:=λpins s σ H Q I hw=>BoolOp_one (h pins s σ H Q I hw)
theorem h_U (ha:PE X a ta) (hb:PE X (.BoolOp .And (b::d_F) pos) tb):PE X (.BoolOp .And (a::b::d_F) pos) (n_c ta tb):=by
 intro pins s σ H Q I h;refine BoolOp_and (thn (ha pins s σ H _ I h) λv s1 ⟨x,H1,I1,r1,q1⟩=> ?_);obtain⟨c,rfl,q1⟩:=q1;cases r1;refine wpAny_truthy_bool ?_;cases c with
 | true=>exact hb pins s1 σ H1 Q I1 q1
 | false=>exact⟨.bl false,H1,I1,rfl,q1⟩
theorem m_X (ha:PE X a ta):PE X (.UnaryOp .Not a pos) (n_N ta):=by
 intro pins s σ H Q I h;refine UnaryOp_ (thn (ha pins s σ H _ I h) λv s1 ⟨x,H1,I1,r1,q1⟩=> ?_);obtain⟨c,rfl,q1⟩:=q1;cases r1;exact not_of (wpAny_truthy_bool ⟨.bl (!c),H1,I1,rfl,q1⟩)
end
def SqL (K:PySem.W.Frag) (H:Hp) (a:Addr) (xs:List V):Prop:=
 Rd H a (.lst xs)\/
  ∃(o:Obj) (its:Array Value) (n:Nat),K.lookup a=some o/\o.cls= .type "list"/\o.dict=none/\o.data= .seq its n/\its.size<=sizeLine/\Vals xs its.toList
def SqT (K:PySem.W.Frag) (H:Hp) (a:Addr) (xs:List V):Prop:=
 Rd H a (.tup xs)\/
  ∃(o:Obj) (its:Array Value) (n:Nat),K.lookup a=some o/\o.cls= .type "tuple"/\o.data= .seq its n/\its.size<=sizeLine/\Vals xs its.toList
def o_k:Value->Option V
 | .none=>some .non
 | .bool b=>some (.bl b)
 | .int i _=>some (.int i)
 | .str x _=>some (.str x)
 | .bytes b _=>some (.byt b)
 | .float b _=>some (.flt b)
 | .ref a=>some (.ref a)
 | .type n=>some (.ty n)
 | _=>none
theorem RelV.abs {x:V} {u:Value} (r:RelV x u):o_k u=some x:=by
 cases x with
 | non=>cases r;rfl
 | bl _=>cases r;rfl
 | int _=>obtain⟨t,rfl⟩:=r;rfl
 | str _=>obtain⟨t,rfl⟩:=r;rfl
 | byt _=>obtain⟨t,rfl⟩:=r;rfl
 | flt _=>obtain⟨t,rfl⟩:=r;rfl
 | ref _=>cases r;rfl
 | ty _=>cases r;rfl
theorem RelV.inj {x y:V} {u:Value} (r:RelV x u) (q:RelV y u):x=y:=o_V (r.abs.symm.trans q.abs)
theorem Vals.inj:∀{xs ys:List V} {us:List Value},Vals xs us->Vals ys us->xs=ys
 | _,_,_,.nil,.nil=>rfl
 | _,_,_,.cons r t,.cons r' t'=>by rw[r.inj r',Vals.inj t t']
section
variable {X:Cx} {pins:List (Addr×Obj)} {σ:St} {H:Hp} {s:Shared} {a:Addr} {xs ys:List V}
theorem SqL.of {K:PySem.W.Frag} (h:H a=some (.lst xs)):SqL K H a xs:= .inl (.inl h)
theorem SqT.of {K:PySem.W.Frag} (h:H a=some (.tup xs)):SqT K H a xs:= .inl (.inl h)
theorem Inv.list (I:Inv X pins σ H s) (h:SqL X.K H a xs):∃its:List Value,Vals xs its/\PlainL s.heap a its.toArray/\xs.length<=sizeLine:=by
 rcases h with h | ⟨o,its,n,hk,hc,hd,hs,hz,r⟩
 ·obtain⟨z,its,n,r,e⟩:=h.ok I.hok
  exact⟨its,r,⟨_,n,e,rfl,rfl,rfl⟩,z⟩
 ·refine⟨its.toList,r,⟨o,n,I.kIn a o hk,hc,hd,by simpa using hs⟩,?_⟩
  have e:=r.length;simp only[Array.length_toList] at e;omega
theorem Inv.tuple (I:Inv X pins σ H s) (h:SqT X.K H a xs):∃its:List Value,Vals xs its/\IsTup s.heap a its.toArray/\xs.length<=sizeLine:=by
 rcases h with h | ⟨o,its,n,hk,hc,hs,hz,r⟩
 ·obtain⟨z,its,r,p⟩:=h.ok I.hok
  exact⟨its,r,p,z⟩
 ·refine⟨its.toList,r,⟨o,I.kIn a o hk,hc,n,by simpa using hs⟩,?_⟩
  have e:=r.length;simp only[Array.length_toList] at e;omega
theorem Inv.list_inj (I:Inv X pins σ H s) (h:SqL X.K H a xs) (h':SqL X.K H a ys):xs=ys:=by
 obtain⟨its,r,⟨o,n,e,_,_,d⟩,_⟩:=I.list h;obtain⟨its',r',⟨o',n',e',_,_,d'⟩,_⟩:=I.list h';rw[e] at e';cases e';rw[d] at d';injection d' with d1 _
 have:its=its':=by simpa using congrArg Array.toList d1
 subst this;exact r.inj r'
end
abbrev Cx.wish (X:Cx) (E:Value->Shared->Prop):Cx:={ X with xe:=E }
abbrev Cx.nox (X:Cx):Cx:=X.wish λ_ _=>False
theorem Cx.Ok.wish {X:Cx} (ok:X.Ok) (E:Value->Shared->Prop):(X.wish E).Ok:=
 ⟨ok.mod,ok.kind,ok.glob,ok.blt,ok.above,ok.inj,ok.has,ok.cab,ok.hd,ok.frames,ok.stk,ok.exf,ok.bs,ok.bsz,ok.noex,ok.exfs,ok.funs,ok.frf⟩
theorem Cx.Ok.unwish {X:Cx} {E:Value->Shared->Prop} (ok:(X.wish E).Ok):X.Ok:=
 ⟨ok.mod,ok.kind,ok.glob,ok.blt,ok.above,ok.inj,ok.has,ok.cab,ok.hd,ok.frames,ok.stk,ok.exf,ok.bs,ok.bsz,ok.noex,ok.exfs,ok.funs,ok.frf⟩
section
variable {X:Cx} {pins:List (Addr×Obj)} {σ:St} {H:Hp} {s:Shared} {E:Value->Shared->Prop}
theorem Inv.wish (I:Inv X pins σ H s) (E:Value->Shared->Prop):Inv (X.wish E) pins σ H s:=⟨I.ok.wish E,I.os,I.bare,I.base,I.loc,I.cell,I.free,I.freeC,I.pin,I.hok,I.len⟩
theorem Inv.unwish (I:Inv (X.wish E) pins σ H s):Inv X pins σ H s:=⟨I.ok.unwish,I.os,I.bare,I.base,I.loc,I.cell,I.free,I.freeC,I.pin,I.hok,I.len⟩
theorem SP.unwish {D:e_y} {f:Flow} {s':Shared} (h:SP (X.wish E) pins D f s'):SP X pins D f s':=by
 cases f with
 | next=>obtain⟨σ',H',I,q⟩:=h;exact⟨σ',H',I.unwish,q⟩
 | brk=>obtain⟨σ',H',I,q⟩:=h;exact⟨σ',H',I.unwish,q⟩
 | cont=>obtain⟨σ',H',I,q⟩:=h;exact⟨σ',H',I.unwish,q⟩
 | ret u=>obtain⟨v,σ',H',I,r,q⟩:=h;exact⟨v,σ',H',I.unwish,r,q⟩
theorem PSs.nox {st:List Stmt} {t:TS} (h:PSs X.nox st t):PSs X st t:=λpins s σ H D I hw=>
 wpAny_mono (h pins s σ H D (I.wish _) hw) (λ_ _ q=>q.unwish) λ_ _ z=>False.elim z
end
section
variable {X:Cx} {st:Stmt} {d_F:List Stmt} {t u:TS} {e:Expr} {te:TE} {pos:Pos}
def n_h:TS:=λD σ H=>D.nx σ H
def n_z (t u:TS):TS:=λD σ H=>t { D with nx:=u D } σ H
theorem a_p:PSs X [] n_h:=λ_ _ σ H _ I h=>wpAny_execs_nil ⟨σ,H,I,h⟩
theorem a_d (h1:PS X st t) (h2:PSs X d_F u):PSs X (st::d_F) (n_z t u):=by
 intro pins s σ H D I h;refine wpAny_execs_cons (thn (h1 pins s σ H { D with nx:=u D } I h) λf s1 q=> ?_);cases f with
 | next=>
   obtain⟨σ',H',I',q⟩:=q;exact h2 pins s1 σ' H' D I' q
 | ret v=>exact q
 | brk=>exact q
 | cont=>exact q
theorem a_f (h1:PS X st t):PSs X [st] t:=by
 intro pins s σ H D I h;refine wpAny_execs_cons (thn (h1 pins s σ H D I h) λf s1 q=> ?_);cases f with
 | next=>exact wpAny_execs_nil q
 | ret v=>exact q
 | brk=>exact q
 | cont=>exact q
theorem Inv.quiet {pins:List (Addr×Obj)} {σ:St} {H:Hp} {s:Shared} (I:Inv X pins σ H s):interactive X.env=false:=by simp[interactive,I.ok.kind]
def n_W (te:TE):TS:=λD σ H=>te σ H λ_ H1=>D.nx σ H1
theorem a_y (he:PE X e te) (hs:swapsWith e none pos.line X.env=pure false:=by rfl):PS X (.Expr e pos) (n_W te):=by
 intro pins s σ H D I h;exact wpAny_Expr_any (thn (he pins s σ H _ I h) λv s1 ⟨x,H1,I1,r1,q1⟩=>⟨σ,H1,I1,q1⟩) I.quiet hs
def o_s (te:TE):TS:=λD σ H=>te σ H D.rt
theorem a_n (he:PE X e te):PS X (.Return (some e) pos) (o_s te):=by
 intro pins s σ H D I h;exact wpAny_Return_some (thn (he pins s σ H _ I h) λv s1 ⟨x,H1,I1,r1,q1⟩=>⟨x,σ,H1,I1,r1,q1⟩)
def m_8:TS:=λD _ H=>D.rt .non H
theorem h_v:PS X (.Return none pos) m_8:=λ_ _ σ H _ I h=>wpAny_Return_none ⟨.non,σ,H,I,rfl,h⟩
def o_l (c:TT) (t u:TS):TS:=λD σ H=>c σ H λb H1=>if b=true then t D σ H1 else u D σ H1
theorem a_B {c:Expr} {a b:List Stmt} {tc:TT} (hc:PT X c tc) (ha:PSs X a t) (hb:PSs X b u):PS X (.If c a b pos) (o_l tc t u):=by
 intro pins s σ H D I h;refine wpAny_If (thn (hc pins s σ H _ I h) λd s1 ⟨H1,I1,q1⟩=> ?_);cases d with
 | true=>exact ha pins s1 σ H1 D I1 q1
 | false=>exact hb pins s1 σ H1 D I1 q1
def l_W:TS:=λ_ _ _=>False
theorem j_v:PS X st l_W:=λ_ _ _ _ _ _ h=>h.elim
end
abbrev TG:=V->St->Hp->(St->Hp->Prop)->Prop
def PG (X:Cx) (target:Expr) (t:TG):Prop:=
 ∀(pins:List (Addr×Obj)) (s:Shared) (σ:St) (H:Hp) (v:V) (u:Value) (Q:St->Hp->Prop),Inv X pins σ H s->RelV v u->t v σ H Q->
  wpAny (model X.prog X.w) X.A (assign target X.env u) (λ_ s'=>∃σ' H',Inv X pins σ' H' s'/\Q σ' H') X.xe s
abbrev n_n:=V->V->V->Hp->(Hp->Prop)->Prop
def n_7 (X:Cx) (t:n_n):Prop:=
 ∀(pins:List (Addr×Obj)) (s:Shared) (σ:St) (H:Hp) (o i v:V) (ov iv u:Value) (Q:Hp->Prop),Inv X pins σ H s->RelV o ov->RelV i iv->RelV v u->t o i v H Q->
  wpAny (model X.prog X.w) X.A (setItem ov iv u) (λ_ s'=>∃H',Inv X pins σ H' s'/\Q H') X.xe s
section
variable {X:Cx} {pos:Pos}
def j_D (i:Nat):TG:=λv σ H Q=>Q (σ.set i (some v)) H
theorem b_y {i:Nat} {x:Str} (hN:X.N.Nodup) (hi:X.N[i]? =some x) (hx:Loc X.env.scope x) (hf:X.fn x=true\/X.env.scope.names.lookup x=some .local:=by first | exact .inl rfl | exact .inr rfl | assumption):PG X (.Name x pos) (j_D i):=by
 intro pins s σ H v u Q I r h;exact wpAny_assign_Name (c_S I hN hi hx r (λs' I'=>⟨_,H,I',h⟩) hf)
def o_D (to ti:TE) (t:n_n):TG:=λv σ H Q=>to σ H λo H1=>ti σ H1 λi H2=>t o i v H2 λH3=>Q σ H3
theorem j_7 {o i:Expr} {to ti:TE} {t:n_n} (ho:PE X o to) (hi:PE X i ti) (hs:n_7 X t)
 (ha:∀v,assign (.Subscript o i pos) X.env v=(do
   let ov<-holding [v] (eval o X.env);let iv<-holding [v,ov] (eval i X.env)
   standAt pos
   holding [v,ov,iv] (setItem ov iv v)
   release [v,ov,iv] []):=by intro _;rfl):PG X (.Subscript o i pos) (o_D to ti t):=by
 intro pins s σ H v u Q I r h;rw[ha];refine wpAny_bind (wpAny_holding (thn (ho pins s σ H _ I h) λov s1 ⟨x,H1,I1,r1,q1⟩=> ?_));refine wpAny_bind (wpAny_holding (thn (hi pins s1 σ H1 _ I1 q1) λiv s2 ⟨y,H2,I2,r2,q2⟩=> ?_));refine wpAny_bind (wpAny_standAt (wpAny_bind (wpAny_holding (thn (hs pins s2 σ H2 x y v ov iv u _ I2 r1 r2 r q2) λ_ s3 ⟨H3,I3,q3⟩=> ?_))));exact wpAny_release ⟨σ,H3,I3,q3⟩
def m_2 (te:TE) (g:TG):TS:=λD σ H=>te σ H λx H1=>g x σ H1 D.nx
theorem k_s {tg e:Expr} {te:TE} {g:TG} (he:PE X e te) (hg:PG X tg g) (hs:swapsWithSole [tg] e pos.line X.env=pure false:=by rfl) (hw:swappedStores [tg] e X.env=pure none:=by rfl)
 (h1:(assignEach [tg] X.env).map (·.2)= [assign tg X.env]:=by rfl):PS X (.Assign [tg] e pos) (m_2 te g):=by
 intro pins s σ H D I h;refine wpAny_Assign_stores (thn (he pins s σ H _ I h) λv s1 ⟨x,H1,I1,r1,q1⟩=> ?_) hs hw;rw[h1];exact thn (hg pins s1 σ H1 x v _ I1 r1 q1) λ_ s2 q=>q
theorem a_w {i:Nat} {x:Str} {e:Expr} {te:TE} {pos':Pos} (hN:X.N.Nodup) (hi:X.N[i]? =some x) (hx:Loc X.env.scope x) (he:PE X e te) (hs:swapsWith e (some (.Name x pos')) pos.line X.env=pure false:=by rfl) (hf:X.fn x=true\/X.env.scope.names.lookup x=some .local:=by first | exact .inl rfl | exact .inr rfl | assumption):
 PS X (.Assign [.Name x pos'] e pos) (m_2 te (j_D i)):=by
 intro pins s σ H D I h;refine wpAny_Assign_Name (thn (he pins s σ H _ I h) λv s1 ⟨y,H1,I1,r1,q1⟩=> ?_) hs;exact c_S I1 hN hi hx r1 (λs2 I2=>⟨_,H1,I2,q1⟩) hf
end
section
variable {X:Cx} {pos:Pos}
def m_B (c:TT) (tb:TS):TS:=λD σ H=>∃W:Nat->St->Hp->Prop,(∃m,W m σ H)/\∀m σ H,W m σ H->
 c σ H λb H1=>if b=true then ∃N:St->Hp->Prop,(∀σ' H',N σ' H'->∃m',m' < m/\W m' σ' H')/\tb { D with nx:=N,ct:=N,bk:=D.nx } σ H1 else D.nx σ H1
theorem c_R {c:Expr} {body:List Stmt} {tc:TT} {tb:TS} (hp:PassesOwn (model X.prog X.w) X.A X.env X.xe) (hc:PT X c tc) (hb:PSs X body tb):PS X (.While c body [] pos) (m_B tc tb):=by
 intro pins s σ H D I h;obtain⟨W,⟨m0,w0⟩,turn⟩:=h;refine wpAny_While (codeAny_whileLoop (λn s'=>∃σ' H',Inv X pins σ' H' s'/\W n σ' H') ?_ m0 ⟨σ,H,I,w0⟩);rintro n s1 ⟨σ1,H1,I1,w1⟩;refine wpAny_passesOwn hp (thn (hc pins s1 σ1 H1 _ I1 (turn n σ1 H1 w1)) λb s2 ⟨H2,I2,q2⟩=> ?_);cases b with
 | true=>
   obtain⟨N,hN,q2⟩:=q2;rw[if_pos rfl];refine wpAny_passesOwn hp (thn (hb pins s2 σ1 H2 _ I2 q2) λf s3 q3=> ?_);cases f with
   | next=>
     obtain⟨σ3,H3,I3,n3⟩:=q3;obtain⟨m',hm,w3⟩:=hN σ3 H3 n3;exact⟨m',hm,σ3,H3,I3,w3⟩
   | cont=>
     obtain⟨σ3,H3,I3,n3⟩:=q3;obtain⟨m',hm,w3⟩:=hN σ3 H3 n3;exact⟨m',hm,σ3,H3,I3,w3⟩
   | brk=>exact q3
   | ret v=>exact q3
 | false=>
   rw[if_neg o_5];exact wpAny_execs_nil ⟨σ1,H2,I2,q2⟩
end
structure It where
 go:Nat->Hp->Prop
 yld:Nat->Hp->V->Hp->Prop
 stop:Nat->Hp->Prop
def h_f (X:Cx) (pins:List (Addr×Obj)) (H:Hp) (b:Addr):Prop:=
 H b=none/\b≠X.env.locals/\b∉X.fs/\(b∈X.ex\/X.s₀.heap.objs.size<=b)/\(∀x c,X.env.cells.lookup x=some c->c≠b)/\∀p∈X.pn++pins,p.1≠b
theorem Inv.fpOk {X:Cx} {pins:List (Addr×Obj)} {σ:St} {H H':Hp} {s:Shared} {b:Addr} (I:Inv X pins σ H s) (hb:s.heap.objs.size<=b) (hn:H' b=none):h_f X pins H' b:=by
 refine⟨hn,Nat.ne_of_gt (o_4 I.lt hb),I.nofs hb,.inr (o_9 I.sz hb),λx c e z=> ?_, λp hp z=> ?_⟩
 ·obtain⟨v,q⟩:=I.cell x c e
  exact absurd (o_4 q.lt (by rw[z];exact hb)) (Nat.lt_irrefl _)
 ·exact absurd (o_4 (Heap.lt_size (I.pin p hp).1) (by rw[z];exact hb)) (Nat.lt_irrefl _)
structure m_5 (P:Program) (w:World) (K:PySem.W.Frag) (tg:Expr) (J:It) (fp:List Addr) (it:Addr) (tn:Nat->Heap->Prop):Prop where
 mem:it∈fp
 obj:∀i h,tn i h->∀b∈fp,∃o,h.get? b=some o/\∀v,o.data≠ .cell v
 keep:∀i h h',tn i h->(∀b∈fp,∀o,h.get? b=some o->h'.get? b=some o)->tn i h'
 item:∀(X:Cx),X.prog=P->X.w=w->X.K=K->X.calm=true->∀(i:Nat) (pins:List (Addr×Obj)) (s:Shared) (σ:St) (H:Hp) (E:Value->Shared->Prop),Inv X pins σ H s->(∀b∈fp,h_f X pins H b)->tn i s.heap->J.go i H->
  wpAny (model P w) X.A (pyNext (.ref it)) (λr s1=>∃u,r=some u/\
   wpAny (model P w) X.A (letOwnedTupleGo tg (.ref it) u) (λ_ s2=>∃x H',Inv X pins σ H' s2/\RelV x u/\J.yld i H x H'/\tn (i+1) s2.heap/\∀b∈fp,H' b=none) E s1) E s
 done:∀(X:Cx),X.prog=P->X.w=w->X.K=K->X.calm=true->∀(i:Nat) (pins:List (Addr×Obj)) (s:Shared) (σ:St) (H:Hp) (E:Value->Shared->Prop),Inv X pins σ H s->(∀b∈fp,h_f X pins H b)->tn i s.heap->J.stop i H->
  wpAny (model P w) X.A (pyNext (.ref it)) (λr s1=>r=none/\Inv X pins σ H s1) E s
 self:∀(A:Around) (i:Nat) (s:Shared) (Q:Value->Shared->Prop) (E:Value->Shared->Prop),tn i s.heap->Q (.ref it) s->wpAny (model P w) A (pyIter (.ref it)) Q E s
abbrev TI:=St->Hp->(It->Hp->Prop)->Prop
def PIE (X:Cx) (pins:List (Addr×Obj)) (σ:St) (tg:Expr) (R:It->Hp->Prop) (itv:Value) (s2:Shared):Prop:=
 ∃(it:Addr) (fp:List Addr) (tn:Nat->Heap->Prop) (J:It) (H':Hp),itv= .ref it/\Inv X pins σ H' s2/\m_5 X.prog X.w X.K tg J fp it tn/\tn 0 s2.heap/\(∀b∈fp,h_f X pins H' b)/\R J H'
def PI (X:Cx) (tg iter:Expr) (wi:TI):Prop:=
 ∀(pins:List (Addr×Obj)) (s:Shared) (σ:St) (H:Hp) (R:It->Hp->Prop),Inv X pins σ H s->wi σ H R->
  wpAny (model X.prog X.w) X.A (eval iter X.env) (λv s1=>wpAny (model X.prog X.w) X.A (pyIter v) (PIE X pins σ tg R) X.xe s1) X.xe s
theorem m_o {M:Model} {A:Around} {E:Value->Shared->Prop} {s:Shared} {tg:Expr} {it:Addr} {u:Value} {o:Obj} {n:String} {vs:Array Value} {Q:Unit->Shared->Prop} (ho:s.heap.get? it=some o) (hc:o.cls= .type n) (hd:o.data= .fields vs)
 (hn: ["enumerate","zip","dict_itemiterator","dict_reverseitemiterator","odict_iterator","itertools.zip_longest","itertools.pairwise"].contains n=false) (hQ:Q () s):wpAny M A (letOwnedTupleGo tg (.ref it) u) Q E s:=by
 unfold letOwnedTupleGo
 cases tg <;> first
  | exact wpAny_pure hQ
  | (cases u <;> first
      | exact wpAny_pure hQ
      | (refine wpAny_bind (wpAny_load ho ?_)
         rw[hc,hd];show wpAny M A (if (["enumerate","zip","dict_itemiterator","dict_reverseitemiterator","odict_iterator","itertools.zip_longest","itertools.pairwise"].contains n&&vs[0]? == some (rawInt _))=true then _ else _) Q E s;rw[if_neg (by intro h;rw[hn,Bool.false_and] at h;cases h)];exact wpAny_pure hQ))
def Itl (K:PySem.W.Frag) (a:Addr):It:=
 ⟨λi H=>∃xs x,SqL K H a xs/\xs[i]? =some x,λi H x H'=>H'=H/\∀xs,SqL K H a xs->xs[i]? =some x,λi H=>∃xs,SqL K H a xs/\xs.length<=i⟩
def Itr (lo:Int) (n:Nat):It:=⟨λi _=>i < n,λi H x H'=>H'=H/\x= .int (lo+i),λi _=>n<=i⟩
theorem i_q {P:Program} {w:World} {K:PySem.W.Frag} {tg:Expr} (a it:Addr):m_5 P w K tg (Itl K a) [it] it (λi h=>h.IsListIter it a i) where
 mem:=by simp
 obj:=λi h st b hb=>by
  have e:b=it:=by simpa using hb
  subst e;obtain⟨o,e,c,d⟩:=st;exact⟨o,e,λv z=>by rw[d] at z;cases z⟩
 keep:=λi h h' st k=>st.at λo e=>k it (by simp) o e
 item:=by
  intro X hP hw hK hc i pins s σ H E I hf st hg;subst hP hw hK;obtain⟨xs,x,hq,hx⟩:=hg;obtain⟨its,rv,p,hz⟩:=I.list hq;obtain⟨u,hu,ru⟩:=rv.get hx;obtain⟨f0,f1,f2,f3,f4,f5⟩:=hf it (by simp);refine wpAny_pyNext_list_item st p.isList (x:=u) (by simpa using hu) λh' st' sb=> ?_;have I1:Inv X pins σ H { s with heap:=h' }:=I.turned (t':=s.toks) (λb o hb e=>(sb.2 b hb).trans e) f0 f1 f3 f4 f5;obtain⟨o,e,c,d⟩:=id st';exact⟨u,rfl,m_o (s:={ s with heap:=h' }) e c d (by decide) ⟨x,H,I1,ru,⟨rfl,λys hy=>by rw[I.list_inj hy hq];exact hx⟩,st',λb hb=>(hf b hb).1⟩⟩
 done:=by
  intro X hP hw hK hc i pins s σ H E I hf st hg;subst hP hw hK;obtain⟨xs,hq,hx⟩:=hg;obtain⟨its,rv,p,hz⟩:=I.list hq;obtain⟨f0,f1,f2,f3,f4,f5⟩:=hf it (by simp);have hl:=rv.length;exact wpAny_pyNext_list_end (I.ok.hd hc) st p.isList (by simp;omega) λh' eb=>⟨rfl,I.turned (t':=s.toks) (λb o hb e=>eb b o hb e) f0 f1 f3 f4 f5⟩
 self:=λ_ _ _ _ _ st h=>wpAny_pyIter_listiter st h
theorem g_M {P:Program} {w:World} {K:PySem.W.Frag} {tg:Expr} (it:Addr) (lo:Int) (n:Nat):m_5 P w K tg (Itr lo n) [it] it (λi h=>IsRangeIter h it (lo+(i:Nat) * 1) ((n:Int) - (i:Nat)) 1) where
 mem:=by simp
 obj:=λi h st b hb=>by
  have e:b=it:=by simpa using hb
  subst e
  exact⟨_,st,λv z=>by
   have z':Data.fields _=Data.cell v:=z;cases z'⟩
 keep:=λi h h' st k=>k it (by simp) _ st
 item:=by
  intro X hP hw hK hc i pins s σ H E I hf st hg;subst hP hw hK;obtain⟨f0,f1,f2,f3,f4,f5⟩:=hf it (by simp);have W:=Walks.range (prog:=X.prog) (w:=X.w) (I.ok.hd hc) it lo 1 n;refine W.item i s _ _ hg st λv h' tk hv st' kk=> ?_;obtain⟨t,rfl⟩:=hv;have I1:Inv X pins σ H { s with heap:=h',toks:=tk }:=I.turned (λb o hb e=>kk b o (by simpa using hb) e) f0 f1 f3 f4 f5;refine⟨_,rfl,m_o (s:={ s with heap:=h',toks:=tk }) (n:="range_iterator") st' rfl rfl (by decide) ⟨.int (lo+i),H,I1,⟨t,?_⟩,⟨rfl,rfl⟩,st',λb hb=>(hf b hb).1⟩⟩;rw[Int.mul_one]
 done:=by
  intro X hP hw hK hc i pins s σ H E I hf st hg;subst hP hw hK;obtain⟨f0,f1,f2,f3,f4,f5⟩:=hf it (by simp);exact wpAny_pyNext_range_end (I.ok.hd hc) st (by have:n<=i:=hg;omega) λh' eb=>⟨rfl,I.turned (t':=s.toks) (λb o hb e=>eb b o hb e) f0 f1 f3 f4 f5⟩
 self:=λ_ _ _ _ _ st h=>wpAny_pyIter_rangeiter st h
section
variable {X:Cx} {tg:Expr}
def n_j (K:PySem.W.Frag) (tl:TE):TI:=λσ H R=>tl σ H λx H1=>∃a,x= .ref a/\(∃xs,SqL K H1 a xs)/\R (Itl K a) H1
theorem c_C {l:Expr} {tl:TE} (hl:PE X l tl):PI X tg l (n_j X.K tl):=by
 intro pins s σ H R I h;refine thn (hl pins s σ H _ I h) λv s1 ⟨x,H1,I1,r1,q1⟩=> ?_;obtain⟨a,e,⟨xs,hq⟩,q⟩:=q1;subst e;cases r1;obtain⟨its,rv,p,hz⟩:=I1.list hq;refine wpAny_pyIter_list p.isList ?_;refine⟨s1.heap.objs.size, [s1.heap.objs.size],_,_,H1,rfl,I1.kept (t':=s1.toks) λb o e=>Heap.get?_push_of_some _ e,i_q a _,⟨_,Heap.get?_push_size _ rfl,rfl,rfl⟩,λb hb=> ?_, q⟩;have e:b=s1.heap.objs.size:=by simpa using hb
 subst e;exact I1.fpOk (o_X _) (I1.hok.fresh (o_X _))
theorem g_o {pins:List (Addr×Obj)} {σ:St} {H:Hp} {s:Shared} {R:It->Hp->Prop} {E:Value->Shared->Prop} {lo hi:Int} {t u v:Tok} {tk:Nat} (I:Inv X pins σ H s) (h1: -(2 ^ 62)<=lo) (h2:lo < 2 ^ 62) (h3: -(2 ^ 62)<=hi) (h4:hi < 2 ^ 62)
 (q:R (Itr lo (hi - lo).toNat) H):wpAny (model X.prog X.w) X.A (pyIter (.ref s.heap.objs.size)) (PIE X pins σ tg R) E { s with heap:=s.heap.push { cls:= .type "range",data:= .fields #[.int lo t,.int hi u,.int 1 v] },toks:=tk }:=by
 refine wpAny_pyIter_range (IsRange.new ..) (small_one h1 h2 h3 h4) ?_;have I1:Inv X pins σ H { s with heap:=s.heap.push { cls:= .type "range",data:= .fields #[.int lo t,.int hi u,.int 1 v] },toks:=tk }:=I.kept λb o e=>Heap.get?_push_of_some _ e
 refine⟨(s.heap.push { cls:= .type "range",data:= .fields #[.int lo t,.int hi u,.int 1 v] }).objs.size, [(s.heap.push { cls:= .type "range",data:= .fields #[.int lo t,.int hi u,.int 1 v] }).objs.size],_,_,H,rfl,
  I1.kept (t':=tk) λb o e=>Heap.get?_push_of_some _ e,g_M _ lo (hi - lo).toNat,?_, λb hb=> ?_, q⟩
 ·have e1:lo+((0:Nat):Int) * 1=lo:=by simp
  have e2:(((hi - lo).toNat:Nat):Int) - ((0:Nat):Int)=Builtin.Range.rangeSize lo hi 1:=by rw[rangeSize_one];split <;> omega
  show IsRangeIter _ _ (lo+((0:Nat):Int) * 1) ((((hi - lo).toNat:Nat):Int) - ((0:Nat):Int)) 1;rw[e1,e2];exact Heap.get?_push_size _ rfl
 ·have e:b=(s.heap.push { cls:= .type "range",data:= .fields #[.int lo t,.int hi u,.int 1 v] }).objs.size:=by simpa using hb
  subst e;exact I1.fpOk (o_X _) (I1.hok.fresh (o_X _))
def n_l (ta:TA):TI:=λσ H R=>ta σ H λvs H1=>∃j:Int,vs= [.int j]/\-(2 ^ 62)<=j/\j < 2 ^ 62/\R (Itr 0 j.toNat) H1
def m_6 (ta:TA):TI:=λσ H R=>ta σ H λvs H1=>∃i j:Int,vs= [.int i,.int j]/\(-(2 ^ 62)<=i/\i < 2 ^ 62/\-(2 ^ 62)<=j/\j < 2 ^ 62)/\R (Itr i (j - i).toNat) H1
theorem c_s {a:Expr} {ta:TA} {p pos:Pos} (hg:Gl X "range") (hm:X.mg "range"=none) (ha:PA X [a] ta) (hs:starEach [a] X.env= [(false,eval a X.env)]:=by rfl):PI X tg (.Call (.Name "range" p) [a] [] pos) (n_l ta):=by
 intro pins s σ H R I h;refine Call_ (e_z I hg hm boot_range (PyProof.Rows.callWith_type1 (thn (ha pos pins s σ H _ I h) λus s1 ⟨vs,H1,I1,r1,q1⟩=> ?_) hs rfl));obtain⟨j,e,q1,q2,q⟩:=q1;subst e;cases r1 with
 | cons r rr=>
   cases rr;obtain⟨t,rfl⟩:=r;exact call_range_1 (g_o I1 (by omega) (by omega) q1 q2 (by simpa using q))
theorem h_0 {a b:Expr} {ta:TA} {p pos:Pos} (hg:Gl X "range") (hm:X.mg "range"=none) (ha:PA X [a,b] ta) (hs:starEach [a,b] X.env= [(false,eval a X.env),(false,eval b X.env)]:=by rfl) (hs2:starEach [b] X.env= [(false,eval b X.env)]:=by rfl):
 PI X tg (.Call (.Name "range" p) [a,b] [] pos) (m_6 ta):=by
 intro pins s σ H R I h;refine Call_ (e_z I hg hm boot_range (PyProof.Rows.callWith_type1 (thn (ha pos pins s σ H _ I h) λus s1 ⟨vs,H1,I1,r1,q1⟩=> ?_) (by rw[hs,hs2]) (by rw[hs2];rfl)));obtain⟨i,j,e,⟨q1,q2,q3,q4⟩,q⟩:=q1;subst e;cases r1 with
 | cons r rr=>
   cases rr with
   | cons r' rr=>
     cases rr;obtain⟨t,rfl⟩:=r;obtain⟨t',rfl⟩:=r';exact call_range_2 (g_o I1 q1 q2 q3 q4 q)
def o_I (wi:TI) (g:TG) (tb:TS):TS:=λD σ H=>wi σ H λJ H1=>∃W:Nat->Nat->St->Hp->Prop,(∃m,W 0 m σ H1)/\∀i m σ H,W i m σ H->
 (J.stop i H/\D.nx σ H)\/(J.go i H/\∃N:St->Hp->Prop,(∀σ' H',N σ' H'->∃m',m' < m/\W (i+1) m' σ' H')/\∀x H',J.yld i H x H'->g x σ H' λσ2 H2=>tb { D with nx:=N,ct:=N,bk:=D.nx } σ2 H2)
def e_G (fp:List Addr) (h:Heap):List (Addr×Obj):=fp.filterMap λb=>(h.get? b).map λo=>(b,o)
theorem b_1 {fp:List Addr} {h:Heap} {b:Addr} {o:Obj} (hb:b∈fp) (e:h.get? b=some o):(b,o)∈e_G fp h:=List.mem_filterMap.mpr ⟨b,hb,by rw[e];rfl⟩
theorem i_c {fp:List Addr} {h:Heap} {p:Addr×Obj} (hp:p∈e_G fp h):p.1∈fp/\h.get? p.1=some p.2:=by
 obtain⟨b,hb,e⟩:=List.mem_filterMap.mp hp;cases q:h.get? b with
 | none=>rw[q] at e;cases e
 | some o=>
   rw[q] at e;have e':(b,o)=p:=o_V e;subst e';exact⟨hb,q⟩
theorem Inv.pinned {pins:List (Addr×Obj)} {σ:St} {H:Hp} {s:Shared} {fp:List Addr} (I:Inv X pins σ H s) (hf:∀b∈fp,h_f X pins H b) (ho:∀b∈fp,∃o,s.heap.get? b=some o/\∀v,o.data≠ .cell v):Inv X (pins++e_G fp s.heap) σ H s:=
 I.pins_of λp hp=>(o_6.mp hp).elim (λz=>I.pin p (o_1 _ z)) λz=>by
  obtain⟨hb,e⟩:=i_c z;obtain⟨f0,f1,f2,_⟩:=hf p.1 hb;obtain⟨o,e',d⟩:=ho p.1 hb;rw[e] at e';cases e';exact⟨e,f0,f1,f2,d⟩
theorem Inv.unpinned {pins pl:List (Addr×Obj)} {σ:St} {H:Hp} {s:Shared} (I:Inv X (pins++pl) σ H s):Inv X pins σ H s:=I.pins_of λp hp=>I.pin p (o_1 _ (p_n _ hp))
theorem c_J {iter:Expr} {body:List Stmt} {wi:TI} {g:TG} {tb:TS} {pos:Pos} (hp:PassesOwn (model X.prog X.w) X.A X.env X.xe) (hc:X.calm=true) (hi:PI X tg iter wi) (hg:PG X tg g) (hb:PSs X body tb)
 (hs:∀x,foldedSetIterable iter X.env x=pure x:=by intro _;rfl):PS X (.For tg iter body [] pos) (o_I wi g tb):=by
 intro pins s σ H D I h;refine wpAny_For (thn (hi pins s σ H _ I h) λv s1 h1=>thn h1 λitv s2 h2=> ?_) hs;obtain⟨it,fp,tn,J,H2,e,I2,T,l,f2,W,⟨m0,w0⟩,turn⟩:=h2;subst e
 -- what stays true of the iterator's objects through the loop
 have stat:∀{H':Hp},(∀b∈fp,H' b=none)->∀b∈fp,h_f X pins H' b:=λhn b hb=>⟨hn b hb,(f2 b hb).2⟩;refine codeAny_forLoop_any (λn s'=>∃i σ' H',Inv X pins σ' H' s'/\tn i s'.heap/\(∀b∈fp,H' b=none)/\W i n σ' H') ?_ m0 ⟨0,σ,H2,I2,l,λb hb=>(f2 b hb).1,w0⟩;rintro n s3 ⟨i,σ3,H3,I3,c,j,w3⟩;rcases turn i n σ3 H3 w3 with⟨stop,qn⟩ | ⟨go,N,hN,step⟩
 ·refine wpAny_passesOwn hp (thn (T.done X rfl rfl rfl hc i pins s3 σ3 H3 X.xe I3 (stat j) c stop) λr s4 ⟨hr,I4⟩=> ?_)
  subst hr;exact wpAny_execs_nil ⟨σ3,H3,I4,qn⟩
 ·refine wpAny_passesOwn hp (thn (T.item X rfl rfl rfl hc i pins s3 σ3 H3 X.xe I3 (stat j) c go) λr s4 ⟨u,hr,h4⟩=> ?_)
  subst hr;refine wpAny_passesOwn hp (thn h4 λ_ s5 ⟨x,H5,I5,r5,y5,a,k⟩=> ?_);have p:=I5.pinned (stat k) (T.obj _ _ a);refine wpAny_passesOwn hp (thn (hg _ s5 σ3 H5 x u _ p r5 (step x H5 y5)) λ_ s6 ⟨σ6,H6,I6,q6⟩=> ?_);refine wpAny_passesOwn hp (thn (hb _ s6 σ6 H6 _ I6 q6) λf s7 q7=> ?_)
  have again:∀{σ7:St} {H7:Hp},Inv X (pins++e_G fp s5.heap) σ7 H7 s7->N σ7 H7->∃m,m < n/\∃i σ' H',Inv X pins σ' H' s7/\tn i s7.heap/\(∀b∈fp,H' b=none)/\W i m σ' H':=λ{σ7 H7} I7 n7=>by
   obtain⟨m',hm,w7⟩:=hN σ7 H7 n7;refine⟨m',hm,i+1,σ7,H7,I7.unpinned,T.keep _ _ _ a λb hb o e=>(I7.pin (b,o) (o_1 _ (o_1 _ (b_1 hb e)))).1,λb hb=> ?_, w7⟩;obtain⟨o,e,d⟩:=T.obj _ _ a b hb;exact (I7.pin (b,o) (o_1 _ (o_1 _ (b_1 hb e)))).2.1
  cases f with
  | next=>obtain⟨σ7,H7,I7,n7⟩:=q7;exact again I7 n7
  | cont=>obtain⟨σ7,H7,I7,n7⟩:=q7;exact again I7 n7
  | brk=>obtain⟨σ7,H7,I7,q7⟩:=q7;exact⟨σ7,H7,I7.unpinned,q7⟩
  | ret v=>obtain⟨x7,σ7,H7,I7,r7,q7⟩:=q7;exact⟨x7,σ7,H7,I7.unpinned,r7,q7⟩
end
theorem e_s {K:PySem.W.Frag} {a:Addr} {xs:List V} {g:TG} {tb:TS} {D:e_y} {σ:St} {H:Hp} (Pv:Nat->St->Hp->Prop) (h0:Pv 0 σ H) (hl:∀i σ H,i<=xs.length->Pv i σ H->SqL K H a xs)
 (hs:∀i x σ H,xs[i]? =some x->Pv i σ H->g x σ H λσ2 H2=>tb { D with nx:=Pv (i+1),ct:=Pv (i+1),bk:=D.nx } σ2 H2) (hd:∀σ H,Pv xs.length σ H->D.nx σ H):
 ∃W:Nat->Nat->St->Hp->Prop,(∃m,W 0 m σ H)/\∀i m σ H,W i m σ H->
  ((Itl K a).stop i H/\D.nx σ H)\/((Itl K a).go i H/\∃N:St->Hp->Prop,(∀σ' H',N σ' H'->∃m',m' < m/\W (i+1) m' σ' H')/\∀x H',(Itl K a).yld i H x H'->g x σ H' λσ2 H2=>tb { D with nx:=N,ct:=N,bk:=D.nx } σ2 H2):=by
 refine⟨λi m σ H=>m=xs.length - i/\i<=xs.length/\Pv i σ H,⟨xs.length,by simp,p_g _,h0⟩,?_⟩;rintro i m σ H ⟨rfl,hi,p⟩;have q:=hl i σ H hi p;by_cases b:i < xs.length
 ·refine .inr ⟨⟨xs,xs[i],q,by simp[b]⟩,Pv (i+1),λσ' H' p'=>⟨xs.length - (i+1),by omega,rfl,b,p'⟩,λx H' y=> ?_⟩
  obtain⟨e,y⟩:=y;subst e;exact hs i x σ _ (y xs q) p
 ·have e:i=xs.length:=by omega
  subst e;exact .inl ⟨⟨xs,q,o_X _⟩,hd σ H p⟩
theorem b_R {lo:Int} {n:Nat} {g:TG} {tb:TS} {D:e_y} {σ:St} {H:Hp} (Pv:Nat->St->Hp->Prop) (h0:Pv 0 σ H)
 (hs:∀i σ H,i < n->Pv i σ H->g (.int (lo+i)) σ H λσ2 H2=>tb { D with nx:=Pv (i+1),ct:=Pv (i+1),bk:=D.nx } σ2 H2) (hd:∀σ H,Pv n σ H->D.nx σ H):
 ∃W:Nat->Nat->St->Hp->Prop,(∃m,W 0 m σ H)/\∀i m σ H,W i m σ H->
  ((Itr lo n).stop i H/\D.nx σ H)\/((Itr lo n).go i H/\∃N:St->Hp->Prop,(∀σ' H',N σ' H'->∃m',m' < m/\W (i+1) m' σ' H')/\∀x H',(Itr lo n).yld i H x H'->g x σ H' λσ2 H2=>tb { D with nx:=N,ct:=N,bk:=D.nx } σ2 H2):=by
 refine⟨λi m σ H=>m=n - i/\i<=n/\Pv i σ H,⟨n,by simp,p_g _,h0⟩,?_⟩;rintro i m σ H ⟨rfl,hi,p⟩;by_cases a:i < n
 ·refine .inr ⟨a,Pv (i+1),λσ' H' p'=>⟨n - (i+1),by omega,rfl,a,p'⟩,λx H' y=> ?_⟩
  obtain⟨e,y⟩:=y;subst e y;exact hs i σ _ a p
 ·have e:i=n:=by omega
  subst e;exact .inl ⟨o_X _,hd σ H p⟩
abbrev R2:=V->V->Hp->VK->Prop
def OpR (X:Cx) (f:Value->Value->Sem Value) (r:R2):Prop:=
 ∀(pins:List (Addr×Obj)) (s:Shared) (σ:St) (H:Hp) (x y:V) (v u:Value) (Q:VK),Inv X pins σ H s->RelV x v->RelV y u->r x y H Q->
  wpAny (model X.prog X.w) X.A (f v u) (EP X pins σ Q) X.xe s
def UnR (X:Cx) (f:Value->Sem Value) (r:V->Hp->VK->Prop):Prop:=
 ∀(pins:List (Addr×Obj)) (s:Shared) (σ:St) (H:Hp) (x:V) (v:Value) (Q:VK),Inv X pins σ H s->RelV x v->r x H Q->
  wpAny (model X.prog X.w) X.A (f v) (EP X pins σ Q) X.xe s
def d_z (X:Cx) (f:Value) (r:List V->Hp->VK->Prop):Prop:=
 ∀(pins:List (Addr×Obj)) (s:Shared) (σ:St) (H:Hp) (xs:List V) (us:List Value) (Q:VK),Inv X pins σ H s->Vals xs us->r xs H Q->
  wpAny (model X.prog X.w) X.A (call f us) (EP X pins σ Q) X.xe s
def tOp (r:R2) (ta tb:TE):TE:=λσ H Q=>ta σ H λx H1=>tb σ H1 λy H2=>r x y H2 Q
def tUn (r:V->Hp->VK->Prop) (ta:TE):TE:=λσ H Q=>ta σ H λx H1=>r x H1 Q
def rI (C:Int->Int->Prop) (g:Int->Int->V):R2:=λx y H Q=>∃i j,x= .int i/\y= .int j/\C i j/\Q (g i j) H
def rI0 (g:Int->Int->V):R2:=λx y H Q=>∃i j,x= .int i/\y= .int j/\Q (g i j) H
def rU (g:Int->V):V->Hp->VK->Prop:=λx H Q=>∃i,x= .int i/\Q (g i) H
section
variable {X:Cx} {a b c:Expr} {ta tb tc:TE} {pos:Pos}
theorem n_Z (ha:PE X a ta) (hb:PE X b tb) {pins:List (Addr×Obj)} {s:Shared} {σ:St} {H:Hp} {R:V->V->Hp->Prop} (I:Inv X pins σ H s)
 (h:ta σ H λx H1=>tb σ H1 λy H2=>R x y H2) {Q:Value->Shared->Prop} {f:Value->Value->Sem Value}
 (hf:∀v u s2 x y H2,Inv X pins σ H2 s2->RelV x v->RelV y u->R x y H2->wpAny (model X.prog X.w) X.A (f v u) Q X.xe s2):
 wpAny (model X.prog X.w) X.A (eval a X.env) (λv s₁=>wpAny (model X.prog X.w) X.A (eval b X.env) (λu s₂=>wpAny (model X.prog X.w) X.A (f v u) Q X.xe s₂) X.xe s₁) X.xe s:=by
 refine thn (ha pins s σ H _ I h) λv s1 ⟨x,H1,I1,r1,q1⟩=> ?_;refine thn (hb pins s1 σ H1 _ I1 q1) λu s2 ⟨y,H2,I2,r2,q2⟩=> ?_;exact hf v u s2 x y H2 I2 r1 r2 q2
theorem a_q {op:Operator} {r:R2} (ho:OpR X (binaryOp op) r) (ha:PE X a ta) (hb:PE X b tb):PE X (.BinOp a op b pos) (tOp r ta tb):=by
 intro pins s σ H Q I h;exact wpAny_BinOp (n_Z ha hb I h λv u s2 x y H2 I2 rx ry q=>ho pins s2 σ H2 x y v u Q I2 rx ry q)
theorem m_K {op:UnaryOp} {r:V->Hp->VK->Prop} (ho:UnR X (unaryOp op) r) (ha:PE X a ta):PE X (.UnaryOp op a pos) (tUn r ta):=by
 intro pins s σ H Q I h;exact UnaryOp_ (thn (ha pins s σ H _ I h) λv s1 ⟨x,H1,I1,r1,q1⟩=>ho pins s1 σ H1 x v Q I1 r1 q1)
theorem opI {f:Value->Value->Sem Value} {C:Int->Int->Prop} {g:Int->Int->Int}
 (rule:∀(i j:Int) (t u:Tok) (s:Shared) (Q:Value->Shared->Prop) (E:Value->Shared->Prop),C i j->Q (.int (g i j) s.toks) { s with toks:=s.toks+1 }->wpAny (model X.prog X.w) X.A (f (.int i t) (.int j u)) Q E s):
 OpR X f (rI C λi j=> .int (g i j)):=by
 intro pins s σ H x y v u Q I rx ry h;obtain⟨i,j,rfl,rfl,hc,q⟩:=h;obtain⟨t,rfl⟩:=rx;obtain⟨t',rfl⟩:=ry;exact rule i j t t' s _ _ hc ⟨.int (g i j),H,I.tok _,⟨_,rfl⟩,q⟩
theorem o_c {f:Value->Value->Sem Value} {g:Int->Int->Int}
 (rule:∀(i j:Int) (t u:Tok) (s:Shared) (Q:Value->Shared->Prop) (E:Value->Shared->Prop),Q (.int (g i j) s.toks) { s with toks:=s.toks+1 }->wpAny (model X.prog X.w) X.A (f (.int i t) (.int j u)) Q E s):
 OpR X f (rI0 λi j=> .int (g i j)):=by
 intro pins s σ H x y v u Q I rx ry h;obtain⟨i,j,rfl,rfl,q⟩:=h;obtain⟨t,rfl⟩:=rx;obtain⟨t',rfl⟩:=ry;exact rule i j t t' s _ _ ⟨.int (g i j),H,I.tok _,⟨_,rfl⟩,q⟩
theorem n_U {f:Value->Value->Sem Value} {g:Int->Int->Bool}
 (rule:∀(i j:Int) (t u:Tok) (s:Shared) (Q:Value->Shared->Prop) (E:Value->Shared->Prop),Q (.bool (g i j)) s->wpAny (model X.prog X.w) X.A (f (.int i t) (.int j u)) Q E s):
 OpR X f (rI0 λi j=> .bl (g i j)):=by
 intro pins s σ H x y v u Q I rx ry h;obtain⟨i,j,rfl,rfl,q⟩:=h;obtain⟨t,rfl⟩:=rx;obtain⟨t',rfl⟩:=ry;exact rule i j t t' s _ _ ⟨.bl (g i j),H,I,rfl,q⟩
def o_n (i j:Int):Prop:=0 < j/\j < 1073741824
def o_u (i j:Int):Prop:=0<=j/\j<=1000000/\i.natAbs < 2 ^ 64
def CMul (i j:Int):Prop:=(-(2 ^ 64) < i/\i < 2 ^ 64)\/(-(2 ^ 64) < j/\j < 2 ^ 64)
theorem CMul.ok {i j:Int} (h:CMul i j):IntMulOk i j:=by
 rcases h with⟨h1,h2⟩ | ⟨h1,h2⟩
 ·exact .of_left (intBits_le_64 h1 h2)
 ·exact .of_right (intBits_le_64 h1 h2)
theorem a_J:OpR X (binaryOp .Add) (rI0 λi j=> .int (i+j)):=o_c λ_ _ _ _ _ _ _ q=>add_int q
theorem b_N:OpR X (binaryOp .Sub) (rI0 λi j=> .int (i - j)):=o_c λ_ _ _ _ _ _ _ q=>sub_int q
theorem b_o:OpR X (binaryOp .Mult) (rI CMul λi j=> .int (i * j)):=opI λ_ _ _ _ _ _ _ hc q=>mul_int q hc.ok
theorem a_U:OpR X (binaryOp .FloorDiv) (rI o_n λi j=> .int (i / j)):=opI λi j _ _ _ _ _ hc q=>by
 have h1:(0:Int) < j:=hc.1;have h2:j < 1073741824:=hc.2;exact floordiv_int (by omega) (by rw[Int.fdiv_eq_ediv_of_nonneg i (by omega)];exact q) (.inl (PyProof.noPylong_small (by omega)))
theorem a_I:OpR X (binaryOp .Mod) (rI (λ_ j=>0 < j) λi j=> .int (i % j)):=opI λi j _ _ _ _ _ hc q=>by
 have h1:(0:Int) < j:=hc;exact mod_int' (by omega) (by rw[Int.fmod_eq_emod_of_nonneg i (by omega)];exact q)
theorem g_a:OpR X (binaryOp .Pow) (rI o_u λi j=> .int (i ^ j.toNat)):=opI λ_ _ _ _ _ _ _ hc q=>pow_int_small hc.1 hc.2.1 hc.2.2 q
theorem unI {f:Value->Sem Value} {g:Int->Int}
 (rule:∀(i:Int) (t:Tok) (s:Shared) (Q:Value->Shared->Prop) (E:Value->Shared->Prop),Q (.int (g i) s.toks) { s with toks:=s.toks+1 }->wpAny (model X.prog X.w) X.A (f (.int i t)) Q E s):
 UnR X f (rU λi=> .int (g i)):=by
 intro pins s σ H x v Q I rx h;obtain⟨i,rfl,q⟩:=h;obtain⟨t,rfl⟩:=rx;exact rule i t s _ _ ⟨.int (g i),H,I.tok _,⟨_,rfl⟩,q⟩
theorem j_4:UnR X (unaryOp .USub) (rU λi=> .int (-i)):=unI λ_ _ _ _ _ q=>neg_int q
end
def n_4:V->V->Bool
 | .non,.non=>true | .non,.int _=>true | .int _,.non=>true | .non,.bl _=>true | .bl _,.non=>true | .non,.str _=>true | .str _,.non=>true
 | .int _,.int _=>true | .bl _,.bl _=>true | .str _,.str _=>true | .byt _,.byt _=>true
 | .int _,.str _=>true | .str _,.int _=>true | .bl _,.str _=>true | .str _,.bl _=>true
 | _,_=>false
def rEq:R2:=λx y H Q=>n_4 x y=true/\Q (.bl (decide (x=y))) H
def rNe:R2:=λx y H Q=>n_4 x y=true/\Q (.bl (!decide (x=y))) H
theorem f_v {i j:Int}:decide (V.int i=V.int j)=(i == j):=by
 rw[Bool.eq_iff_iff];simp
theorem k_g {i j:Bool}:decide (V.bl i=V.bl j)=(i == j):=by
 rw[Bool.eq_iff_iff];simp
theorem f_L {i j:Str}:decide (V.str i=V.str j)=(i == j):=by
 rw[Bool.eq_iff_iff];simp
theorem i_u {i j:Array UInt8}:decide (V.byt i=V.byt j)=(i.toList == j.toList):=by
 rw[Bool.eq_iff_iff];cases i;cases j;simp
section
variable {X:Cx} {a b c:Expr} {ta tb tc:TE} {pos:Pos}
theorem a_G {pins:List (Addr×Obj)} {σ:St} {H:Hp} {s:Shared} {Q:VK} {k k':Bool} (I:Inv X pins σ H s) (q:Q (.bl k) H) (e:k=k'):EP X pins σ Q (.bool k') s:=by
 subst e;exact⟨.bl k,H,I,rfl,q⟩
theorem a_L:OpR X (compareOp .Eq) rEq:=by
 intro pins s σ H x y v u Q I rx ry h;obtain⟨hs,q⟩:=h;cases x with
 | non=>
   cases rx;cases y with
   | non=>cases ry;exact PySem.EqNone.eq_none_none (a_G I q (by simp))
   | bl j=>cases ry;exact PySem.EqNone.eq_none_bool (a_G I q (by simp))
   | int j=>obtain⟨t',rfl⟩:=ry;exact PySem.EqNone.eq_none_int (a_G I q (by simp))
   | str j=>obtain⟨t',rfl⟩:=ry;exact PySem.EqNone.eq_none_str (a_G I q (by simp))
   | _=>exact absurd (show false=true from hs) o_5
 | bl i=>
   cases rx;cases y with
   | non=>cases ry;exact PySem.EqNone.eq_bool_none (a_G I q (by simp))
   | bl j=>cases ry;exact eq_bool (a_G I q k_g)
   | str j=>obtain⟨t',rfl⟩:=ry;exact PySem.EqMixed.eq_bool_str (a_G I q (by simp))
   | _=>exact absurd (show false=true from hs) o_5
 | int i=>
   obtain⟨t,rfl⟩:=rx;cases y with
   | non=>cases ry;exact PySem.EqNone.eq_int_none (a_G I q (by simp))
   | int j=>obtain⟨t',rfl⟩:=ry;exact eq_int (a_G I q f_v)
   | str j=>obtain⟨t',rfl⟩:=ry;exact PySem.EqMixed.eq_int_str (a_G I q (by simp))
   | _=>exact absurd (show false=true from hs) o_5
 | str i=>
   obtain⟨t,rfl⟩:=rx;cases y with
   | non=>cases ry;exact PySem.EqNone.eq_str_none (a_G I q (by simp))
   | bl j=>cases ry;exact PySem.EqMixed.eq_str_bool (a_G I q (by simp))
   | int j=>obtain⟨t',rfl⟩:=ry;exact PySem.EqMixed.eq_str_int (a_G I q (by simp))
   | str j=>obtain⟨t',rfl⟩:=ry;exact eq_str (a_G I q f_L)
   | _=>exact absurd (show false=true from hs) o_5
 | byt i=>
   obtain⟨t,rfl⟩:=rx;cases y with
   | byt j=>obtain⟨t',rfl⟩:=ry;exact PySem.W.eq_bytes (a_G I q i_u)
   | _=>exact absurd (show false=true from hs) o_5
 | _=>cases y <;> exact absurd (show false=true from hs) o_5
theorem c_O:OpR X (compareOp .NotEq) rNe:=by
 intro pins s σ H x y v u Q I rx ry h;obtain⟨hs,q⟩:=h;cases x with
 | non=>
   cases rx;cases y with
   | non=>cases ry;exact PySem.EqNone.ne_none_none (a_G I q (by simp))
   | bl j=>cases ry;exact PySem.EqNone.ne_none_bool (a_G I q (by simp))
   | int j=>obtain⟨t',rfl⟩:=ry;exact PySem.EqNone.ne_none_int (a_G I q (by simp))
   | str j=>obtain⟨t',rfl⟩:=ry;exact PySem.EqNone.ne_none_str (a_G I q (by simp))
   | _=>exact absurd (show false=true from hs) o_5
 | bl i=>
   cases rx;cases y with
   | non=>cases ry;exact PySem.EqNone.ne_bool_none (a_G I q (by simp))
   | bl j=>cases ry;exact ne_bool (a_G I q (congrArg not k_g))
   | str j=>obtain⟨t',rfl⟩:=ry;exact PySem.EqMixed.ne_bool_str (a_G I q (by simp))
   | _=>exact absurd (show false=true from hs) o_5
 | int i=>
   obtain⟨t,rfl⟩:=rx;cases y with
   | non=>cases ry;exact PySem.EqNone.ne_int_none (a_G I q (by simp))
   | int j=>obtain⟨t',rfl⟩:=ry;exact ne_int (a_G I q (congrArg not f_v))
   | str j=>obtain⟨t',rfl⟩:=ry;exact PySem.EqMixed.ne_int_str (a_G I q (by simp))
   | _=>exact absurd (show false=true from hs) o_5
 | str i=>
   obtain⟨t,rfl⟩:=rx;cases y with
   | non=>cases ry;exact PySem.EqNone.ne_str_none (a_G I q (by simp))
   | bl j=>cases ry;exact PySem.EqMixed.ne_str_bool (a_G I q (by simp))
   | int j=>obtain⟨t',rfl⟩:=ry;exact PySem.EqMixed.ne_str_int (a_G I q (by simp))
   | str j=>obtain⟨t',rfl⟩:=ry;exact ne_str (a_G I q (congrArg not f_L))
   | _=>exact absurd (show false=true from hs) o_5
 | byt i=>
   obtain⟨t,rfl⟩:=rx;cases y with
   | byt j=>obtain⟨t',rfl⟩:=ry;exact PySem.W.ne_bytes (a_G I q (congrArg not i_u))
   | _=>exact absurd (show false=true from hs) o_5
 | _=>cases y <;> exact absurd (show false=true from hs) o_5
theorem f_a:OpR X (compareOp .Lt) (rI0 λi j=> .bl (decide (i < j))):=n_U λ_ _ _ _ _ _ _ q=>lt_int q
theorem g_O:OpR X (compareOp .Gt) (rI0 λi j=> .bl (decide (j < i))):=n_U λ_ _ _ _ _ _ _ q=>gt_int q
theorem l_D:OpR X (compareOp .GtE) (rI0 λi j=> .bl (decide (j<=i))):=n_U λ_ _ _ _ _ _ _ q=>ge_int q
theorem OpR.or {f:Value->Value->Sem Value} {r r':R2} (h:OpR X f r) (h':OpR X f r'):OpR X f (λx y H Q=>r x y H Q\/r' x y H Q):=by
 intro pins s σ H x y v u Q I rx ry q;rcases q with q | q
 ·exact h pins s σ H x y v u Q I rx ry q
 ·exact h' pins s σ H x y v u Q I rx ry q
theorem a_o (b:Expr) {op:CmpOp} (h:op≠ .In:=by decide) (h2:op≠ .NotIn:=by decide):behindInMarks op b=false:=by
 have e1:(op == CmpOp.In)=false:=by cases op <;> first | rfl | exact absurd rfl h
 have e2:(op == CmpOp.NotIn)=false:=by cases op <;> first | rfl | exact absurd rfl h2
 cases b <;> simp[behindInMarks,e1,e2]
theorem b_J {op:CmpOp} {r:R2} (ho:OpR X (compareOp op) r) (ha:PE X a ta) (hb:PE X b tb) (hm:behindInMarks op b=false):PE X (.Compare a [op] [b] pos) (tOp r ta tb):=by
 intro pins s σ H Q I h;exact wpAny_Compare1 (n_Z ha hb I h λv u s2 x y H2 I2 rx ry q=>ho pins s2 σ H2 x y v u Q I2 rx ry q) hm
def n_E (t:TE):TT:=λσ H Q=>t σ H λx H'=>∃k,x= .bl k/\Q k H'
theorem a_k {op:CmpOp} {r:R2} (ho:OpR X (compareOp op) r) (ha:PE X a ta) (hb:PE X b tb) (hm:behindInMarks op b=false):PT X (.Compare a [op] [b] pos) (n_E (tOp r ta tb)):=by
 intro pins s σ H Q I h
 refine wpAny_isTrue_Compare1 (thn (ha pins s σ H _ I h) λv s1 ⟨x,H1,I1,r1,q1⟩=>thn (hb pins s1 σ H1 _ I1 q1) λu s2 ⟨y,H2,I2,r2,q2⟩=>
  thn (ho pins s2 σ H2 x y v u _ I2 r1 r2 q2) λc s3 ⟨z,H3,I3,r3,k,e,q3⟩=> ?_) hm
 subst e;cases r3;exact wpAny_truthy_bool ⟨H3,I3,q3⟩
theorem c_9:(sizeLine:Nat) < 2 ^ 63:=by rw[sizeLine_eq];decide
theorem d_L:OpR X (binaryOp .Add) (λx y H Q=>∃i j,x= .str i/\y= .str j/\i.length+j.length<=sizeLine/\Q (.str (i++j)) H):=by
 intro pins s σ H x y v u Q I rx ry h;obtain⟨i,j,rfl,rfl,hz,q⟩:=h;obtain⟨t,rfl⟩:=rx;obtain⟨t',rfl⟩:=ry;exact add_str (λt' tk=>⟨.str (i++j),H,I.tok _,⟨_,rfl⟩,q⟩) hz
theorem g_N {x:V} {us:List Value} (r:Vals [x] us):∃u,us= [u]/\RelV x u:=by
 cases r with
 | cons r1 r2=>cases r2;exact⟨_,rfl,r1⟩
theorem n_v {x y:V} {us:List Value} (r:Vals [x,y] us):∃u w',us= [u,w']/\RelV x u/\RelV y w':=by
 cases r with
 | cons r1 r2=>
   cases r2 with
   | cons r3 r4=>cases r4;exact⟨_,_,rfl,r1,r3⟩
theorem i_k (hc:X.calm=true):d_z X (.builtin "min") (λxs H Q=>∃i j,xs= [.int i,.int j]/\Q (.int (if j < i then j else i)) H):=by
 intro pins s σ H xs us Q I r h;obtain⟨i,j,rfl,q⟩:=h;obtain⟨u,w',rfl,⟨t,rfl⟩,⟨t',rfl⟩⟩:=n_v r;refine min_two_ints (I.ok.hd hc) λh' tk k=>⟨_,H,I.kept k,?_, q⟩;by_cases hj:j < i
 ·rw[if_pos hj,if_pos hj];exact⟨_,rfl⟩
 ·rw[if_neg hj,if_neg hj];exact⟨_,rfl⟩
theorem a_P:d_z X (.type "int") (λxs H Q=>(∃i,xs= [.int i]/\Q (.int i) H)\/∃k,xs= [.bl k]/\Q (.int (if k then 1 else 0)) H):=by
 intro pins s σ H xs us Q I r h;rcases h with⟨i,rfl,q⟩ | ⟨k,rfl,q⟩
 ·obtain⟨u,rfl,t,rfl⟩:=g_N r
  exact call_int_int ⟨.int i,H,I,⟨_,rfl⟩,q⟩
 ·obtain⟨u,rfl,r1⟩:=g_N r
  cases r1;exact call_int_bool ⟨.int (if k then 1 else 0),H,I.tok _,⟨_,rfl⟩,q⟩
end
structure ObjM (h:Heap) (x dx C:Addr) (mA:Str->Option Value):Prop where
 obj:h.get? x=some (PySem.W.instObj C dx)
 ns:h.Ns1 dx mA
 ne:dx≠x
theorem h_n {h:Heap} {dx:Addr} {mA:Str->Option Value} (n:h.Ns1 dx mA):∃od,h.get? dx=some od/\∀name,PySem.W.lookIn name od=some (mA name):=by
 obtain⟨o,es,ep,ho,hd,hk,_,hm⟩:=n;refine⟨o,ho,λname=> ?_⟩;have e:=hm name;unfold nsFind findBy at e;rw[<-Array.find?_toList] at e;unfold PySem.W.lookIn;rw[hd];dsimp only;split
 ·rename_i y q
  rw[q] at e;exact congrArg some e
 ·rename_i q
  rw[q] at e
  have a:es.toList.any (·.refKey)=false:=by
   rw[List.any_eq_false];intro y hy;obtain⟨z,t,b⟩:=hk y (Array.mem_toList_iff.mp hy);simp[DictEntry.refKey,b]
  have a':¬ es.toList.any (·.refKey)=true:=by rw[a];exact o_5
  rw[if_neg a'];exact congrArg some e
theorem ObjM.look {h:Heap} {x dx C:Addr} {mA:Str->Option Value} (I:ObjM h x dx C mA):∃od,PySem.W.InstAt h x (PySem.W.instObj C dx) C (some od)/\∀name,PySem.W.lookIn name od=some (mA name):=
 let ⟨od,ho,hl⟩:=h_n I.ns
 ⟨od,⟨I.obj,rfl,rfl,ho⟩,hl⟩
section
variable {prog:Program} {w:World} {A:Around} {E:Value->Shared->Prop} {s:Shared} {K:PySem.W.Frag} {x dx C f:Addr} {mA:Str->Option Value} {name:Str} {v:Value}
theorem k_F {expr:Bool} {Q:Value->Shared->Prop} (X:K.In s.heap) (I:ObjM s.heap x dx C mA) (hg:PySem.W.plainGet K C name=true) (hh:PySem.W.hasDictIn K C=true)
 (ha:PySem.W.findIn K (.ref C) name=some none) (hv:mA name=some v) (hv':PySem.W.handedIn v=true) (h:Q v { s with toks:=s.toks+1 }):
 wpAny (model prog w) A (getAttr (.ref x) name expr) Q E s:=by
 obtain⟨od,J,hl⟩:=I.look;exact PySem.W.get_value X J (PySem.W.plainGet_of hg).1 (PySem.W.findObj_own hh ha rfl (by rw[hl,hv])) hv' h
theorem j_Q {pl:Sem Bool} {Q:Value×List Value->Shared->Prop} (X:K.In s.heap) (I:ObjM s.heap x dx C mA) (hg:PySem.W.plainGet K C name=true)
 (hf:PySem.W.findIn K (.ref C) name=some (some (.ref f))) (ht:PySem.W.isFn K (.ref f)=true) (hv:mA name=none) (h:Q (.ref f, [.ref x]) s):
 wpAny (model prog w) A (getMethod (.ref x) name pl) Q E s:=by
 obtain⟨od,J,hl⟩:=I.look;exact PySem.W.method_fn X J (PySem.W.plainGet_of hg).1 (PySem.W.plainGet_of hg).2 hf (beq_iff_eq.mp ht) (by show (PySem.W.lookIn name od).map (·.isSome)=some false;rw[hl,hv];rfl) h
theorem k_R {ns:List Str} {Q:Unit->Shared->Prop} (X:K.In s.heap) (I:ObjM s.heap x dx C mA)
 (hs:PySem.W.findIn K (.ref C) "__setattr__"=some (some (.builtin "object.__setattr__"))) (hp:PySem.W.plainOver K C=true) (ht:PySem.W.takerIn K C name=some none) (hh:PySem.W.hasDictIn K C=true)
 (hw:PySem.Within mA ns) (hsz:ns.length<=sizeLine)
 (h:∀h',ObjM h' x dx C (λy=>if y=name then some v else mA y)->Heap.SameBut dx s.heap h'->Q () { s with heap:=h',toks:=s.toks+2 }):
 wpAny (model prog w) A (setAttr (.ref x) name v) Q E s:=by
 obtain⟨od,J,hl⟩:=I.look;refine PySem.W.set_plain X J hs (PySem.W.osa_open (s:={ s with toks:=s.toks+1 }) (r:=none) X J hp ht λb=> ?_);obtain⟨cd,hc,e⟩:=PySem.W.any_some hh;have hx:s.heap.get? x=some ⟨.ref C,some dx,.plain,#[]⟩:=I.obj;refine wpAny_bind (wpAny_pure (wpAny_bind (wpAny_bind (wpAny_loadPart hx (wpAny_bind (PySem.W.Looks.here (s:={ s with toks:=s.toks+1 }) (PySem.W.looks_clsIn X hc) ?_))))));rw[e];refine wpAny_pure (a:=some dx) (wpAny_bind (wpAny_pure (wpAny_bind ?_)));refine wpAny_nsSet1 (s:={ s with toks:=s.toks+1 }) I.ns λh' d c=> ?_;obtain⟨oD,esD,epD,i,g,f⟩:=d.count (PySem.Within.cons name v hw);refine wpAny_bind (wpAny_lookBehind i (by rw[g];exact pastItsLine_dict (o_9 f (by rw[o_U];omega))) ?_);exact wpAny_pure (h _ ⟨(c.2 _ (Ne.symm I.ne)).trans I.obj,d,I.ne⟩ c)
theorem g_b {R:Result->Shared->Prop} {vs:List Value} {kw:List (Str×Value)} (X:K.In s.heap) (hm:PySem.W.makesIn K C=true)
 (hi:PySem.W.findIn K (.ref C) "__init__"=some (some (.ref f))) (hf:PySem.W.typeIn K (.ref f)=some (.type "function"))
 (h:codeAny (model prog w) (A.under (.builtin "type.__call__" ⟨.ref C::vs,kw⟩)) (.call (.ref f) ⟨.ref (s.heap.objs.size+1)::vs,kw⟩) (PySem.W.InitBack (s.heap.objs.size+1) R)
   { s with heap:=(s.heap.push PySem.W.emptyDict).push (PySem.W.instObj C s.heap.objs.size) }):
 codeAny (model prog w) A (.call (.ref C) ⟨vs,kw⟩) R s:=by
 obtain⟨hh,g,d,t,os⟩:=s;exact PySem.W.make_core (PySem.W.makes_of X hm) (PySem.W.looks_findIn X hi) (λself=>PySem.W.bind_fn X self hf) (.inl rfl) h
end
def c_y (f:Str) (v:V):List (Str×V)->List (Str×V)
 | []=> [(f,v)]
 | (g,x)::r=>if g=f then (g,v)::r else (g,x)::c_y f v r
theorem a_7 (f g:Str) (v:V):∀fs:List (Str×V),(c_y f v fs).lookup g=if g=f then some v else fs.lookup g
 | []=>by
   show List.lookup g [(f,v)]=_;by_cases h:g=f
   ·have hb:(g == f)=true:=beq_iff_eq.mpr h
    simp only[List.lookup,hb,if_pos h]
   ·have hb:(g == f)=false:=beq_eq_false_iff_ne.mpr h
    simp only[List.lookup,hb,if_neg h]
 | (k,x)::r=>by
   have ih:=a_7 f g v r;rw[show c_y f v ((k,x)::r)=(if k=f then (k,v)::r else (k,x)::c_y f v r) from rfl];by_cases hk:k=f
   ·rw[if_pos hk]
    by_cases h:g=k
    ·have hb:(g == k)=true:=beq_iff_eq.mpr h
     simp only[List.lookup,hb,if_pos (h.trans hk)]
    ·have hb:(g == k)=false:=beq_eq_false_iff_ne.mpr h
     simp only[List.lookup,hb,if_neg (λe:g=f=>h (e.trans hk.symm))]
   ·rw[if_neg hk]
    by_cases h:g=k
    ·have hb:(g == k)=true:=beq_iff_eq.mpr h
     simp only[List.lookup,hb,if_neg (λe:g=f=>hk (h.symm.trans e))]
    ·have hb:(g == k)=false:=beq_eq_false_iff_ne.mpr h
     simp only[List.lookup,hb];exact ih
theorem d_e (f:Str) (v:V):∀fs:List (Str×V),f∈(c_y f v fs).map (·.1)/\∀g,g∈fs.map (·.1)->g∈(c_y f v fs).map (·.1)
 | []=>⟨by simp[c_y],λg h=>by simp at h⟩
 | (k,x)::r=>by
   obtain⟨i1,i2⟩:=d_e f v r;rw[show c_y f v ((k,x)::r)=(if k=f then (k,v)::r else (k,x)::c_y f v r) from rfl];by_cases hk:k=f
   ·rw[if_pos hk]
    subst hk;exact⟨by simp,λg h=>by simpa using h⟩
   ·rw[if_neg hk]
    refine⟨?_, λg h=> ?_⟩
    ·rw[o_3]
     exact o_R _ i1
    ·rw[o_3] at h ⊢
     rcases o_Z.mp h with e | e
     ·exact o_Z.mpr (.inl e)
     ·exact o_R _ (i2 g e)
theorem d_o (f:Str) (v:V):∀fs:List (Str×V),(c_y f v fs).length<=fs.length+1
 | []=>by simp[c_y]
 | (k,x)::r=>by
   have ih:=d_o f v r;rw[show c_y f v ((k,x)::r)=(if k=f then (k,v)::r else (k,x)::c_y f v r) from rfl];by_cases hk:k=f
   ·rw[if_pos hk,o_U,o_U];omega
   ·rw[if_neg hk,o_U,o_U];omega
theorem RelO.some_of {v:V} {o:Option Value} (r:RelO (some v) o):∃u,o=some u/\RelV v u:=by
 cases o with
 | none=>exact (show False from r).elim
 | some u=>exact⟨u,rfl,r⟩
theorem RelO.none_of {o:Option Value} (r:RelO none o):o=none:=by
 cases o with
 | none=>rfl
 | some u=>exact (show False from r).elim
theorem h_I {v:V} {u:Value} (r:RelV v u):PySem.W.handedIn u=true:=by
 cases v with
 | non=>cases (show u=Value.none from r);rfl
 | bl b=>cases (show u=Value.bool b from r);rfl
 | int i=>obtain⟨t,e⟩:=(show ∃t,u=Value.int i t from r);cases e;rfl
 | str x=>obtain⟨t,e⟩:=(show ∃t,u=Value.str x t from r);cases e;rfl
 | byt b=>obtain⟨t,e⟩:=(show ∃t,u=Value.bytes b t from r);cases e;rfl
 | flt b=>obtain⟨t,e⟩:=(show ∃t,u=Value.float b t from r);cases e;rfl
 | ref a=>cases (show u=Value.ref a from r);rfl
 | ty n=>cases (show u=Value.type n from r);rfl
section
variable {P:Program} {w:World} {H H':Hp} {h h':Heap} {a C dx:Addr} {fs fs':List (Str×V)}
theorem e_l (hok:HOk P w H h) (e:H a=some (.ins C dx fs)):∃mA,ObjM h a dx C mA/\(∀f,RelO (fs.lookup f) (mA f))/\PySem.Within mA (fs.map (·.1))/\fs.length<=1000/\H dx=some (.own a):=by
 obtain⟨d,z,ne,ob,mA,n,r,q⟩:=(show ObjOk P w H h a (.ins C dx fs) from hok a _ e);exact⟨mA,⟨ob,n,ne⟩,r,q,z,d⟩
end
structure Cls (K:PySem.W.Frag) (C:Addr):Prop where
 pg:PySem.W.plainGet K C Str.empty=true
 hd:PySem.W.hasDictIn K C=true
 po:PySem.W.plainOver K C=true
 sa:PySem.W.findIn K (.ref C) "__setattr__"=some (some (.builtin "object.__setattr__"))
theorem Cls.get {K:PySem.W.Frag} {C:Addr} (c:Cls K C) (f:Str):PySem.W.plainGet K C f=true:=c.pg
def NoAttr (K:PySem.W.Frag) (C:Addr) (f:Str):Prop:=PySem.W.findIn K (.ref C) f=some none
theorem NoAttr.taker {K:PySem.W.Frag} {C:Addr} {f:Str} (n:NoAttr K C f):PySem.W.takerIn K C f=some none:=by
 unfold PySem.W.takerIn;rw[show PySem.W.findIn K (.ref C) f=some none from n];rfl
structure m_a (K:PySem.W.Frag) (C:Addr) (m:Str) (f:Addr):Prop where
 at_:PySem.W.findIn K (.ref C) m=some (some (.ref f))
 fn:PySem.W.isFn K (.ref f)=true
 kp:PySem.W.keepIn K (.ref f)=true
section
variable {X:Cx} {pins:List (Addr×Obj)} {σ:St} {H:Hp} {s:Shared} {a C dx:Addr} {fs:List (Str×V)} {f:Str} {v:V} {A:Around} {E:Value->Shared->Prop}
theorem g_5 {b:Bool} {Q:Value->Shared->Prop} (I:Inv X pins σ H s) (e:H a=some (.ins C dx fs)) (c:Cls X.K C) (n:NoAttr X.K C f) (l:fs.lookup f=some v)
 (h:∀u s',Inv X pins σ H s'->RelV v u->Q u s'):wpAny (model X.prog X.w) A (getAttr (.ref a) f b) Q E s:=by
 obtain⟨mA,O,r,_,_,_⟩:=e_l I.hok e;obtain⟨u,hu,ru⟩:=RelO.some_of (v:=v) (o:=mA f) (by rw[<-l];exact r f);exact k_F I.kIn O (c.get f) c.hd n hu (h_I ru) (h u _ (I.tok _) ru)
theorem c_D {m:Str} {g:Addr} {pl:Sem Bool} {Q:Value×List Value->Shared->Prop} (I:Inv X pins σ H s) (e:H a=some (.ins C dx fs)) (c:Cls X.K C) (k:m_a X.K C m g) (l:fs.lookup m=none)
 (h:Q (.ref g, [.ref a]) s):wpAny (model X.prog X.w) A (getMethod (.ref a) m pl) Q E s:=by
 obtain⟨mA,O,r,_,_,_⟩:=e_l I.hok e;have hn:mA m=none:=RelO.none_of (by rw[<-l];exact r m);exact j_Q I.kIn O (c.get m) k.at_ k.fn hn h
theorem g_Z {y:V} {u:Value} {Q:Unit->Shared->Prop} (I:Inv X pins σ H s) (e:H a=some (.ins C dx fs)) (c:Cls X.K C) (n:NoAttr X.K C f) (hl:fs.length < 1000) (ry:RelV y u)
 (h:∀s',Inv X pins σ (upd H a (.ins C dx (c_y f y fs))) s'->Q () s'):wpAny (model X.prog X.w) A (setAttr (.ref a) f u) Q E s:=by
 obtain⟨mA,O,r,wi,_,ho⟩:=e_l I.hok e;have hz:(fs.map (·.1)).length<=sizeLine:=by rw[o_O,sizeLine_eq];omega
 refine k_R I.kIn O c.sa c.po n.taker c.hd wi hz λh' O' sb=>h _ ?_;have hd:∃o,h'.get? dx=some o:=let ⟨o,_,_,e',_⟩:=O'.ns;⟨o,e'⟩;refine I.write (x:=a) (e:=dx) (by rw[e];exact True.intro) (.inr ho) (λb q hb z=>(sb.2 b hb).trans z) hd ?_;refine⟨by rw[a_i O.ne];exact ho,?_, O.ne,O'.obj,_,O'.ns,λg=> ?_, λg hg=> ?_⟩
 ·have:=d_o f y fs;omega
 ·show RelO ((c_y f y fs).lookup g) (if g=f then some u else mA g)
  rw[a_7];by_cases q:g=f
  ·rw[if_pos q,if_pos q];exact ry
  ·rw[if_neg q,if_neg q];exact r g
 ·by_cases q:g=f
  ·rw[q];exact (d_e f y fs).1
  ·refine (d_e f y fs).2 g (wi g λz=>hg ?_)
   show (if g=f then some u else mA g)=none;rw[if_neg q];exact z
theorem Inv.made (I:Inv X pins σ H s):Inv X pins σ (upd (upd H s.heap.objs.size (.own (s.heap.objs.size+1))) (s.heap.objs.size+1) (.ins C s.heap.objs.size []))
 { s with heap:=(s.heap.push PySem.W.emptyDict).push (PySem.W.instObj C s.heap.objs.size) }:=by
 have e1:(s.heap.push PySem.W.emptyDict).get? s.heap.objs.size=some PySem.W.emptyDict:=Heap.get?_push_size s.heap rfl
 have e2:((s.heap.push PySem.W.emptyDict).push (PySem.W.instObj C s.heap.objs.size)).get? (s.heap.objs.size+1)=some (PySem.W.instObj C s.heap.objs.size):=by
  have:=Heap.get?_push_size (s.heap.push PySem.W.emptyDict) (o:=PySem.W.instObj C s.heap.objs.size) rfl
  rwa [Heap.size_push] at this
 have e3:(s.heap.push PySem.W.emptyDict).Ns s.heap.objs.size (λ_=>none):=⟨PySem.W.emptyDict,#[],_,e1,rfl,(λe he=>absurd he (by simp)),λ_=>rfl⟩;have I1:=I.laid (a:=s.heap.objs.size) (o:= .own (s.heap.objs.size+1)) (h':=s.heap.push PySem.W.emptyDict) (t':=s.toks) (λb u q=>Heap.get?_push_of_some _ q) (o_X _) ⟨_,e1⟩;refine I1.laid (a:=s.heap.objs.size+1) (o:= .ins C s.heap.objs.size []) (t':=s.toks) (λb u q=>Heap.get?_push_of_some _ q) (Nat.le_of_eq (Heap.size_push _ _)) ?_;have ne:s.heap.objs.size≠s.heap.objs.size+1:=p_c (Nat.lt_succ_self _);refine⟨by rw[a_i ne,a_b],p_g _,ne,e2,λ_=>none,(Heap.Ns1.of_empty e3).at λo q=>Heap.get?_push_of_some _ q,λ_=>True.intro,λy hy=>absurd rfl hy⟩
theorem k_V {prog:Program} {w:World} {env:Env} {e:Expr} {f:Str} {pos:Pos} {s:Shared} {Q:Value->Shared->Prop} (hb:attributeBase e f env (eval e env)=eval e env)
 (h:wpAny (model prog w) A (eval e env) (λo s₁=>wpAny (model prog w) A (getAttr o f true) Q E s₁) E s):wpAny (model prog w) A (eval (.Attribute e f pos) env) Q E s:=
 Attribute_any_ h (by rw[arm_eval_Attribute,hb])
end
def o_q (K:PySem.W.Frag) (ta:TE) (f:Str):TE:=λσ H Q=>ta σ H λx H1=>∃a C dx fs v,x= .ref a/\H1 a=some (.ins C dx fs)/\Cls K C/\NoAttr K C f/\fs.lookup f=some v/\Q v H1
def o_i (K:PySem.W.Frag) (ta tv:TE) (f:Str):TS:=λD σ H=>tv σ H λy H1=>ta σ H1 λx H2=>∃a C dx fs,x= .ref a/\H2 a=some (.ins C dx fs)/\Cls K C/\NoAttr K C f/\fs.length < 1000/\
 D.nx σ (upd H2 a (.ins C dx (c_y f y fs)))
section
variable {X:Cx} {o e value:Expr} {f:Str} {pos pos' tpos:Pos} {ta tv:TE}
theorem a_E (he:PE X e ta) (hb:attributeBase e f X.env (eval e X.env)=eval e X.env):PE X (.Attribute e f pos) (o_q X.K ta f):=by
 intro pins s σ H Q I h;refine k_V hb (thn (he pins s σ H _ I h) λu s1 ⟨x,H1,I1,rx,a,C,dx,fs,v,ex,ea,c,n,l,q⟩=> ?_);subst ex;obtain rfl:u=Value.ref a:=rx;exact g_5 I1 ea c n l λu' s2 I2 ru=>⟨v,H1,I2,ru,q⟩
theorem b_T (ha:PE X o ta) (hv:PE X value tv) (hs:swapsWith value (some (.Attribute o f pos')) pos.line X.env=pure false):PS X (.Assign [.Attribute o f pos'] value pos) (o_i X.K ta tv f):=by
 intro pins s σ H D I h;refine plainObj_wpAny_Assign_Attribute (thn (hv pins s σ H _ I h) λu s1 ⟨y,H1,I1,ry,q⟩=>thn (ha pins s1 σ H1 _ I1 q) λov s2 ⟨x,H2,I2,rx,a,C,dx,fs,ex,ea,c,n,l,q2⟩=> ?_) hs;subst ex;obtain rfl:ov=Value.ref a:=rx;exact g_Z I2 ea c n l ry λs3 I3=>⟨σ,_,I3,q2⟩
theorem k_T {pl:Sem Bool} {m:Str} {apos:Pos} {args:List Expr} {pins:List (Addr×Obj)} {s:Shared} {σ:St} {H:Hp} {Q:Value->Shared->Prop} {te:TE} (he:PE X e te) (I:Inv X pins σ H s)
 (h:te σ H fun x H1=>∃a C dx fs g,x= .ref a∧H1 a=some (.ins C dx fs)∧Cls X.K C∧m_a X.K C m g∧fs.lookup m=none∧
   ∀s1,Inv X pins σ H1 s1->wpAny (model X.prog X.w) X.A (callWith pos (.ref g) [.ref a] (backTo pos (starEach args X.env)) (backToKw pos (keywordEach [] X.env))) Q X.xe s1)
 (ht:eval (.Call (.Attribute e m apos) args [] pos) X.env=(do
   let ov<-eval e X.env
   standAt apos.atName
   let (f,first)<-holding [ov] (getMethod ov m pl)
   callWith pos f first (backTo pos (starEach args X.env)) (backToKw pos (keywordEach [] X.env)))):
 wpAny (model X.prog X.w) X.A (eval (.Call (.Attribute e m apos) args [] pos) X.env) Q X.xe s:=by
 refine PySem.W.methodCall_KW (pl:=pl) (thn (he pins s σ H _ I h) λu s1 ⟨x,H1,I1,rx,a,C,dx,fs,g,ex,ea,c,k,l,q⟩=> ?_) ht;subst ex;obtain rfl:u=Value.ref a:=rx;exact c_D I1 ea c k l (q s1 I1)
end
section
variable {X:Cx} {pins:List (Addr×Obj)} {σ:St} {H:Hp} {s:Shared} {A:Around} {E:Value->Shared->Prop} {Q:Value->Shared->Prop} {c:Value} {b:Bool}
inductive g_x (K:PySem.W.Frag) (H:Hp):V->Value->Prop where
 | non:g_x K H .non (.type "NoneType")
 | bl (x:Bool):g_x K H (.bl x) (.type "bool")
 | int (i:Int):g_x K H (.int i) (.type "int")
 | str (x:Str):g_x K H (.str x) (.type "str")
 | flt (x:UInt64):g_x K H (.flt x) (.type "float")
 | lst {a:Addr} {xs:List V} (e:H a=some (.lst xs)):g_x K H (.ref a) (.type "list")
 | frz {a:Addr} {o:Obj} {xs:List V} (e:H a=some (.frz o (.lst xs))):g_x K H (.ref a) (.type "list")
 | tup {a:Addr} {xs:List V} (e:H a=some (.tup xs)):g_x K H (.ref a) (.type "tuple")
 | dK {a:Addr} {kvs:List (Key×V)} (e:H a=some (.dK kvs)):g_x K H (.ref a) (.type "dict")
 | dT {a:Addr} {kvs:List (List Key×V)} (e:H a=some (.dT kvs)):g_x K H (.ref a) (.type "dict")
 | ins {a C dx:Addr} {fs:List (Str×V)} (e:H a=some (.ins C dx fs)) (cl:Cls K C) (ha:PySem.W.findIn K (.ref C) "__class__"=some (some (.builtin "object.__class__")))
    (hn:PySem.W.specialIn K (.builtin "object.__class__") "__get__"=some (some (.builtin "getset_descriptor.__get__"))) (htk:PySem.W.takesIn K (.builtin "object.__class__")=some true)
    (hm:PySem.W.mroIn K C (.type "object")=some true):g_x K H (.ref a) (.ref C)
theorem h_p {x:V} {u t:Value} (I:Inv X pins σ H s) (rx:RelV x u) (ty:g_x X.K H x t) (e:PySem.W.kitOne X.K t c=some b) (h:∀tk,Q (.bool b) { s with toks:=tk }):
 wpAny (model X.prog X.w) A (call (.builtin "isinstance") [u,c]) Q E s:=by
 cases ty with
 | non=>cases (show u=Value.none from rx);exact PySem.W.kia_one PySem.W.kitx_none I.kIn True.intro e (λz=>nomatch z) h
 | bl y=>cases (show u=Value.bool y from rx);exact PySem.W.kia_one PySem.W.kitx_bool I.kIn True.intro e (λz=>nomatch z) h
 | int i=>obtain⟨t,q⟩:=(show ∃t,u=Value.int i t from rx);cases q;exact PySem.W.kia_one PySem.W.kitx_int I.kIn True.intro e (λz=>nomatch z) h
 | str y=>obtain⟨t,q⟩:=(show ∃t,u=Value.str y t from rx);cases q;exact PySem.W.kia_one PySem.W.kitx_str I.kIn True.intro e (λz=>nomatch z) h
 | flt y=>obtain⟨t,q⟩:=(show ∃t,u=Value.float y t from rx);cases q;exact PySem.W.kia_one PySem.W.kitx_float I.kIn True.intro e (λz=>nomatch z) h
 | @lst a xs ea=>
   cases (show u=Value.ref a from rx);obtain⟨_,_,n,_,h1⟩:=(show ObjOk X.prog X.w H s.heap a (.lst xs) from I.hok a _ ea);exact PySem.W.kia_one PySem.W.kitx_list I.kIn ⟨_,h1,rfl⟩ e (λz=>nomatch z) h
 | @frz a ob xs ea=>
   cases (show u=Value.ref a from rx);obtain⟨_,_,_,n,_,h1⟩:=(show ObjOk X.prog X.w H s.heap a (.frz ob (.lst xs)) from I.hok a _ ea);exact PySem.W.kia_one PySem.W.kitx_list I.kIn ⟨_,h1,rfl⟩ e (λz=>nomatch z) h
 | @tup a xs ea=>
   cases (show u=Value.ref a from rx);obtain⟨_,_,_,p⟩:=(show ObjOk X.prog X.w H s.heap a (.tup xs) from I.hok a _ ea);obtain⟨o,h1,h2,_⟩:=p;exact PySem.W.kia_one PySem.W.kitx_tuple I.kIn ⟨o,h1,h2⟩ e (λz=>nomatch z) h
 | @dK a kvs ea=>
   cases (show u=Value.ref a from rx);obtain⟨_,_,vs,_,p⟩:=(show ObjOk X.prog X.w H s.heap a (.dK kvs) from I.hok a _ ea);obtain⟨o,es,ep,h1,h2,_⟩:=p;exact PySem.W.kia_one PySem.W.kitx_dict I.kIn ⟨o,h1,h2.1⟩ e (λz=>nomatch z) h
 | @dT a kvs ea=>
   cases (show u=Value.ref a from rx);obtain⟨_,_,xs,_,o,es,ep,h1,h2,_⟩:=(show ObjOk X.prog X.w H s.heap a (.dT kvs) from I.hok a _ ea);exact PySem.W.kia_one PySem.W.kitx_dict I.kIn ⟨o,h1,h2.1⟩ e (λz=>nomatch z) h
 | @ins a C dx fs ea cl ha hn htk hm=>
   cases (show u=Value.ref a from rx);obtain⟨mA,O,_⟩:=e_l I.hok ea;obtain⟨od,J,_⟩:=O.look;exact PySem.W.kia_one (PySem.W.kitx_own (cl.get _) cl.hd ha hn htk hm) I.kIn J e (λz=>nomatch z) h
end
structure Room (k:Nat) (A:Around):Prop where
 hd:A.handled=none
 dp:A.depth+3 * k+5 < recursionLimit
 un:A.units+16 * k+200 < cLine
theorem Room.mono {j k:Nat} {A:Around} (r:Room k A) (h:j<=k):Room j A:=⟨r.hd,by have:=r.dp;omega,by have:=r.un;omega⟩
theorem Room.deeper {k:Nat} {A:Around} (r:Room (k+1) A) (env:Env):Room k (A.deeper env):=
 ⟨r.hd,by have:=r.dp;show A.depth+1+3 * k+5 < _;omega,by have:=r.un;show A.units+3+16 * k+200 < _;omega⟩
theorem g_1 {A:Around} {C:Addr} {us:List Value} {kw:List (Str×Value)}:(A.under (.builtin "type.__call__" ⟨.ref C::us,kw⟩)).depth=A.depth+1:=by
 first | rfl | simp[Around.under,Code.weight,Code.isCreation,Code.isGuard,Code.isCaller,Code.frames,Code.isFrame,guardIds]
theorem h_e {A:Around} {C:Addr} {us:List Value} {kw:List (Str×Value)}:(A.under (.builtin "type.__call__" ⟨.ref C::us,kw⟩)).units=A.units+1:=by
 first | rfl | simp[Around.under,Code.cUnits,Code.frames,Code.isFrame]
theorem Room.make {k:Nat} {A:Around} (r:Room (k+1) A) (C:Addr) (us:List Value) (kw:List (Str×Value)):Room k (A.under (.builtin "type.__call__" ⟨.ref C::us,kw⟩)):=
 ⟨r.hd,by have:=r.dp;rw[g_1];omega,by have:=r.un;rw[h_e];omega⟩
theorem Room.depth {k:Nat} {A:Around} (r:Room k A):A.depth < recursionLimit:=by have:=r.dp;omega
theorem Room.units {k:Nat} {A:Around} (r:Room k A):A.units+64 < cLine:=by have:=r.un;omega
theorem Room.units0 {k:Nat} {A:Around} (r:Room k A):A.units < cLine:=by have:=r.un;omega
def n_G:TA:=λ_ H Q=>Q [] H
def n_H (ta:TE) (tr:TA):TA:=λσ H Q=>ta σ H λx H1=>tr σ H1 λxs H2=>Q (x::xs) H2
section
variable {X:Cx} {e:Expr} {es:List Expr} {te:TE} {t:TA} {pos:Pos}
theorem a_c:PA X [] n_G:=λ_ _ _ _ H Q I h=>Calls.spliced_nil ⟨[],H,I,.nil,h⟩
theorem a_a (ha:PE X e te) (hr:PA X es t) (hs:starEach (e::es) X.env=(false,eval e X.env)::starEach es X.env:=by rfl):PA X (e::es) (n_H te t):=by
 intro pos pins s σ H Q I h;rw[hs];show wpAny _ _ (spliced ((false,eval e X.env)::backTo pos (starEach es X.env))) _ _ s;refine Calls.spliced_cons (thn (ha pins s σ H _ I h) λu s1 ⟨x,H1,I1,r1,q1⟩=> ?_);exact thn (hr pos pins s1 σ H1 _ I1 q1) λus s2 ⟨xs,H2,I2,r2,q2⟩=>⟨x::xs,H2,I2,.cons r1 r2,q2⟩
def o_m (t:TA):TE:=λσ H Q=>t σ H λxs H1=>xs.length<=sizeLine/\∀p,H1 p=none->Q (.ref p) (upd H1 p (.tup xs))
def o_A (t:TA):TE:=λσ H Q=>t σ H λxs H1=>xs.length<=sizeLine/\∀p,H1 p=none->Q (.ref p) (upd H1 p (.lst xs))
theorem a_A {x1} (h:PA X es t):PE X (.Tuple es x1 pos) (o_m t):=by
 intro pins s σ H Q I hq;refine wpAny_Tuple_spliced (thn (h pos pins s σ H _ I hq) λus s1 ⟨xs,H1,I1,r,z,q⟩=>⟨by rw[<-r.length];exact z,?_⟩);have hf:H1 s1.heap.objs.size=none:=I1.hok.fresh (o_X _);refine⟨.ref s1.heap.objs.size,upd H1 s1.heap.objs.size (.tup xs),I1.laid (t':=s1.toks) (λb u e=>Heap.get?_push_of_some _ e) (o_X _) ?_, rfl,q _ hf⟩;exact⟨z,us,r,⟨_,Heap.get?_push_size _ rfl,rfl,_,rfl⟩⟩
theorem a_R (h:PA X es t):PE X (.List es pos) (o_A t):=by
 intro pins s σ H Q I hq;refine wpAny_List_spliced (thn (h pos pins s σ H _ I hq) λus s1 ⟨xs,H1,I1,r,z,q⟩=>⟨by rw[<-r.length];exact z,?_⟩);have hf:H1 s1.heap.objs.size=none:=I1.hok.fresh (o_X _);refine⟨.ref s1.heap.objs.size,upd H1 s1.heap.objs.size (.lst xs),I1.laid (t':=s1.toks) (λb u e=>Heap.get?_push_of_some _ e) (o_X _) ?_, rfl,q _ hf⟩;exact⟨z,us,0,r,Heap.get?_push_size _ rfl⟩
end
abbrev Sp:=List V->Hp->VK->XK->Prop
abbrev CXT:=List Env->Hp->Shared->XK->Value->Shared->Prop
structure Env0 (P:Program) (w:World) (K:PySem.W.Frag) (mg:Str->Option Value) (base:Heap) (A:Around) (outer:List Env) (s:Shared) (H:Hp):Prop where
 frames:A.frames=some outer
 mod:Mod K mg base
 bs:∀b o,base.get? b=some o->s.heap.get? b=some o/\H b=none
 bsz:base.objs.size<=s.heap.objs.size
 funs:s.heap.FunFrames base outer
 frf:∀b∈frs outer,H b=none
 hok:HOk P w H s.heap
 bare:AllBare s.gens
def CE (outer:List Env) (P:Program) (w:World) (H:Hp) (s:Shared) (Q:VK) (u:Value) (s':Shared):Prop:=
 ∃v H',s'.os=s.os/\AllBare s'.gens/\Un (frs outer) [] H H' s.heap s'.heap/\HOk P w H' s'.heap/\RelV v u/\Q v H'
def CR (CX:CXT) (outer:List Env) (P:Program) (w:World) (H:Hp) (s:Shared) (Q:VK) (E:XK) (r:Result) (s':Shared):Prop:=
 match r with
 | .ok (.ret u)=>CE outer P w H s Q u s'
 | .ok _=>False
 | .error e=>CX outer H s E e s'
structure FnOk (P:Program) (w:World) (K:PySem.W.Frag) (mg:Str->Option Value) (base:Heap) (CX:CXT) (k:Nat) (f:Addr) (fd:FuncData) (ps:List Str) (sp:Sp):Prop where
 len:∀vs H Q E,sp vs H Q E->vs.length=ps.length
 run:∀(A:Around) (outer:List Env) (s:Shared) (H:Hp) (args:Args) (us:List Value) (vs:List V) (Q:VK) (E:XK),Room k A->Env0 P w K mg base A outer s H->BindsTo s fd args (ps.zip us)->Vals vs us->sp vs H Q E->
  codeAny (model P w) A (.call (.ref f) args) (CR CX outer P w H s Q E) s
theorem FnOk.imp {P:Program} {w:World} {K:PySem.W.Frag} {mg:Str->Option Value} {base:Heap} {CX:CXT} {k:Nat} {f:Addr} {fd:FuncData} {ps:List Str} {sp sp':Sp} (F:FnOk P w K mg base CX k f fd ps sp)
 (h:∀vs H Q E,sp' vs H Q E->sp vs H Q E):FnOk P w K mg base CX k f fd ps sp':=
 ⟨λvs H Q E q=>F.len vs H Q E (h _ _ _ _ q),λA outer s H args us vs Q E hr he hb hv hs=>F.run A outer s H args us vs Q E hr he hb hv (h _ _ _ _ hs)⟩
theorem Env0.make {P:Program} {w:World} {K:PySem.W.Frag} {mg:Str->Option Value} {base:Heap} {A:Around} {outer:List Env} {s:Shared} {H:Hp} (e:Env0 P w K mg base A outer s H) (C:Addr) (us:List Value) (kw:List (Str×Value)):
 Env0 P w K mg base (A.under (.builtin "type.__call__" ⟨.ref C::us,kw⟩)) outer s H:=⟨by first | exact e.frames | (simpa[Around.under,Code.envs,Code.isFrame,pushEnvs] using e.frames),e.mod,e.bs,e.bsz,e.funs,e.frf,e.hok,e.bare⟩
section
variable {X:Cx} {pins:List (Addr×Obj)} {σ:St} {H:Hp} {s s':Shared}
theorem Inv.env0 (I:Inv X pins σ H s):Env0 X.prog X.w X.K X.mg X.base X.A X.stack s H:=
 ⟨I.ok.frames,I.ok.mod,I.bs,o_9 I.ok.bsz I.sz,I.stack,I.stkFree,I.hok,I.bare⟩
theorem Inv.after {Q:VK} {u:Value} (I:Inv X pins σ H s) (h:CE X.stack X.prog X.w H s Q u s'):EP X pins σ Q u s':=by
 obtain⟨v,H',os,bare,un,hok,r,q⟩:=h;obtain⟨hh,g,d,t,os'⟩:=s';obtain rfl:os'=s.os:=os;exact⟨v,H',I.call (h':=hh) (g':=g) (d':=d) (t':=t) (ch:= []) un hok bare (λb z=>absurd z (by simp)),r,q⟩
end
def k_M (sp:Sp) (dvs:List V) (E:XK) (t:TA):TE:=λσ H Q=>t σ H λvs H1=>sp (vs++dvs) H1 Q E
def m_U (C:Addr) (m:Str) (sp:Sp) (dvs:List V) (E:XK) (ta:TE) (t:TA):TE:=λσ H Q=>ta σ H λx H1=>∃a dx fs,x= .ref a/\H1 a=some (.ins C dx fs)/\fs.lookup m=none/\
 t σ H1 λvs H2=>sp (x::(vs++dvs)) H2 Q E
def l_6 (C:Addr) (sp:Sp) (dvs:List V) (E:XK) (t:TA):TE:=λσ H Q=>t σ H λvs H1=>∀x dx,H1 x=none->H1 dx=none->dx≠x->
 sp (.ref x::(vs++dvs)) (upd (upd H1 dx (.own x)) x (.ins C dx [])) (λv H2=>v= .non/\Q (.ref x) H2) E
def Binds (K:PySem.W.Frag) (fd:FuncData) (ps:List Str) (ds:List Value):Prop:=
 ∀(s:Shared) (us:List Value),K.In s.heap->(us++ds).length=ps.length->BindsTo s fd ⟨us, []⟩ (ps.zip (us++ds))
theorem Binds.all {K:PySem.W.Frag} {fd:FuncData} {ps:List Str} (h:∀us:List Value,us.length=ps.length->bindArgs fd ⟨us, []⟩=pure (ps.zip us)):Binds K fd ps []:=λs us _ hl=>by
 rw[p_l] at hl ⊢;exact .of_eq (h us hl)
def b_Q (CX:CXT) (X:Cx) (E:XK):Prop:=∀(pins:List (Addr×Obj)) (σ:St) (H:Hp) (s:Shared) (e:Value) (s':Shared),Inv X pins σ H s->CX X.stack H s E e s'->X.xe e s'
section
variable {X:Cx} {CX:CXT} {k:Nat} {f C:Addr} {fd:FuncData} {ps:List Str} {sp:Sp} {dvs:List V} {ds:List Value} {E:XK} {x m:Str} {p pos apos:Pos} {e o:Expr} {es:List Expr} {ta:TE} {t:TA}
theorem g_e {pins:List (Addr×Obj)} {σ:St} {H:Hp} {s:Shared} {Q:VK} {us:List Value} {vs:List V} (F:FnOk X.prog X.w X.K X.mg X.base CX k f fd ps sp) (hr:Room k X.A) (hb:Binds X.K fd ps ds) (hd:Vals dvs ds) (hx:b_Q CX X E)
 (I:Inv X pins σ H s) (r:Vals vs us) (h:sp (vs++dvs) H Q E):wpAny (model X.prog X.w) X.A (call (.ref f) us) (EP X pins σ Q) X.xe s:=by
 have r2:Vals (vs++dvs) (us++ds):=r.append hd;have hl:(us++ds).length=ps.length:=by rw[<-r2.length];exact F.len _ _ _ _ h
 refine wpAny_call (codeAny_mono (F.run X.A X.stack s H ⟨us, []⟩ (us++ds) (vs++dvs) Q E hr I.env0 (hb s us I.kIn hl) r2 h) λr s' hq=> ?_);cases r with
 | error e=>exact hx pins σ H s e s' I hq
 | ok fl=>
   cases fl with
   | ret u=>exact I.after hq
   | next=>exact False.elim hq
   | brk=>exact False.elim hq
   | cont=>exact False.elim hq
theorem a_l (F:FnOk X.prog X.w X.K X.mg X.base CX k f fd ps sp) (hr:Room k X.A) (hg:Gl X x) (hm:X.mg x=some (.ref f)) (hk:PySem.W.keepIn X.K (.ref f)=true) (hb:Binds X.K fd ps ds) (hd:Vals dvs ds) (hx:b_Q CX X E)
 (ha:PA X (e::es) t) (hdb:(x == ("__debug__":Str))=false:=by decide) (he:starEach (e::es) X.env=(false,eval e X.env)::starEach es X.env:=by rfl) (hpl:(backTo pos (starEach es X.env)).any (·.1)=false:=by rfl):
 PE X (.Call (.Name x p) (e::es) [] pos) (k_M sp dvs E t):=by
 intro pins s σ H Q I h;refine wpAny_Call_Name_kw (b_I I hg hm ?_ hdb);refine PySem.W.callWith_K (h₀:=X.base) I.ok.mod.kin hk (thn (ha pos pins s σ H _ I h) λus s1 ⟨vs,H1,I1,r,q⟩=>⟨I1.kIn,?_⟩) he hpl;exact g_e F hr hb hd hx I1 r q
theorem c_Q (F:FnOk X.prog X.w X.K X.mg X.base CX k f fd ps sp) (hr:Room k X.A) (hg:Gl X x) (hm:X.mg x=some (.ref f)) (hk:PySem.W.keepIn X.K (.ref f)=true) (hb:Binds X.K fd ps ds) (hd:Vals dvs ds) (hx:b_Q CX X E)
 (hdb:(x == ("__debug__":Str))=false:=by decide):PE X (.Call (.Name x p) [] [] pos) (k_M sp dvs E n_G):=by
 intro pins s σ H Q I h;refine wpAny_Call_Name_kw (b_I I hg hm ?_ hdb);exact PySem.W.callWith_K0 I.kIn hk (g_e (us:= []) F hr hb hd hx I .nil h)
theorem a_Q {pl:Sem Bool} (he:PE X o ta) (c:Cls X.K C) (hm:m_a X.K C m f) (F:FnOk X.prog X.w X.K X.mg X.base CX k f fd ps sp) (hr:Room k X.A) (hb:Binds X.K fd ps ds) (hd:Vals dvs ds) (hx:b_Q CX X E) (ha:PA X (e::es) t)
 (hst:starEach (e::es) X.env=(false,eval e X.env)::starEach es X.env:=by rfl) (hpl:(backTo pos (starEach es X.env)).any (·.1)=false:=by rfl)
 (ht:eval (.Call (.Attribute o m apos) (e::es) [] pos) X.env=(do
   let ov<-eval o X.env
   standAt apos.atName
   let (f,first)<-holding [ov] (getMethod ov m pl)
   callWith pos f first (backTo pos (starEach (e::es) X.env)) (backToKw pos (keywordEach [] X.env))):=by rfl):
 PE X (.Call (.Attribute o m apos) (e::es) [] pos) (m_U C m sp dvs E ta t):=by
 intro pins s σ H Q I h;refine PySem.W.methodCall_KW (pl:=pl) (thn (he pins s σ H _ I h) λu s1 ⟨x,H1,I1,rx,a,dx,fs,ex,ea,l,q⟩=> ?_) ht;subst ex;obtain rfl:u=Value.ref a:=rx;refine c_D I1 ea c hm l ?_;refine PySem.W.callWith_K (first:= [.ref a]) (h₀:=X.base) I.ok.mod.kin hm.kp (thn (ha pos pins s1 σ H1 _ I1 q) λus s2 ⟨vs,H2,I2,r,q2⟩=>⟨I2.kIn,?_⟩) hst hpl;exact g_e (us:= .ref a::us) (vs:= .ref a::vs) F hr hb hd hx I2 (.cons rfl r) q2
theorem b_5 {pl:Sem Bool} (he:PE X o ta) (c:Cls X.K C) (hm:m_a X.K C m f) (F:FnOk X.prog X.w X.K X.mg X.base CX k f fd ps sp) (hr:Room k X.A) (hb:Binds X.K fd ps ds) (hd:Vals dvs ds) (hx:b_Q CX X E)
 (ht:eval (.Call (.Attribute o m apos) [] [] pos) X.env=(do
   let ov<-eval o X.env
   standAt apos.atName
   let (f,first)<-holding [ov] (getMethod ov m pl)
   callWith pos f first (backTo pos (starEach [] X.env)) (backToKw pos (keywordEach [] X.env))):=by rfl):
 PE X (.Call (.Attribute o m apos) [] [] pos) (m_U C m sp dvs E ta n_G):=by
 intro pins s σ H Q I h;refine PySem.W.methodCall_KW (pl:=pl) (thn (he pins s σ H _ I h) λu s1 ⟨x,H1,I1,rx,a,dx,fs,ex,ea,l,q⟩=> ?_) ht;subst ex;obtain rfl:u=Value.ref a:=rx;refine c_D I1 ea c hm l ?_;exact PySem.W.callWith_K0 (first:= [.ref a]) I1.kIn hm.kp (g_e (us:= [.ref a]) (vs:= [.ref a]) F hr hb hd hx I1 (.cons rfl .nil) q)
structure Mk (K:PySem.W.Frag) (C f:Addr):Prop where
 makes:PySem.W.makesIn K C=true
 init:PySem.W.findIn K (.ref C) "__init__"=some (some (.ref f))
 fn:PySem.W.isFn K (.ref f)=true
 kp:PySem.W.keepIn K (.ref C)=true
theorem j_l {pins:List (Addr×Obj)} {σ:St} {H:Hp} {s:Shared} {Q:VK} {us:List Value} {vs:List V} (M:Mk X.K C f) (F:FnOk X.prog X.w X.K X.mg X.base CX k f fd ps sp) (hr:Room (k+1) X.A) (hb:Binds X.K fd ps ds) (hd:Vals dvs ds)
 (hx:b_Q CX X E) (I:Inv X pins σ H s) (r:Vals vs us)
 (h:∀x dx,H x=none->H dx=none->dx≠x->sp (.ref x::(vs++dvs)) (upd (upd H dx (.own x)) x (.ins C dx [])) (λv H2=>v= .non/\Q (.ref x) H2) E):
 wpAny (model X.prog X.w) X.A (call (.ref C) us) (EP X pins σ Q) X.xe s:=by
 have hq:=h (s.heap.objs.size+1) s.heap.objs.size (I.hok.fresh (Nat.le_succ _)) (I.hok.fresh (o_X _)) (p_c (Nat.lt_succ_self _));have I2:=Inv.made (C:=C) I;have r2:Vals (V.ref (s.heap.objs.size+1)::(vs++dvs)) (Value.ref (s.heap.objs.size+1)::(us++ds)):= .cons rfl (r.append hd)
 have hl:(Value.ref (s.heap.objs.size+1)::us++ds).length=ps.length:=by
  have e:=r2.length;rw[F.len _ _ _ _ hq] at e;exact e.symm
 refine wpAny_call (g_b (f:=f) I.kIn M.makes M.init (beq_iff_eq.mp M.fn) (codeAny_mono (F.run _ X.stack _ _ ⟨Value.ref (s.heap.objs.size+1)::us, []⟩ (Value.ref (s.heap.objs.size+1)::(us++ds)) _ _ E (hr.make C us [])
  (I2.env0.make C us []) (hb _ (Value.ref (s.heap.objs.size+1)::us) I2.kIn hl) r2 hq) λr s' a=> ?_))
 cases r with
 | error e=>exact hx pins σ _ _ e s' I2 a
 | ok fl=>
   cases fl with
   | ret u=>
     obtain⟨v,H',I3,rv,ev,q3⟩:=I2.after a;subst ev;exact⟨rv,⟨V.ref (s.heap.objs.size+1),H',I3,rfl,q3⟩⟩
   | next=>exact False.elim a
   | brk=>exact False.elim a
   | cont=>exact False.elim a
theorem e_m (M:Mk X.K C f) (F:FnOk X.prog X.w X.K X.mg X.base CX k f fd ps sp) (hr:Room (k+1) X.A) (hg:Gl X x) (hm:X.mg x=some (.ref C)) (hb:Binds X.K fd ps ds) (hd:Vals dvs ds) (hx:b_Q CX X E)
 (ha:PA X (e::es) t) (hdb:(x == ("__debug__":Str))=false:=by decide) (he:starEach (e::es) X.env=(false,eval e X.env)::starEach es X.env:=by rfl) (hpl:(backTo pos (starEach es X.env)).any (·.1)=false:=by rfl):
 PE X (.Call (.Name x p) (e::es) [] pos) (l_6 C sp dvs E t):=by
 intro pins s σ H Q I h;refine wpAny_Call_Name_kw (b_I I hg hm ?_ hdb);refine PySem.W.callWith_K (h₀:=X.base) I.ok.mod.kin M.kp (thn (ha pos pins s σ H _ I h) λus s1 ⟨vs,H1,I1,r,q⟩=>⟨I1.kIn,?_⟩) he hpl;exact j_l M F hr hb hd hx I1 r q
end
section
variable {X:Cx} {CX:CXT} {k:Nat} {f C:Addr} {fd:FuncData} {ps ks:List Str} {sp:Sp} {E:XK} {x m:Str} {p pos apos kpos:Pos} {e o:Expr} {es:List Expr} {kws:List Keyword} {te ta:TE} {t tk:TA} {nm:Option Str}
variable {g:List Value->List Value->List Value} {gV:List V->List V->List V}
end
structure a_s (N P:List Str) (sc:Scope):Prop where
 kind:sc.kind= .function
 co:sc.isCoroutine=false
 gen:sc.isGenerator=false
 nd:N.Nodup
 pre:N.take P.length=P
 par:∀x∈P,sc.names.lookup x=some .local\/sc.names.lookup x=some .cell
 nofree:∀y∈sc.names,y.2≠ .free
theorem e_8 {kindOf:Str->Option NameKind} {x:Str}:∀{binds:List (Str×Value)} {m:Str->Option Value},(∀v,(x,v)∉binds)->bindL kindOf binds m x=m x
 | [],_,_=>rfl
 | (n,v)::r,m,h=>by
   unfold bindL;rw[e_8 λw hw=>h w (o_R _ hw)];split
   ·have:x≠n:=by rintro rfl;exact h v o_S
    simp[this]
   ·rfl
theorem f_h {kindOf:Str->Option NameKind} {x:Str}:∀{binds:List (Str×Value)} {m:Str->Option Value},(∀v,(x,v)∉binds)->bindC kindOf binds m x=m x
 | [],_,_=>rfl
 | (n,v)::r,m,h=>by
   unfold bindC;rw[f_h λw hw=>h w (o_R _ hw)];split
   ·rfl
   ·have:x≠n:=by rintro rfl;exact h v o_S
    simp[this]
theorem e_O {kindOf:Str->Option NameKind} {x:Str} {v:Value}:∀{P:List Str} {vs:List Value} {i:Nat} {m:Str->Option Value},P.Nodup->P[i]? =some x->vs[i]? =some v->kindOf x=some .local->
 bindL kindOf (P.zip vs) m x=some v
 | [],_,_,_,_,h,_,_=>by simp at h
 | _::_, [],_,_,_,_,h,_=>by simp at h
 | p::P,w::vs,0,m,nd,h1,h2,hk=>by
   simp at h1 h2;subst h1;subst h2;show bindL kindOf ((p,w)::P.zip vs) m p=_;unfold bindL;rw[e_8 λv hv=>(p_i.mp nd).1 (List.of_mem_zip hv).1,if_pos hk];simp
 | p::P,w::vs,i+1,m,nd,h1,h2,hk=>by
   show bindL kindOf ((p,w)::P.zip vs) m x=_;unfold bindL;exact e_O (i:=i) (p_i.mp nd).2 (by simpa using h1) (by simpa using h2) hk
theorem e_3 {kindOf:Str->Option NameKind} {x:Str} {v:Value}:∀{P:List Str} {vs:List Value} {i:Nat} {m:Str->Option Value},P.Nodup->P[i]? =some x->vs[i]? =some v->kindOf x≠some .local->
 bindC kindOf (P.zip vs) m x=some v
 | [],_,_,_,_,h,_,_=>by simp at h
 | _::_, [],_,_,_,_,h,_=>by simp at h
 | p::P,w::vs,0,m,nd,h1,h2,hk=>by
   simp at h1 h2;subst h1;subst h2;show bindC kindOf ((p,w)::P.zip vs) m p=_;unfold bindC;rw[f_h λv hv=>(p_i.mp nd).1 (List.of_mem_zip hv).1,if_neg hk];simp
 | p::P,w::vs,i+1,m,nd,h1,h2,hk=>by
   show bindC kindOf ((p,w)::P.zip vs) m x=_;unfold bindC;exact e_3 (i:=i) (p_i.mp nd).2 (by simpa using h1) (by simpa using h2) hk
def start (N:List Str) (vs:List V):St:=vs.map some++List.replicate (N.length - vs.length) none
def g_P (CX:CXT) (P:Program) (w:World) (K:PySem.W.Frag) (mg:Str->Option Value) (base:Heap) (N:List Str) (qual:Str) (scope:Scope) (f:Addr) (cd:Value) (A:Around) (outer:List Env) (s:Shared) (H:Hp) (E:XK):Cx where
 prog:=P
 w:=w
 K:=K
 mg:=mg
 base:=base
 A:=A.deeper (envOfC qual scope s.heap.objs.size f cd)
 N:=N
 s₀:=s
 H₀:=H
 env:=envOfC qual scope s.heap.objs.size f cd
 outer:=outer
 stack:=envOfC qual scope s.heap.objs.size f cd::outer
 ex:= []
 calm:=true
 fn:=λ_=>true
 pn:= []
 xe:=λe s'=>wpAny (model P w) (A.deeper (envOfC qual scope s.heap.objs.size f cd)) (leaving (envOfC qual scope s.heap.objs.size f cd) e) (λ_ s''=>CX outer H s E e s'') (λe' s''=>CX outer H s E e' s'') s'
theorem g_y {sc:Scope} {n:Nat} {x:Str} (h:sc.names.lookup x=some .cell):∃c,(cellsFrom n sc.names []).lookup x=some c:=by
 have q:=PySem.W.cellsFrom_some sc.names n [] (.inl h);exact Option.isSome_iff_exists.mp q
theorem i_F {CX:CXT} {P:Program} {w:World} {K:PySem.W.Frag} {mg:Str->Option Value} {base:Heap} {N ps:List Str} {qual:Str} {scope:Scope} {f:Addr} {cd:Value} {A:Around} {outer:List Env} {s s1:Shared} {H:Hp} {E:XK} {us:List Value} {vs:List V}
 (S:a_s N ps scope) (hd:A.handled=none) (e0:Env0 P w K mg base A outer s H) (hl:vs.length=ps.length) (r:Vals vs us)
 (x:InCallC s s.heap.objs.size (bindL (envOfC qual scope s.heap.objs.size f cd).kindOf (ps.zip us) λ_=>none) (cellsFrom (s.heap.objs.size+1) scope.names []) (bindC (envOfC qual scope s.heap.objs.size f cd).kindOf (ps.zip us) λ_=>none) s1):
 Inv (g_P CX P w K mg base N qual scope f cd A outer s H E) [] (start N vs) H s1:=by
 have d:ps.length<=N.length:=by have:=congrArg List.length S.pre;rw[p_a] at this;omega
 obtain⟨h1,tk,rfl,hk⟩:=x.done;have noA:∀b:Addr,b∉(g_P CX P w K mg base N qual scope f cd A outer s H E).ex:=λb z=>absurd (show b∈([]:List Addr) from z) (by simp)
 refine⟨⟨e0.mod,S.kind,rfl,rfl,o_X _,λy z c h1 h2=> ?_, λy hy=> ?_, λy c _ h=> ?_, λ_=>hd,Around.frames_deeper e0.frames,.inr ⟨rfl,rfl⟩,λb z=>absurd z (noA b),e0.bs,e0.bsz,λb _ _=>noA b,λb z=>absurd z (noA b),e0.funs,e0.frf⟩,
  rfl,e0.bare,Un.kept hk,⟨_,x.toInCall.ns,λi y v h1 h2 h3=> ?_⟩,λy c h=>⟨_,x.cell y c h⟩,e0.hok.fresh (o_X _),λy c h=> ?_, λp hp=>absurd (show p∈([]:List (Addr×Obj)) from hp) (by simp),e0.hok.kept hk,?_⟩
 ·exact name_of_addr x.apart (PySem.mem_of_lookup h1) (PySem.mem_of_lookup h2)
 ·have hy:scope.names.lookup y=some .cell\/scope.names.lookup y=some .free:=hy
  rcases hy with hy | hy
  ·exact g_y hy
  ·exact absurd rfl (S.nofree _ (PySem.mem_of_lookup hy))
 ·exact Nat.le_of_lt (x.above y c (PySem.mem_of_lookup h))
 ·have hi:i < vs.length:=by
   unfold start at h2;by_cases hi:i < vs.length
   ·exact hi
   ·rw[List.getElem?_append_right (by simpa using hi)] at h2
    rw[List.getElem?_replicate] at h2
    split at h2 <;> cases h2
  have ha:vs[i]? =some v:=by
   unfold start at h2;rw[List.getElem?_append_left (by simpa using hi),o_0] at h2;cases e:vs[i]? with
   | none=>rw[e] at h2;cases h2
   | some a=>rw[e] at h2;cases h2;rfl
  obtain⟨u,hu,rv⟩:=r.get ha
  have hp:ps[i]? =some y:=by
   rw[<-S.pre,List.getElem?_take_of_lt (by omega)];exact h1
  have ndP:ps.Nodup:=by rw[<-S.pre];exact S.nd.sublist (List.take_sublist _ _)
  refine⟨u,rv,?_⟩;rcases S.par y (p_e hp) with k | k
  ·exact .inl ⟨k,e_O ndP hp hu k⟩
  ·obtain⟨c,e⟩:=g_y (n:=s.heap.objs.size+1) k
   refine .inr ⟨.inl k,c,e,?_⟩;have q:=x.cell y c e;rw[e_3 ndP hp hu (by show scope.names.lookup y≠_;rw[k];decide)] at q;exact q
 ·exact e0.hok.fresh (Nat.le_of_lt (x.above y c (PySem.mem_of_lookup h)))
 ·unfold start
  show _=N.length;rw[o_Q,o_O,List.length_replicate];omega
theorem m_0 {CX:CXT} {P:Program} {w:World} {K:PySem.W.Frag} {mg:Str->Option Value} {base:Heap} {k:Nat} {f:Addr} {name qual:Str} {params:Arguments} {body:List Stmt} {scope:Scope} {dV kV doc pm cdv ct oc:Value} {an od:Option Addr}
 {osl:Array (Option Value)} {N ps:List Str} {sp:Sp} (lk:K.lookup f=some ⟨oc,od,.func (PySem.W.fnOf name qual params body scope dV kV doc pm an cdv ct),osl⟩) (hcd:PySem.W.codeIn K cdv qual=true) (S:a_s N ps scope)
 (len:∀vs H Q E,sp vs H Q E->vs.length=ps.length)
 (hbody:∀(A:Around) (outer:List Env) (s:Shared) (H:Hp) (vs:List V) (Q:VK) (E:XK),Room k (A.deeper (envOfC qual scope s.heap.objs.size f cdv))→sp vs H Q E→
   ∃t,PSs (g_P CX P w K mg base N qual scope f cdv A outer s H E) body t/\t { nx:=λ_ H'=>Q .non H',rt:=Q } (start N vs) H):
 FnOk P w K mg base CX (k+1) f (PySem.W.fnOf name qual params body scope dV kV doc pm an cdv ct) ps sp:=by
 refine⟨len,λA outer s H args us vs Q E hr e0 hb r c=> ?_⟩;have hl:=len _ _ _ _ c;have KX:K.In s.heap:=e0.mod.kin.keeps λb o e=>(e0.bs b o e).1;have lim:s.heap.NoLimit:=e0.mod.nolimit.keeps λb o e=>(e0.bs b o e).1
 have a:∀y∈ps.zip us,scope.names.lookup y.1=some .local\/(scope.names.lookup y.1=some .cell/\((cellsFrom (s.heap.objs.size+1) scope.names []).lookup y.1).isSome=true):=λ⟨n,v⟩ hy=>by
  rcases S.par n (List.of_mem_zip hy).1 with q | q
  ·exact .inl q
  ·exact .inr ⟨q,PySem.W.cellsFrom_some _ _ _ (.inl q)⟩
 refine codeAny_call_function hr.depth (KX _ _ lk) rfl S.co S.gen rfl (PySem.W.codeRec_of KX hcd) (hb _ _ _ _ ?_);refine wpAny_newFunctionEnv_cells S.kind a λenv he s1 x=> ?_;subst he;refine⟨lim.keeps x.toInCall.keep,codeAny_func ?_⟩;obtain⟨t,ht,hq⟩:=hbody A outer s H vs Q E (hr.deeper _) c;have I:Inv (g_P CX P w K mg base N qual scope f cdv A outer s H E) [] (start N vs) H s1:=i_F S hr.hd e0 hl r x;refine wpAny_mono (ht [] s1 (start N vs) H _ I hq) (λfl s' hs=> ?_) λe s' hs=>hs
 have fin:∀{σ':St} {H':Hp} {v:V} {u:Value},Inv (g_P CX P w K mg base N qual scope f cdv A outer s H E) [] σ' H' s'->RelV v u->Q v H'->CE outer P w H s Q u s':=
  λ{σ' H' v u} J rv q=>⟨v,H',J.os,J.bare,J.base,J.hok,rv,q⟩
 cases fl with
 | ret u=>
   obtain⟨v,σ',H',J,rv,q⟩:=hs;exact fin J rv q
 | next=>
   obtain⟨σ',H',J,q⟩:=hs;exact fin (v:=V.non) (u:=Value.none) J rfl q
 | brk=>
   obtain⟨_,_,_,q⟩:=hs;exact False.elim q
 | cont=>
   obtain⟨_,_,_,q⟩:=hs;exact False.elim q
section
variable {X:Cx} {x:Str} {p pos:Pos} {e:Expr} {es:List Expr} {t:TA} {id T:String} {r:List V->Hp->VK->Prop}
def tCB (r:List V->Hp->VK->Prop) (t:TA):TE:=λσ H Q=>t σ H λvs H1=>r vs H1 Q
theorem a_r (hc:d_z X (.builtin id) r) (hg:Gl X x) (hm:X.mg x=none) (hv:bootBuiltins x=some (.builtin id)) (ha:PA X (e::es) t) (hn:x≠"__name__":=by decide) (hdb:(x == ("__debug__":Str))=false:=by decide)
 (he:starEach (e::es) X.env=(false,eval e X.env)::starEach es X.env:=by rfl) (hpl:(backTo pos (starEach es X.env)).any (·.1)=false:=by rfl):PE X (.Call (.Name x p) (e::es) [] pos) (tCB r t):=by
 intro pins s σ H Q I h;refine wpAny_Call_Name_kw (e_z I hg hm hv ?_ hn hdb);exact PyProof.Rows.callWith_builtin1 (thn (ha pos pins s σ H _ I h) λus s1 ⟨vs,H1,I1,r1,q1⟩=>hc pins s1 σ H1 vs us Q I1 r1 q1) he hpl
theorem a_K (hc:d_z X (.type T) r) (hg:Gl X x) (hm:X.mg x=none) (hv:bootBuiltins x=some (.type T)) (ha:PA X (e::es) t) (hn:x≠"__name__":=by decide) (hdb:(x == ("__debug__":Str))=false:=by decide)
 (he:starEach (e::es) X.env=(false,eval e X.env)::starEach es X.env:=by rfl) (hpl:(backTo pos (starEach es X.env)).any (·.1)=false:=by rfl):PE X (.Call (.Name x p) (e::es) [] pos) (tCB r t):=by
 intro pins s σ H Q I h;refine wpAny_Call_Name_kw (e_z I hg hm hv ?_ hn hdb);exact PyProof.Rows.callWith_type1 (thn (ha pos pins s σ H _ I h) λus s1 ⟨vs,H1,I1,r1,q1⟩=>hc pins s1 σ H1 vs us Q I1 r1 q1) he hpl
end
end L2
namespace HT
open PySem PyProof.Rows
section
open PySem.SeqAt
open PySem.AutoSeq1 (wpAny_loadPart')
open PySem.MeetsSeq PySem.MeetsSeq2 PySem.MeetsSeq3
end
section
variable {prog:Program} {w:World} {A:Around} {E:Value->Shared->Prop} {s:Shared}
def sIx (n d:Nat):Option Int->Nat
 | none=>d
 | some v=>if v < 0 then (v+(n:Int)).toNat else min v.toNat n
theorem sIx_none (n d:Nat):sIx n d none=d:=rfl
theorem sIx_nat (n d k:Nat):sIx n d (some (k:Int))=min k n:=by
 show (if (k:Int) < 0 then ((k:Int)+(n:Int)).toNat else min (k:Int).toNat n)=min k n;rw[if_neg (by omega),Int.toNat_natCast]
end
end HT
namespace L2
open PySem PySem.Spec PyProof.Rows
abbrev TO:=St->Hp->(Option Int->Hp->Prop)->Prop
def PO (X:Cx) (e:Option Expr) (t:TO):Prop:=
 ∀(pins:List (Addr×Obj)) (s:Shared) (σ:St) (H:Hp) (Q:Option Int->Hp->Prop),Inv X pins σ H s->t σ H Q->
  wpAny (model X.prog X.w) X.A (evalPart e X.env) (λu s'=>∃o H',Inv X pins σ H' s'/\IsPart u o/\Q o H') X.xe s
def l_w:TO:=λ_ H Q=>Q none H
def n_J (t:TE):TO:=λσ H Q=>t σ H λx H1=>∃i,x= .int i/\Q (some i) H1
section
variable {X:Cx} {e:Expr} {te:TE} {lo hi:Option Expr} {tl th:TO} {pos p2:Pos}
theorem d_i:PO X none l_w:=by
 intro pins s σ H Q I h;rw[evalPart_none];exact wpAny_pure ⟨none,H,I,.none,h⟩
theorem d_D (h:PE X e te):PO X (some e) (n_J te):=by
 intro pins s σ H Q I hw;rw[evalPart_some];refine thn (h pins s σ H _ I hw) λu s1 ⟨x,H1,I1,r1,q1⟩=> ?_;obtain⟨i,rfl,q⟩:=q1;obtain⟨t,rfl⟩:=r1;exact⟨some i,H1,I1,.int i t,q⟩
def SlR (X:Cx) (r:V->Option Int->Option Int->Hp->VK->Prop):Prop:=
 ∀(pins:List (Addr×Obj)) (s:Shared) (σ:St) (H:Hp) (x:V) (v vl vu:Value) (lo hi:Option Int) (sl:Addr) (Q:VK),Inv X pins σ H s->RelV x v->s.heap.IsSliceOf sl vl vu .none->IsPart vl lo->IsPart vu hi->r x lo hi H Q->
  ∃T id,typeLookup (.type T) "__getitem__"=pure (some (.builtin id))/\s.TypeIs v T/\wpAny (model X.prog X.w) X.A (getItem v (.ref sl)) (EP X pins σ Q) X.xe s
def tSl (r:V->Option Int->Option Int->Hp->VK->Prop) (te:TE) (tl th:TO):TE:=λσ H Q=>te σ H λx H1=>tl σ H1 λl H2=>th σ H2 λu H3=>r x l u H3 Q
theorem c_u {r:V->Option Int->Option Int->Hp->VK->Prop} (hr:SlR X r) (he:PE X e te) (hl:PO X lo tl) (hu:PO X hi th):PE X (.Subscript e (.Slice lo hi none p2) pos) (tSl r te tl th):=by
 intro pins s σ H Q I h;refine Subscript_ (thn (he pins s σ H _ I h) λv s1 ⟨x,H1,I1,r1,q1⟩=> ?_);refine wpAny_Slice (thn (hl pins s1 σ H1 _ I1 q1) λvl s2 ⟨l,H2,I2,pl,q2⟩=>thn (hu pins s2 σ H2 _ I2 q2) λvu s3 ⟨u,H3,I3,pu,q3⟩=> ?_);rw[evalPart_none];refine wpAny_pure ?_;have I4:Inv X pins σ H3 { s3 with heap:=s3.heap.push { cls:= .type "slice",data:= .fields #[vl,vu,.none] } }:=I3.kept (t':=s3.toks) λb ob q=>Heap.get?_push_of_some _ q;obtain⟨T,id,hT,ht,hg⟩:=hr pins { s3 with heap:=s3.heap.push { cls:= .type "slice",data:= .fields #[vl,vu,.none] } } σ H3 x v vl vu l u s3.heap.objs.size Q I4 r1 (Heap.IsSliceOf.new ..) pl pu q3;show wpAny (model X.prog X.w) X.A (subscriptTail e (.Slice lo hi none p2) v (.ref s3.heap.objs.size)) (EP X pins σ Q) X.xe { s3 with heap:=s3.heap.push { cls:= .type "slice",data:= .fields #[vl,vu,.none] } };exact tail_any (ops:= [.ref s3.heap.objs.size,v]) ht hT hg (by with_unfolding_all rfl)
def h_9 (xs:List V) (lo hi:Option Int):List V:=(xs.drop (HT.sIx xs.length 0 lo)).take (HT.sIx xs.length xs.length hi - HT.sIx xs.length 0 lo)
theorem f_G (xs:List V) (lo hi:Option Int):(h_9 xs lo hi).length<=xs.length:=by
 unfold h_9;rw[p_a,List.length_drop];omega
end
def ixN (n:Nat) (i:Int):Option Nat:=if 0<=i then (if i < n then some i.toNat else none) else if -(n:Int)<=i then some (i+n).toNat else none
def atI {α:Type} (xs:List α) (i:Int):Option α:=(ixN xs.length i).bind λj=>xs[j]?
theorem h_G {n:Nat} {i:Int} {j:Nat} (h:ixN n i=some j):seqIndex? i n=some j/\j < n/\-(n:Int)<=i/\i < n:=by
 unfold ixN at h;by_cases h0:0<=i
 ·rw[if_pos h0] at h
  by_cases h1:i < n
  ·rw[if_pos h1] at h
   have e:i.toNat=j:=o_V h;exact⟨by rw[seqIndex_of h0 h1,e],by omega,by omega,h1⟩
  ·rw[if_neg h1] at h;cases h
 ·rw[if_neg h0] at h
  by_cases h1: -(n:Int)<=i
  ·rw[if_pos h1] at h
   have e:(i+n).toNat=j:=o_V h;exact⟨by rw[seqIndex_neg (by omega) h1,e],by omega,h1,by omega⟩
  ·rw[if_neg h1] at h;cases h
theorem f_Z {α:Type} {xs:List α} {i:Int} {v:α} (h:atI xs i=some v):∃j,seqIndex? i xs.length=some j/\xs[j]? =some v/\j < xs.length/\-(xs.length:Int)<=i/\i < xs.length:=by
 unfold atI at h;cases e:ixN xs.length i with
 | none=>rw[e] at h;cases h
 | some j=>
   rw[e] at h;obtain⟨h1,h2,h3,h4⟩:=h_G e;exact⟨j,h1,h,h2,h3,h4⟩
theorem a_g {α:Type} {xs:List α} {j:Nat} {v:α} (h:xs[j]? =some v):atI xs (j:Int)=some v:=by
 have hj:j < xs.length:=(o_2.mp h).1
 have e:ixN xs.length (j:Int)=some j:=by
  unfold ixN;rw[if_pos (by omega),if_pos (by omega)];simp
 unfold atI;rw[e];exact h
theorem j_w {α:Type} (xs:List α) (v:α):atI (xs++ [v]) (-1)=some v:=by
 have hl:(xs++ [v]).length=xs.length+1:=by simp
 have e:ixN (xs++ [v]).length (-1)=some xs.length:=by
  unfold ixN;rw[hl,if_neg (by decide),if_pos (by omega)];congr 1;omega
 unfold atI;rw[e];show (xs++ [v])[xs.length]? =some v;simp
def f_A (b:Expr):Prop:=∀o i,subscripted b false o i=operate [o,i] (getItem o i)
def IxR (X:Cx) (r:R2):Prop:=
 ∀(value slice:Expr) (pins:List (Addr×Obj)) (s:Shared) (σ:St) (H:Hp) (x y:V) (v u:Value) (Q:VK),Inv X pins σ H s->RelV x v->RelV y u->r x y H Q->
  subscripted slice false v u=operate [v,u] (getItem v u)->wpAny (model X.prog X.w) X.A (subscriptTail value slice v u) (EP X pins σ Q) X.xe s
def MtR (X:Cx) (id:String) (r:V->List V->Hp->VK->Prop):Prop:=
 ∀(pins:List (Addr×Obj)) (s:Shared) (σ:St) (H:Hp) (x:V) (xs:List V) (v:Value) (us:List Value) (Q:VK),Inv X pins σ H s->RelV x v->Vals xs us->r x xs H Q->
  wpAny (model X.prog X.w) X.A (call (.builtin id) (v::us)) (EP X pins σ Q) X.xe s
section
variable {X:Cx} {a b:Expr} {ta tb:TE} {pos:Pos}
theorem MtR.or {id:String} {r r':V->List V->Hp->VK->Prop} (h:MtR X id r) (h':MtR X id r'):MtR X id (λx xs H Q=>r x xs H Q\/r' x xs H Q):=by
 intro pins s σ H x xs v us Q I rx rs q;rcases q with q | q
 ·exact h pins s σ H x xs v us Q I rx rs q
 ·exact h' pins s σ H x xs v us Q I rx rs q
theorem a_v {r:R2} (hr:IxR X r) (ha:PE X a ta) (hb:PE X b tb) (hs:f_A b):PE X (.Subscript a b pos) (tOp r ta tb):=by
 intro pins s σ H Q I h;exact Subscript_ (n_Z ha hb I h λv u s2 x y H2 I2 rx ry q=>hr a b pins s2 σ H2 x y v u Q I2 rx ry q (hs _ _))
def o_H (K:PySem.W.Frag):R2:=λx y H Q=>∃p xs i v,x= .ref p/\y= .int i/\SqL K H p xs/\atI xs i=some v/\Q v H
def n_3 (K:PySem.W.Frag):R2:=λx y H Q=>∃p xs i v,x= .ref p/\y= .int i/\SqT K H p xs/\atI xs i=some v/\Q v H
def o_w:R2:=λx y H Q=>∃z i c,x= .str z/\y= .int i/\z.length<=sizeLine/\atI z.cps.toList i=some c/\Q (.str ⟨#[c]⟩) H
theorem a_M:IxR X (o_H X.K):=by
 intro value slice pins s σ H x y v u Q I rx ry h hs;obtain⟨p,xs,i,z,rfl,rfl,hq,he,q⟩:=h;cases rx;obtain⟨t,rfl⟩:=ry;obtain⟨its,r,pl,hz⟩:=I.list hq;obtain⟨j,h1,h2,h3,h4,h5⟩:=f_Z he;obtain⟨w,ew,rw'⟩:=r.get h2;have hl:=r.length;have hn:=c_9;have fin:EP X pins σ Q w s:=⟨z,H,I,rw',q⟩;by_cases h0:0<=i
 ·have hj:i.toNat=j:=by
   rw[seqIndex_of h0 h5] at h1;exact o_V h1
  exact item_listR pl.isList h0 (by omega) (by rw[hj];simpa using ew) fin hs
 ·have hj:(i+(its.toArray.size:Int)).toNat=j:=by
   rw[seqIndex_neg (by omega) h4] at h1;rw[o_Y,<-hl];exact o_V h1
  exact subscriptTail_builtinR (x:=w) pl.isList.typeIs slot_list_getitem.lookup
   (wpAny_getItem_list_neg (Q:=λr s'=>r=w/\EP X pins σ Q r s') pl.isList (by omega) (by rw[o_Y] <;> omega) (by omega) (by rw[hj];simpa using ew) ⟨rfl,fin⟩) hs
theorem a_t:IxR X (n_3 X.K):=by
 intro value slice pins s σ H x y v u Q I rx ry h hs;obtain⟨p,xs,i,z,rfl,rfl,hq,he,q⟩:=h;cases rx;obtain⟨t,rfl⟩:=ry;obtain⟨its,r,pl,hz⟩:=I.tuple hq;obtain⟨j,h1,h2,h3,h4,h5⟩:=f_Z he;obtain⟨w,ew,rw'⟩:=r.get h2;have hl:=r.length;have hn:=c_9;have fin:EP X pins σ Q w s:=⟨z,H,I,rw',q⟩
 exact subscriptTail_builtinR (x:=w) pl.typeIs slot_tuple_getitem.lookup
  (getItem_tuple (j:=j) (Q:=λr s'=>r=w/\EP X pins σ Q r s') pl (by omega) (by omega) (by rw[o_Y,<-hl];exact h1) (by simpa using ew) ⟨rfl,fin⟩) hs
theorem g_2 (its:List Value) (n j:Nat) (u:Value):Obj.mapSeq (·.setIfInBounds j u) { cls:= .type "list",data:= .seq its.toArray n }={ cls:= .type "list",data:= .seq (its.set j u).toArray n }:=by
 simp[Obj.mapSeq]
theorem Inv.lst {pins:List (Addr×Obj)} {σ:St} {H:Hp} {s:Shared} {p:Addr} {xs:List V} (I:Inv X pins σ H s) (h:H p=some (.lst xs)):
 ∃(its:List Value) (n:Nat),Vals xs its/\s.heap.get? p=some { cls:= .type "list",data:= .seq its.toArray n }/\xs.length<=sizeLine:=by
 obtain⟨z,its,n,r,e⟩:=I.hok p _ h;exact⟨its,n,r,e,z⟩
theorem Inv.lstUpd {pins:List (Addr×Obj)} {σ:St} {H:Hp} {s:Shared} {p:Addr} {xs ys:List V} {its its':List Value} {n n':Nat} {f:Obj->Obj} (I:Inv X pins σ H s) (h:H p=some (.lst xs))
 (ho:s.heap.get? p=some { cls:= .type "list",data:= .seq its.toArray n }) (hf:f { cls:= .type "list",data:= .seq its.toArray n }={ cls:= .type "list",data:= .seq its'.toArray n' }) (r:Vals ys its') (hz:ys.length<=sizeLine) (t:Nat):
 Inv X pins σ (upd H p (.lst ys)) { s with heap:=s.heap.update p f,toks:=t }:=by
 have e:(s.heap.update p f).get? p=some { cls:= .type "list",data:= .seq its'.toArray n' }:=by
  rw[Heap.get?_update_self f ho (by rw[hf] <;> rfl),hf]
 refine I.write (x:=p) (e:=p) (by rw[h];trivial) (.inl rfl) (λb u hb q=>(Heap.get?_update_other _ _ (Ne.symm hb)).trans q) ⟨_,e⟩ ?_;exact⟨hz,its',n',r,e⟩
def n_V:V->V->V->Hp->(Hp->Prop)->Prop:=λo i v H Q=>∃p xs k j,o= .ref p/\i= .int k/\H p=some (.lst xs)/\ixN xs.length k=some j/\Q (upd H p (.lst (xs.set j v)))
theorem f_7:n_7 X n_V:=by
 intro pins s σ H o i v ov iv u Q I ro ri rv h;obtain⟨p,xs,k,j,rfl,rfl,hp,hj,q⟩:=h;cases ro;obtain⟨t,rfl⟩:=ri;obtain⟨its,n,r,ho,hz⟩:=I.lst hp;obtain⟨h1,h2,h3,h4⟩:=h_G hj;have hl:=r.length;have hn:=c_9
 have I':Inv X pins σ (upd H p (.lst (xs.set j v))) { s with heap:=s.heap.update p (Obj.mapSeq (·.setIfInBounds j u)) }:=
  I.lstUpd hp ho (g_2 its n j u) (r.set rv j) (by rw[List.length_set];exact hz) s.toks
 by_cases h0:0<=k
 ·have hk:k.toNat=j:=by
   rw[seqIndex_of h0 h4] at h1;exact o_V h1
  exact PySem.W.ki_setAt ho h0 (by omega) (by rw[o_Y,<-hl];exact h4) (by rw[hk];exact⟨_,I',q⟩)
 ·have hk:(k+(its.toArray.size:Int)).toNat=j:=by
   rw[seqIndex_neg (by omega) h3] at h1;rw[o_Y,<-hl];exact o_V h1
  exact PySem.W.ki_setBack ho (by omega) (by rw[o_Y,<-hl];exact h3) (by omega) (by rw[hk];exact⟨_,I',q⟩)
theorem e_4 (lo hi:Option Int) (n:Nat):(sliceBounds lo hi none n).1=((HT.sIx n 0 lo:Nat):Int)/\(sliceBounds lo hi none n).2.1=((HT.sIx n n hi:Nat):Int)/\(sliceBounds lo hi none n).2.2=1:=by
 refine⟨?_, ?_, rfl⟩
 ·cases lo with
  | none=>simp[sliceBounds,HT.sIx]
  | some i=>
    simp only[sliceBounds,HT.sIx,Option.getD_none,show (1:Int) > 0 by decide,if_true];by_cases h:i < 0
    ·simp only[h,if_true] <;> omega
    ·simp only[h,if_false] <;> omega
 ·cases hi with
  | none=>simp[sliceBounds,HT.sIx]
  | some i=>
    simp only[sliceBounds,HT.sIx,Option.getD_none,show (1:Int) > 0 by decide,if_true];by_cases h:i < 0
    ·simp only[h,if_true] <;> omega
    ·simp only[h,if_false] <;> omega
theorem d_6 (its:List Value) (lo hi:Option Int):slicePick its.toArray lo hi none=((its.drop (HT.sIx its.length 0 lo)).take (HT.sIx its.length its.length hi - HT.sIx its.length 0 lo)).toArray:=by
 obtain⟨h1,h2,h3⟩:=e_4 lo hi its.toArray.size;unfold slicePick;rw[h1,h2,h3]
 simp only[sliceRange_one,pick_run,o_Y] <;> rfl
def o_L (K:PySem.W.Frag):V->Option Int->Option Int->Hp->VK->Prop:=λx lo hi H Q=>∃a xs,x= .ref a/\SqL K H a xs/\∀p,H p=none->Q (.ref p) (upd H p (.lst (h_9 xs lo hi)))
theorem f_U:SlR X (o_L X.K):=by
 intro pins s σ H x v vl vu lo hi sl Q I rx hs pl pu h;obtain⟨a,xs,rfl,hx,q⟩:=h;cases rx;obtain⟨its,r,ht,hz⟩:=I.list hx;have c:=r.length;refine⟨"list",_,slot_list_getitem.lookup,ht.isList.typeIs,?_⟩
 refine wpAny_getItem_list_slice ht.isList hs pl pu .none (by simp) ?_ (by rw[o_Y] <;> omega)
 rw[d_6,<-c];refine⟨.ref s.heap.objs.size,_,I.laid (t':=s.toks) (o:= .lst (h_9 xs lo hi)) (λb ob q=>Heap.get?_push_of_some _ q) (o_X _) ?_, rfl,q _ (I.hok.fresh (o_X _))⟩;exact⟨o_9 (f_G xs lo hi) hz,_,0,(r.drop (HT.sIx xs.length 0 lo)).take (HT.sIx xs.length xs.length hi - HT.sIx xs.length 0 lo),Heap.get?_push_size _ rfl⟩
def e_Y:V->Bool
 | .non=>true
 | .bl _=>true
 | .int _=>true
 | .str _=>true
 | _=>false
def eqV:V->V->Bool
 | .non,.non=>true
 | .bl a,.bl b=>a == b
 | .bl a,.int b=>(if a then 1 else 0) == b
 | .int a,.bl b=>a == (if b then 1 else 0)
 | .int a,.int b=>a == b
 | .str a,.str b=>a == b
 | _,_=>false
theorem j_8 {A:Around} {s:Shared} {y x:V} {u v:Value} (ry:RelV y u) (rx:RelV x v) (fy:e_Y y=true) (fx:e_Y x=true):SeqAt.EqAt A s u v (eqV y x):=by
 cases y with
 | non=>
   cases ry;cases x with
   | non=>cases rx;exact SeqAt.EqAt.same _
   | bl b=>cases rx;exact SeqAt.EqAt.none_bool b
   | int b=>obtain⟨t,rfl⟩:=rx;exact SeqAt.EqAt.none_int b t
   | str b=>obtain⟨t,rfl⟩:=rx;exact SeqAt.EqAt.none_str b t
   | _=>exact absurd (show false=true from fx) o_5
 | bl a=>
   cases ry;cases x with
   | non=>cases rx;exact SeqAt.EqAt.bool_none a
   | bl b=>cases rx;exact SeqAt.EqAt.bool_bool a b
   | int b=>obtain⟨t,rfl⟩:=rx;exact SeqAt.EqAt.bool_int a b t
   | str b=>obtain⟨t,rfl⟩:=rx;exact SeqAt.EqAt.bool_str a b t
   | _=>exact absurd (show false=true from fx) o_5
 | int a=>
   obtain⟨t',rfl⟩:=ry;cases x with
   | non=>cases rx;exact SeqAt.EqAt.int_none a t'
   | bl b=>cases rx;exact SeqAt.EqAt.int_bool a t' b
   | int b=>obtain⟨t,rfl⟩:=rx;exact SeqAt.EqAt.int_int a t' b t
   | str b=>obtain⟨t,rfl⟩:=rx;exact SeqAt.EqAt.int_str a t' b t
   | _=>exact absurd (show false=true from fx) o_5
 | str a=>
   obtain⟨t',rfl⟩:=ry;cases x with
   | non=>cases rx;exact SeqAt.EqAt.str_none a t'
   | bl b=>cases rx;exact SeqAt.EqAt.str_bool a t' b
   | int b=>obtain⟨t,rfl⟩:=rx;exact SeqAt.EqAt.str_int a t' b t
   | str b=>obtain⟨t,rfl⟩:=rx;exact SeqAt.EqAt.str_str a t' b t
   | _=>exact absurd (show false=true from fx) o_5
 | _=>exact absurd (show false=true from fy) o_5
def eqU (x:V) (u:Value):Bool:=match u with
 | .none=>eqV .non x
 | .bool b=>eqV (.bl b) x
 | .int i _=>eqV (.int i) x
 | .str z _=>eqV (.str z) x
 | _=>false
theorem k_r {x y:V} {u:Value} (r:RelV y u) (f:e_Y y=true):eqU x u=eqV y x:=by
 cases y with
 | non=>cases r;rfl
 | bl b=>cases r;rfl
 | int i=>obtain⟨t,rfl⟩:=r;rfl
 | str z=>obtain⟨t,rfl⟩:=r;rfl
 | _=>exact absurd (show false=true from f) o_5
theorem f_T {x:V}:∀{xs:List V} {us:List Value},Vals xs us->xs.all e_Y=true->us.any (eqU x)=xs.any λy=>eqV y x
 | _,_,.nil,_=>rfl
 | y::xs,u::us,.cons r t,f=>by
   rw[List.all_cons,Bool.and_eq_true] at f;rw[List.any_cons,List.any_cons,k_r r f.1,f_T t f.2]
theorem e_d {A:Around} {s:Shared} {x:V} {v:Value} (rx:RelV x v) (fx:e_Y x=true):∀{xs:List V} {us:List Value},Vals xs us->xs.all e_Y=true->∀u∈us,SeqAt.EqAt A s u v (eqU x u)
 | _,_,.nil,_=>λu hu=>by cases hu
 | y::xs,u::us,.cons r t,f=>fun u' hu=>by
   rw[List.all_cons,Bool.and_eq_true] at f;rcases o_Z.mp hu with rfl | hu
   ·rw[k_r r f.1];exact j_8 r rx f.1 fx
   ·exact e_d rx fx t f.2 u' hu
def inV (x:V) (xs:List V):Bool:=xs.any λy=>eqV y x
def rIn (K:PySem.W.Frag) (neg:Bool):R2:=λx y H Q=>∃p xs,y= .ref p/\(SqL K H p xs\/SqT K H p xs)/\e_Y x=true/\xs.all e_Y=true/\Q (.bl (if neg then !inV x xs else inV x xs)) H
theorem d_f:OpR X (compareOp .In) (rIn X.K false):=by
 intro pins s σ H x y v u Q I rx ry h;obtain⟨p,xs,rfl,hq,fx,fs,q⟩:=h;cases ry;rcases hq with hq | hq
 ·obtain⟨its,r,pl,hz⟩:=I.list hq
  refine SeqAt.in_listAt (eqU x) pl.isList (λw hw=>e_d rx fx r fs w (by simpa using hw)) ⟨.bl _,H,I,rfl,?_⟩;rw[show its.toArray.any (eqU x)=its.any (eqU x) by simp,f_T r fs];exact q
 ·obtain⟨its,r,pl,hz⟩:=I.tuple hq
  refine SeqAt.in_tupleAt (eqU x) pl (λw hw=>e_d rx fx r fs w (by simpa using hw)) ⟨.bl _,H,I,rfl,?_⟩;rw[show its.toArray.any (eqU x)=its.any (eqU x) by simp,f_T r fs];exact q
theorem a_x:d_z X (.builtin "len") (λxs H Q=>∃p ys,xs= [.ref p]/\(SqL X.K H p ys\/SqT X.K H p ys)/\Q (.int ys.length) H):=by
 intro pins s σ H xs us Q I r h;obtain⟨p,ys,rfl,hq,q⟩:=h;obtain⟨u,rfl,rx⟩:=g_N r;cases rx;have hn:=c_9;rcases hq with hq | hq
 ·obtain⟨its,r',pl,hz⟩:=I.list hq
  have a:=r'.length
  exact Calls.call_len_list pl.isList (by simp only[o_Y] <;> omega) ⟨.int ys.length,H,I.tok _,⟨s.toks+1,by rw[o_Y,a]⟩,q⟩
 ·obtain⟨its,r',pl,hz⟩:=I.tuple hq
  have a:=r'.length
  exact len_tuple pl (by simp only[o_Y] <;> omega) ⟨.int ys.length,H,I.tok _,⟨s.toks+1,by rw[o_Y,a]⟩,q⟩
theorem f_i:d_z X (.builtin "len") (λxs H Q=>∃z,xs= [.str z]/\z.length<=sizeLine/\Q (.int z.length) H):=by
 intro pins s σ H xs us Q I r h;obtain⟨z,rfl,hz,q⟩:=h;obtain⟨u,rfl,t,rfl⟩:=g_N r;have hn:=c_9;exact len_str (by omega) ⟨.int z.length,H,I.tok _,⟨_,rfl⟩,q⟩
theorem e_2:d_z X (.type "list") (λxs H Q=>∃p ys,xs= [.ref p]/\(SqL X.K H p ys\/SqT X.K H p ys)/\∀l,H l=none->Q (.ref l) (upd H l (.lst ys))):=by
 intro pins s σ H xs us Q I r h;obtain⟨p,ys,rfl,hq,q⟩:=h;obtain⟨u,rfl,rx⟩:=g_N r;cases rx
 have fin:∀(its:List Value),Vals ys its->ys.length<=sizeLine->∀(h':Heap) (c':Nat),(∀b o',s.heap.get? b=some o'->h'.get? b=some o')->
  h'.get? s.heap.objs.size=some { cls:= .type "list",dict:=none,data:= .seq its.toArray c',slots:= #[] }->EP X pins σ Q (.ref s.heap.objs.size) { s with heap:=h' }:=λits r' hz h' c' kp e=>
  ⟨.ref s.heap.objs.size,_,I.laid (t':=s.toks) kp (o_X _) (show ObjOk X.prog X.w _ h' _ (.lst ys) from ⟨hz,its,c',r',e⟩),rfl,q _ (I.hok.fresh (o_X _))⟩
 rcases hq with hq | hq
 ·obtain⟨its,r',pl,hz⟩:=I.list hq
  have a:=r'.length;obtain⟨o,ho,hc,n,hd⟩:=pl.isList
  exact call_list_seq p (.inl rfl) ho hc hd (λh' c' kp e=>fin its r' hz h' c' kp e) (by simp only[o_Y] <;> omega)
 ·obtain⟨its,r',pl,hz⟩:=I.tuple hq
  have a:=r'.length;obtain⟨o,ho,hc,n,hd⟩:=pl
  exact call_list_seq p (.inr rfl) ho hc hd (λh' c' kp e=>fin its r' hz h' c' kp e) (by simp only[o_Y] <;> omega)
def tyV (K:PySem.W.Frag) (T:String) (x:V) (H:Hp):Prop:=match x with
 | .str _=>T="str"
 | .int _=>T="int"
 | .ref p=>(T="list"∧∃xs,SqL K H p xs)∨(T="tuple"∧∃o,K.lookup p=some o∧o.cls= .type "tuple"∧o.dict=none)∨
    (T="dict"/\((∃kvs,H p=some (.dK kvs))\/∃kvs,H p=some (.dT kvs)))\/(T="set"/\∃S n,H p=some (.set S n))
 | _=>False
theorem k_l {pins:List (Addr×Obj)} {σ:St} {H:Hp} {s:Shared} {T:String} {x:V} {v:Value} (I:Inv X pins σ H s) (r:RelV x v) (ty:tyV X.K T x H):
 s.TypeIs v T/\∀a,v= .ref a->∃ob,s.heap.get? a=some ob/\ob.dict=none:=by
 cases x with
 | str z=>
   obtain⟨t,rfl⟩:=r;cases (show T="str" from ty);exact⟨typeIs_str s z t,λ_ e=>nomatch e⟩
 | int i=>
   obtain⟨t,rfl⟩:=r;cases (show T="int" from ty);exact⟨typeIs_int s i t,λ_ e=>nomatch e⟩
 | ref p=>
   cases r;rcases ty with⟨rfl,xs,hq⟩ | ⟨rfl,o,hk,hc,hd⟩ | ⟨rfl,hk⟩ | ⟨rfl,S,n,hk⟩
   ·obtain⟨its,_,pl,_⟩:=I.list hq
    refine⟨pl.isList.typeIs,λa e=> ?_⟩;cases e;obtain⟨o,n,e,c,hd,_⟩:=pl;exact⟨o,e,hd⟩
   ·refine⟨⟨o,I.kIn p o hk,hc⟩,λa e=> ?_⟩
    cases e;exact⟨o,I.kIn _ o hk,hd⟩
   ·have z:∃o,s.heap.get? p=some o∧o.ExactDict:=by
     rcases hk with⟨kvs,hk⟩ | ⟨kvs,hk⟩
     ·obtain⟨_,_,_,_,o,_,_,e,ex,_⟩:=I.hok p _ hk
      exact⟨o,e,ex⟩
     ·obtain⟨_,_,_,_,o,_,_,e,ex,_⟩:=I.hok p _ hk
      exact⟨o,e,ex⟩
    obtain⟨o,e,ex⟩:=z;refine⟨⟨o,e,ex.1⟩,λa e2=> ?_⟩;cases e2;exact⟨o,e,ex.2.1⟩
   ·obtain⟨o,_,_,_,e,ex,_⟩:=I.hok p _ hk
    refine⟨⟨o,e,ex.1⟩,λa e2=> ?_⟩;cases e2;exact⟨o,e,ex.2.1⟩
 | _=>exact False.elim ty
def o_r (K:PySem.W.Frag) (T:String) (r:V->List V->Hp->VK->Prop) (to:TE):TE:=λσ H Q=>to σ H λx H1=>tyV K T x H1/\r x [] H1 Q
def tBM (K:PySem.W.Frag) (T:String) (r:V->List V->Hp->VK->Prop) (to:TE) (t:TA):TE:=λσ H Q=>to σ H λx H1=>tyV K T x H1/\t σ H1 λxs H2=>r x xs H2 Q
variable {o e:Expr} {es:List Expr} {to:TE} {t:TA} {name:Str} {apos cpos:Pos} {T id:String} {r:V->List V->Hp->VK->Prop}
theorem d_a (pa:PlainAttrs T) (slot:Slot T name id) (hty:typeOf (.builtin id)=pure (.type "method_descriptor")) (hm:MtR X id r) (ho:PE X o to)
 (hbase:attributeBase o name X.env (eval o X.env)=eval o X.env:=by rfl) (hline:(apos.endLine == cpos.line)=true:=by rfl):PE X (.Call (.Attribute o name apos) [] [] cpos) (o_r X.K T r to):=by
 intro pins s σ H Q I h;refine wpAny_Call_method0_late hbase hline (thn (ho pins s σ H _ I h) λv s1 ⟨x,H1,I1,r1,ty,q1⟩=> ?_);obtain⟨h1,h2⟩:=k_l I1 r1 ty;exact⟨T,id,pa,slot,hty,h1,h2,Calls.callWith_builtin rfl (PySem.evalArgs_none (hm pins s1 σ H1 x [] v [] Q I1 r1 .nil q1))⟩
theorem b_Z (pa:PlainAttrs T) (slot:Slot T name id) (hty:typeOf (.builtin id)=pure (.type "method_descriptor")) (hm:MtR X id r) (ho:PE X o to) (ha:PA X (e::es) t)
 (hbase:attributeBase o name X.env (eval o X.env)=eval o X.env:=by rfl)
 (hfew:((backTo cpos (starEach (e::es) X.env)).all (fun x=> !x.1)&&(backToKw cpos (keywordEach [] X.env)).all (fun x=>x.1.isSome)
   &&decide ((e::es).length+([]:List Keyword).length+(if ([]:List Keyword).isEmpty then 0 else 1) < 30))=true:=by rfl)
 (hline:(apos.endLine == cpos.line)=true:=by rfl) (hs:starEach (e::es) X.env=(false,eval e X.env)::starEach es X.env:=by rfl) (hplain:(backTo cpos (starEach es X.env)).any (·.1)=false:=by rfl):
 PE X (.Call (.Attribute o name apos) (e::es) [] cpos) (tBM X.K T r to t):=by
 intro pins s σ H Q I h;refine wpAny_Call_method_late hbase hfew hline rfl (thn (ho pins s σ H _ I h) λv s1 ⟨x,H1,I1,r1,ty,q1⟩=> ?_);obtain⟨h1,h2⟩:=k_l I1 r1 ty;refine⟨T,id,pa,slot,hty,h1,h2,?_⟩;have hA:=ha cpos pins s1 σ H1 _ I1 q1;rw[hs] at hA ⊢
 refine Calls.callWith_builtin (by show (false||(backTo cpos (starEach es X.env)).any (·.1))=false;rw[hplain] <;> rfl) (Calls.evalArgs_plain ?_)
 exact thn hA λus s2 ⟨vs,H2,I2,r2,q2⟩=>hm pins s2 σ H2 x vs v us Q I2 r1 r2 q2
end
def MtM (X:Cx) (id:String) (r:V->List V->Hp->VK->Prop):Prop:=
 ∀(pins:List (Addr×Obj)) (s:Shared) (σ:St) (H:Hp) (x:V) (xs:List V) (v:Value) (us:List Value) (Q:VK),Inv X pins σ H s->RelV x v->Vals xs us->r x xs H Q->
  wpAny (model X.prog X.w) X.A (call (.builtin id) (v::us)) (EP X pins σ Q) X.xe s
theorem Vals.one:∀{x:V} {us:List Value},Vals [x] us->∃u,us= [u]/\RelV x u
 | _,_,.cons r .nil=>⟨_,rfl,r⟩
theorem Vals.two:∀{x y:V} {us:List Value},Vals [x,y] us->∃u v,us= [u,v]/\RelV x u/\RelV y v
 | _,_,_,.cons r (.cons q .nil)=>⟨_,_,rfl,r,q⟩
theorem Vals.zero:∀{us:List Value},Vals [] us->us= []
 | _,.nil=>rfl
theorem Vals.dropLast {xs:List V} {us:List Value} (h:Vals xs us):Vals xs.dropLast us.dropLast:=by
 induction h with
 | nil=>exact .nil
 | cons r t ih=>
   cases t with
   | nil=>exact .nil
   | cons q t'=>exact .cons r ih
theorem Vals.eraseIdx:∀{xs:List V} {us:List Value} (i:Nat),Vals xs us->Vals (xs.eraseIdx i) (us.eraseIdx i)
 | _,_,_,.nil=> .nil
 | _,_,0,.cons _ t=>t
 | _,_,i+1,.cons r t=> .cons r (Vals.eraseIdx i t)
theorem g_V {α:Type} (l:List α):l.eraseIdx (l.length - 1)=l.dropLast:=by
 induction l with
 | nil=>rfl
 | cons a r ih=>
   cases r with
   | nil=>rfl
   | cons b r=>
     have e:(a::b::r).length - 1=((b::r).length - 1)+1:=by
      have h1:(a::b::r).length=r.length+2:=rfl;have h2:(b::r).length=r.length+1:=rfl;omega
     rw[e,List.eraseIdx_cons_succ,ih]
     all_goals rfl
theorem d_b {α:Type}:∀(l:List α) (i:Nat),(l.eraseIdx i).length<=l.length
 | [],_=>o_X _
 | _::_,0=>Nat.le_succ _
 | _::r,i+1=>Nat.succ_le_succ (d_b r i)
section
variable {X:Cx} {pins:List (Addr×Obj)} {σ:St} {H:Hp} {s:Shared} {l b:Addr} {xs ys zs:List V}
theorem Inv.lset {its its':List Value} {n:Nat} {f:Array Value->Array Value} {t':Nat} (I:Inv X pins σ H s) (hH:H l=some (.lst xs))
 (e:s.heap.get? l=some { cls:= .type "list",data:= .seq its.toArray n }) (hf:f its.toArray=its'.toArray) (hv:Vals ys its') (hz:ys.length<=sizeLine):
 Inv X pins σ (upd H l (.lst ys)) { s with heap:=s.heap.update l (Obj.mapSeq f),toks:=t' }:=by
 have q:=PySem.IsL.update e f;rw[hf] at q;refine I.write (x:=l) (e:=l) (by rw[hH];exact trivial) (.inl rfl) (λb' u hb hu=>(Heap.get?_update_other s.heap (Obj.mapSeq f) (Ne.symm hb)).trans hu) ⟨_,q⟩ ?_;exact⟨hz,its',_,hv,q⟩
theorem Inv.lnew {its:List Value} {t':Nat} (I:Inv X pins σ H s) (hv:Vals ys its) (hz:ys.length<=sizeLine):
 Inv X pins σ (upd H s.heap.objs.size (.lst ys)) { s with heap:=s.heap.push { cls:= .type "list",data:= .seq its.toArray },toks:=t' }:=
 I.laid (λ_ _ q=>Heap.get?_push_of_some _ q) (o_X _) ⟨hz,its,0,hv,Heap.get?_push_size _ rfl⟩
theorem Inv.fresh (I:Inv X pins σ H s):H s.heap.objs.size=none:=I.hok.fresh (o_X _)
theorem Inv.lstM (I:Inv X pins σ H s) (hH:H l=some (.lst xs)):xs.length<=sizeLine/\∃(its:List Value) (n:Nat),Vals xs its/\xs.length=its.length/\s.heap.get? l=some { cls:= .type "list",data:= .seq its.toArray n }:=by
 obtain⟨z,its,n,r,e⟩:=I.hok l _ hH;exact⟨z,its,n,r,r.length,e⟩
theorem g_v {n:Nat} (h:n<=sizeLine):Builtin.List.listTooLong n=false:=by
 unfold Builtin.List.listTooLong;exact p_v (by omega)
end
section
variable {X:Cx}
def l_y:V->List V->Hp->VK->Prop:=λx vs H Q=>∃l xs y,x= .ref l/\vs= [y]/\H l=some (.lst xs)/\xs.length < sizeLine/\Q .non (upd H l (.lst (xs++ [y])))
theorem a_2:MtM X "list.append" l_y:=by
 intro pins s σ H x vs v us Q I rx rv h;obtain⟨l,xs,y,rfl,rfl,hH,hz,q⟩:=h;cases rx;obtain⟨u,rfl,ru⟩:=rv.one;obtain⟨z,its,n,r,hl,e⟩:=I.lstM hH;refine call_meets F.slot_list_append ⟨_,e,rfl⟩ F.entry_list_append (F.args_list_append_2 _ _) (PySem.list_append l its.toArray n u (by rw[o_Y];omega)) ⟨e,?_⟩;refine⟨.non,_,I.lset (its':=its++ [u]) hH e (by simp) (r.append (.cons ru .nil)) ?_, rfl,q⟩;rw[o_Q,List.length_singleton];omega
def k_B:V->List V->Hp->VK->Prop:=λx vs H Q=>∃l b xs zs,x= .ref l/\vs= [.ref b]/\H l=some (.lst xs)/\H b=some (.lst zs)/\xs.length+zs.length<=sizeLine/\Q .non (upd H l (.lst (xs++zs)))
theorem e_W:MtM X "list.extend" k_B:=by
 intro pins s σ H x vs v us Q I rx rv h;obtain⟨l,b,xs,zs,rfl,rfl,hH,hB,hz,q⟩:=h;cases rx;obtain⟨u,rfl,ru⟩:=rv.one;cases ru;obtain⟨z,its,n,r,hl,e⟩:=I.lstM hH;obtain⟨z2,a,n2,r2,f,e2⟩:=I.lstM hB;have d:its.toArray.size+a.toArray.size<=sizeLine:=by rw[o_Y,o_Y];omega
 have c:¬ (!its.toArray.isEmpty&&Builtin.List.listTooLong (its.toArray.size+a.toArray.size))=true:=by
  rw[g_v d,Bool.and_false];exact o_5
 refine call_meets F.slot_list_extend ⟨_,e,rfl⟩ F.entry_list_extend (F.args_list_extend_2 _ _)
  (AutoSeq1.list_extend_list_list_0 l its.toArray n b a.toArray n2 c (by rw[o_Y];omega) (by omega)) ⟨e,e2,?_⟩
 refine⟨.non,_,I.lset (its':=its++a) hH e (by simp) (r.append r2) ?_, rfl,q⟩;rw[o_Q];omega
def o_G:V->List V->Hp->VK->Prop:=λx vs H Q=>∃l xs y,x= .ref l/\vs= []/\H l=some (.lst xs)/\xs[xs.length - 1]? =some y/\Q y (upd H l (.lst xs.dropLast))
theorem e_5:MtM X "list.pop" o_G:=by
 intro pins s σ H x vs v us Q I rx rv h;obtain⟨l,xs,y,rfl,rfl,hH,hy,q⟩:=h;cases rx;have b:=rv.zero;subst b;obtain⟨z,its,n,r,hl,e⟩:=I.lstM hH;obtain⟨u,hu,ru⟩:=r.get hy
 have a:its.toArray[its.toArray.size - 1]? =some u:=by
  show its.toArray[its.length - 1]? =some u;rw[<-Array.getElem?_toList,<-hl];exact hu
 refine call_meets F.slot_list_pop ⟨_,e,rfl⟩ F.entry_list_pop (F.args_list_pop_1 _) (MeetsSeq.list_pop_last l its.toArray n u a (by rw[o_Y];omega)) ⟨e,?_⟩;refine⟨y,_,I.lset (its':=its.dropLast) hH e ?_ r.dropLast ?_, ru,q⟩
 ·show its.toArray.eraseIdxIfInBounds (its.toArray.size - 1)=its.dropLast.toArray
  rw[o_Y,List.eraseIdxIfInBounds_toArray,g_V]
 ·rw[List.length_dropLast]
  omega
def m_b:V->List V->Hp->VK->Prop:=λx vs H Q=>∃l xs i k y,x= .ref l/\vs= [.int i]/\H l=some (.lst xs)/\-(2 ^ 63)<=i/\i < 2 ^ 63/\seqIndex? i xs.length=some k/\xs[k]? =some y/\Q y (upd H l (.lst (xs.eraseIdx k)))
theorem g_i:MtM X "list.pop" m_b:=by
 intro pins s σ H x vs v us Q I rx rv h;obtain⟨l,xs,i,k,y,rfl,rfl,hH,h1,h2,hk,hy,q⟩:=h;cases rx;obtain⟨u,rfl,ru⟩:=rv.one;obtain⟨t,rfl⟩:=ru;obtain⟨z,its,n,r,hl,e⟩:=I.lstM hH;obtain⟨w,hw,rw'⟩:=r.get hy
 refine call_meets F.slot_list_pop ⟨_,e,rfl⟩ F.entry_list_pop (F.args_list_pop_2 _ _)
  (MeetsSeq.list_pop_at l its.toArray n i t k w (fitsIndex_both h1 h2) (by rw[o_Y,<-hl];exact hk) (by rw[<-Array.getElem?_toList];exact hw) (by rw[o_Y];omega)) ⟨e,?_⟩
 refine⟨y,_,I.lset (its':=its.eraseIdx k) hH e ?_ (r.eraseIdx k) ?_, rw',q⟩
 ·show its.toArray.eraseIdxIfInBounds k=(its.eraseIdx k).toArray
  rw[List.eraseIdxIfInBounds_toArray]
 ·have:=d_b xs k
  omega
def m_n:V->List V->Hp->VK->Prop:=λx vs H Q=>∃l xs,x= .ref l/\vs= []/\H l=some (.lst xs)/\Q .non (upd H l (.lst []))
theorem j_o:MtM X "list.clear" m_n:=by
 intro pins s σ H x vs v us Q I rx rv h;obtain⟨l,xs,rfl,rfl,hH,q⟩:=h;cases rx;have a:=rv.zero;subst a;obtain⟨z,its,n,r,hl,e⟩:=I.lstM hH;refine call_meets F.slot_list_clear ⟨_,e,rfl⟩ F.entry_list_clear (F.args_list_clear_1 _) (AutoSeq1.list_clear_list_0 l its.toArray n (by rw[o_Y];omega)) ⟨e,?_⟩;exact⟨.non,_,I.lset (its':= []) (ys:= []) hH e rfl .nil (p_g _),rfl,q⟩
def o_E:R2:=λx y H Q=>∃l b xs zs,x= .ref l/\y= .ref b/\H l=some (.lst xs)/\H b=some (.lst zs)/\xs.length+zs.length<=sizeLine/\∀p,H p=none->Q (.ref p) (upd H p (.lst (xs++zs)))
theorem j_9:OpR X (binaryOp .Add) o_E:=by
 intro pins s σ H x y v u Q I rx ry h;obtain⟨l,b,xs,zs,rfl,rfl,hH,hB,hz,q⟩:=h;cases rx;cases ry;obtain⟨z,its,n,r,hl,e⟩:=I.lstM hH;obtain⟨z2,a,n2,r2,c,e2⟩:=I.lstM hB;refine PySem.P.add_list e e2 ?_ (by rw[o_Y,o_Y];omega);have ea:its.toArray++a.toArray=(its++a).toArray:=by simp
 rw[ea];exact⟨.ref _,_,I.lnew (t':=s.toks) (r.append r2) (by rw[o_Q];omega),rfl,q _ I.fresh⟩
end
section
variable {prog:Program} {w:World} {A:Around} {E:Value->Shared->Prop} {s:Shared}
end
section
variable {X:Cx}
end
section
variable {κ:Type} [DecidableEq κ]
def c_K (kvs:List (κ×V)) (k:κ):Option V:=(kvs.find? λkv=>decide (kv.1=k)).map (·.2)
def c_r (kvs:List (κ×V)) (k:κ) (v:V):List (κ×V):=
 if (kvs.any λkv=>decide (kv.1=k))=true then kvs.map (λkv=>if kv.1=k then (kv.1,v) else kv) else kvs++ [(k,v)]
def c_I (kvs:List (κ×V)) (k:κ):List (κ×V):=kvs.filter λkv=>decide (kv.1≠k)
theorem b_u {p:κ×V} {r:List (κ×V)} {k:κ} (e:p.1=k):c_K (p::r) k=some p.2:=by simp[c_K,List.find?_cons,e]
theorem b_c {p:κ×V} {r:List (κ×V)} {k:κ} (e:¬ p.1=k):c_K (p::r) k=c_K r k:=by simp[c_K,List.find?_cons,e]
theorem c_0 (k:κ):∀kvs:List (κ×V),(kvs.any λkv=>decide (kv.1=k))=(c_K kvs k).isSome
 | []=>rfl
 | p::r=>by
   rw[List.any_cons];by_cases e:p.1=k
   ·simp only[b_u e,p_u e,Bool.true_or,Option.isSome_some]
   ·rw[b_c e,p_v e,Bool.false_or];exact c_0 k r
theorem c_c (kvs:List (κ×V)) (k:κ) (v:V):(c_r kvs k v).length<=kvs.length+1:=by
 unfold c_r;split
 ·rw[o_O];omega
 ·rw[o_Q,o_U,p_o];omega
theorem c_2 {kvs:List (κ×V)} {k:κ} (v:V) (h:c_K kvs k=none):c_r kvs k v=kvs++ [(k,v)]:=by
 unfold c_r;rw[c_0,h];exact if_neg (by decide)
theorem RelO.isSome_eq {o:Option V} {u:Option Value} (r:RelO o u):o.isSome=u.isSome:=by
 cases o with
 | none=>cases u with
   | none=>rfl
   | some _=>exact (show False from r).elim
 | some _=>cases u with
   | none=>exact (show False from r).elim
   | some _=>rfl
theorem RelO.getD {o:Option V} {u:Option Value} {d:V} {d':Value} (r:RelO o u) (rd:RelV d d'):RelV (o.getD d) (u.getD d'):=by
 cases o with
 | none=>cases u with
   | none=>exact rd
   | some _=>exact (show False from r).elim
 | some _=>cases u with
   | none=>exact (show False from r).elim
   | some _=>exact r
theorem KV.val {kvs:List (κ×V)} {vs:List (κ×Value)} (r:KV kvs vs) (k:κ):RelO (c_K kvs k) (valueAt vs k):=by
 unfold KV at r;induction r with
 | nil=>exact True.intro
 | @cons p q ps qs h t ih=>
   obtain⟨h1,h2⟩:=h;by_cases e:p.1=k
   ·have e':q.1=k:=h1.symm.trans e
    have b:valueAt (q::qs) k=some q.2:=by simp[valueAt,List.find?_cons,e']
    rw[b_u e,b];exact h2
   ·have e':¬ q.1=k:=λz=>e (h1.trans z)
    have b:valueAt (q::qs) k=valueAt qs k:=by simp[valueAt,List.find?_cons,e']
    rw[b_c e,b];exact ih
theorem KV.any {kvs:List (κ×V)} {vs:List (κ×Value)} (r:KV kvs vs) (k:κ):(kvs.any λkv=>decide (kv.1=k))=vs.any λkv=>decide (kv.1=k):=by
 unfold KV at r;induction r with
 | nil=>rfl
 | cons h t ih=>rw[List.any_cons,List.any_cons,ih,h.1]
theorem KV.repl {kvs:List (κ×V)} {vs:List (κ×Value)} (r:KV kvs vs) (k:κ) {y:V} {u:Value} (ry:RelV y u):
 KV (kvs.map λkv=>if kv.1=k then (kv.1,y) else kv) (vs.map λkv=>if kv.1=k then (kv.1,u) else kv):=by
 unfold KV at r ⊢;induction r with
 | nil=>exact .nil
 | @cons p q ps qs h t ih=>
   rw[o_3,o_3];refine .cons ?_ ih;obtain⟨h1,h2⟩:=h;by_cases e:p.1=k
   ·rw[if_pos e,if_pos (h1.symm.trans e)];exact⟨h1,ry⟩
   ·rw[if_neg e,if_neg (λz=>e (h1.trans z))];exact⟨h1,h2⟩
theorem KV.put {kvs:List (κ×V)} {vs:List (κ×Value)} (r:KV kvs vs) (k:κ) {y:V} {u:Value} (ry:RelV y u):KV (c_r kvs k y) (stored vs k u):=by
 unfold c_r stored;rw[r.any k];by_cases e:(vs.any λkv=>decide (kv.1=k))=true
 ·rw[if_pos e,if_pos e];exact r.repl k ry
 ·rw[if_neg e,if_neg e];exact Paired.snoc r ⟨rfl,ry⟩
theorem KV.drop {kvs:List (κ×V)} {vs:List (κ×Value)} (r:KV kvs vs) (k:κ):KV (c_I kvs k) (without vs k):=by
 unfold KV at r ⊢;unfold c_I without;induction r with
 | nil=>exact .nil
 | @cons p q ps qs h t ih=>
   obtain⟨h1,h2⟩:=h;rw[p_d,p_d];by_cases e:p.1=k
   ·have a:¬ decide (p.1≠k)=true:=by simp[e]
    have b:¬ decide (q.1≠k)=true:=by simp[h1.symm.trans e]
    rw[if_neg a,if_neg b];exact ih
   ·have e':¬ q.1=k:=λz=>e (h1.trans z)
    have a:decide (p.1≠k)=true:=by simp[e]
    have b:decide (q.1≠k)=true:=by simp[e']
    rw[if_pos a,if_pos b];exact .cons ⟨h1,h2⟩ ih
theorem KV.length {kvs:List (κ×V)} {vs:List (κ×Value)} (r:KV kvs vs):kvs.length=vs.length:=Paired.length r
theorem g_D (kvs:List (κ×V)) (k:κ):(c_I kvs k).length<=kvs.length:=List.length_filter_le _ _
end
theorem d_3 {P:Program} {w:World} {k:Key} {u:Value} (r:RelV (kV k) u):(a_V P w).is k u=true:=by
 cases k with
 | inl i=>obtain⟨t,e⟩:=(show ∃t,u=Value.int i t from r);subst e;exact f_C P w i t
 | inr x=>obtain⟨t,e⟩:=(show ∃t,u=Value.str x t from r);subst e;exact f_4 P w x t
theorem e_P {P:Program} {w:World}:∀{ks:List Key} {us:List Value},Vals (ks.map kV) us->ItemsAre (a_V P w) ks us
 | [],_,r=>by rw[List.map_nil] at r;cases r;exact .nil
 | k::ks,_,r=>by
   rw[o_3] at r;cases r with
   | cons h t=>exact .cons (d_3 h) (e_P t)
abbrev KT (H:Hp):List (List Key×V)->List (List Key×Addr×Value)->Prop:=Paired λp q=>p.1=q.1/\H q.2.1=some (.tup (p.1.map kV))/\RelV p.2 q.2.2
theorem KT.val {H:Hp} {kvs:List (List Key×V)} {xs:List (List Key×Addr×Value)} (r:KT H kvs xs) (k:List Key):RelO (c_K kvs k) ((atKey xs k).map (·.2)):=by
 induction r with
 | nil=>exact True.intro
 | @cons p q ps qs h t ih=>
   obtain⟨h1,_,h2⟩:=h;by_cases e:p.1=k
   ·have e':q.1=k:=h1.symm.trans e
    have b:atKey (q::qs) k=some q.2:=by simp[atKey,List.find?_cons,e']
    rw[b_u e,b];exact h2
   ·have e':¬ q.1=k:=λz=>e (h1.trans z)
    have b:atKey (q::qs) k=atKey qs k:=by simp[atKey,List.find?_cons,e']
    rw[b_c e,b];exact ih
theorem KT.repl {H:Hp} {kvs:List (List Key×V)} {xs:List (List Key×Addr×Value)} (r:KT H kvs xs) (k:List Key) {y:V} {u:Value} (ry:RelV y u):
 KT H (kvs.map λkv=>if kv.1=k then (kv.1,y) else kv) (xs.map (putAt k u)):=by
 induction r with
 | nil=>exact .nil
 | @cons p q ps qs h t ih=>
   rw[o_3,o_3];refine .cons ?_ ih;obtain⟨h1,h2,h3⟩:=h;unfold putAt;by_cases e:p.1=k
   ·rw[if_pos e,if_pos (h1.symm.trans e)];exact⟨h1,h2,ry⟩
   ·rw[if_neg e,if_neg (λz=>e (h1.trans z))];exact⟨h1,h2,h3⟩
theorem KT.put {H:Hp} {kvs:List (List Key×V)} {xs:List (List Key×Addr×Value)} (r:KT H kvs xs) (k:List Key) {b:Addr} {y:V} {u:Value} (hb:H b=some (.tup (k.map kV))) (ry:RelV y u):
 KT H (c_r kvs k y) (storedH xs k b u):=by
 have e:(kvs.any λkv=>decide (kv.1=k))=(atKey xs k).isSome:=by
  rw[c_0,(r.val k).isSome_eq,Option.isSome_map]
 unfold c_r storedH;rw[e];by_cases q:(atKey xs k).isSome=true
 ·rw[if_pos q,if_pos q];exact r.repl k ry
 ·rw[if_neg q,if_neg q];exact Paired.snoc r ⟨rfl,hb,ry⟩
theorem KT.keeps {H H':Hp} {kvs:List (List Key×V)} {xs:List (List Key×Addr×Value)} (r:KT H kvs xs) (ht:∀b ys,H b=some (.tup ys)->H' b=some (.tup ys)):KT H' kvs xs:=
 Paired.mapP r λ_ _ z=>⟨z.1,ht _ _ z.2.1,z.2.2⟩
section
variable {P:Program} {w:World} {H:Hp} {h:Heap} {a:Addr}
theorem m_G {u:HO} (ok:HOk P w H h) (e:Rd H a u):ObjOk P w H h a u:=e.ok ok
theorem e_X {kvs:List (Key×V)} (ok:HOk P w H h) (e:Rd H a (.dK kvs)):kvs.length<=sizeLine/\(a == sysModules)=false/\∃vs,KV kvs vs/\h.DictOf (a_V P w) a vs:=
 show ObjOk P w H h a (.dK kvs) from m_G ok e
theorem i_G {kvs:List (Key×V)} (ok:HOk P w H h) (e:H a=some (.dK kvs)):kvs.length<=sizeLine/\(a == sysModules)=false/\∃vs,KV kvs vs/\h.DictOf (a_V P w) a vs:=e_X ok (.inl e)
theorem d_W {ks:List Key} (ok:HOk P w H h) (e:H a=some (.tup (ks.map kV))):(tupleKind (a_V P w)).is h ks a:=by
 obtain⟨_,its,r,o,h1,h2,n,h3⟩:=(show ObjOk P w H h a (.tup (ks.map kV)) from ok a _ e);exact⟨o,its.toArray,n,h1,h2,h3,by simpa using e_P r⟩
theorem f_H {kvs:List (List Key×V)} (ok:HOk P w H h) (e:Rd H a (.dT kvs)):kvs.length<=sizeLine/\(a == sysModules)=false/\
 ∃xs,KT H kvs xs/\h.DictOfH (tupleKind (a_V P w)) a xs:=by
 obtain⟨z,y,xs,r,o,es,ep,h1,h2,h3,h4,h5⟩:=(show ObjOk P w H h a (.dT kvs) from m_G ok e);refine⟨z,y,xs,r,o,es,ep,h1,h2,h3,h4,λx hx=> ?_, h5⟩
 have all:∀{l:List (List Key×V)} {m:List (List Key×Addr×Value)},KT H l m->∀x∈m,(tupleKind (a_V P w)).is h x.1 x.2.1:=by
  intro l m q;induction q with
  | nil=>intro x hx;exact nomatch hx
  | @cons p q ps qs hq t ih=>
    intro x hx;rcases o_Z.mp hx with e | hx
    ·subst e
     exact d_W ok (by rw[<-hq.1];exact hq.2.1)
    ·exact ih x hx
 exact all r x hx
theorem n_o {kvs:List (List Key×V)} (ok:HOk P w H h) (e:H a=some (.dT kvs)):kvs.length<=sizeLine/\(a == sysModules)=false/\
 ∃xs,KT H kvs xs/\h.DictOfH (tupleKind (a_V P w)) a xs:=f_H ok (.inl e)
end
def DGet (H:Hp) (a:Addr) (y:V) (r:Option V):Prop:=
 (∃kvs k,Rd H a (.dK kvs)/\y=kV k/\r=c_K kvs k)\/∃kvs k b,Rd H a (.dT kvs)/\y= .ref b/\H b=some (.tup (k.map kV))/\r=c_K kvs k
def DPut (H:Hp) (a:Addr) (y v:V) (H':Hp):Prop:=
 (∃kvs k,H a=some (.dK kvs)/\y=kV k/\kvs.length < sizeLine/\H'=upd H a (.dK (c_r kvs k v)))\/
 ∃kvs k b,H a=some (.dT kvs)/\y= .ref b/\H b=some (.tup (k.map kV))/\kvs.length < sizeLine/\H'=upd H a (.dT (c_r kvs k v))
theorem DGet.k {H:Hp} {a:Addr} {kvs:List (Key×V)} {k:Key} (e:H a=some (.dK kvs)):DGet H a (kV k) (c_K kvs k):= .inl ⟨kvs,k,.inl e,rfl,rfl⟩
theorem DPut.k {H:Hp} {a:Addr} {kvs:List (Key×V)} {k:Key} {v:V} (e:H a=some (.dK kvs)) (hl:kvs.length < sizeLine):DPut H a (kV k) v (upd H a (.dK (c_r kvs k v))):= .inl ⟨kvs,k,e,rfl,hl,rfl⟩
section
variable {X:Cx} {pins:List (Addr×Obj)} {σ:St} {H:Hp} {s:Shared} {a:Addr} {y v:V} {u r:Value} {o:Option V} {A:Around} {E:Value->Shared->Prop}
theorem Inv.big (I:Inv X pins σ H s):sysModules < s.heap.objs.size:=by
 have h:mainGlobals < s.heap.objs.size:=(I.mod.glob.keeps I.bk).lt;exact Nat.lt_trans (by decide) h
theorem h_t {Q:Value->Shared->Prop} (hu:A.units+1 < cLine) (I:Inv X pins σ H s) (g:DGet H a y (some v)) (ry:RelV y u) (h:∀w' s',Inv X pins σ H s'->RelV v w'->Q w' s'):
 wpAny (model X.prog X.w) A (getItem (.ref a) u) Q E s:=by
 rcases g with⟨kvs,k,e,ey,l⟩ | ⟨kvs,k,b,e,ey,eb,l⟩
 ·subst ey
  obtain⟨z,hd,vs,rel,dd⟩:=e_X I.hok e;obtain⟨w',hw,rw'⟩:=RelO.some_of (v:=v) (o:=valueAt vs k) (by rw[l];exact rel.val k);exact wpAny_getItem_of (d_3 ry) dd.mapOf hw (h w' _ (I.tok _) rw')
 ·subst ey
  cases (show u=Value.ref b from ry);obtain⟨z,hd,xs,rel,dd⟩:=f_H I.hok e;obtain⟨w',hw,rw'⟩:=RelO.some_of (v:=v) (o:=(atKey xs k).map (·.2)) (by rw[l];exact rel.val k);obtain⟨p,hp,c⟩:=Option.map_eq_some_iff.mp hw;refine wpAny_getItem_heap (tupleKind_room_in1 hu) (d_W I.hok eb) dd hp ?_;rw[c];exact h w' _ (I.tok _) rw'
theorem o_v {Q:Value->Shared->Prop} (hu:A.units+1 < cLine) (I:Inv X pins σ H s) (g:DGet H a y o) (ry:RelV y u) (h:∀s',Inv X pins σ H s'->Q (.bool o.isSome) s'):
 wpAny (model X.prog X.w) A (compareOp .In u (.ref a)) Q E s:=by
 rcases g with⟨kvs,k,e,ey,l⟩ | ⟨kvs,k,b,e,ey,eb,l⟩
 ·subst ey
  obtain⟨z,hd,vs,rel,dd⟩:=e_X I.hok e;refine wpAny_in_of (d_3 ry) hd dd.mapOf ?_;rw[<-(rel.val k).isSome_eq,<-l];exact h _ (I.tok _)
 ·subst ey
  cases (show u=Value.ref b from ry);obtain⟨z,hd,xs,rel,dd⟩:=f_H I.hok e;refine wpAny_in_heap (tupleKind_room_in1 hu) (d_W I.hok eb) hd dd ?_;have q:=(rel.val k).isSome_eq;rw[Option.isSome_map] at q;rw[<-q,<-l];exact h _ (I.tok _)
theorem k_N {Q:Value->Shared->Prop} (hu:A.units+1 < cLine) (I:Inv X pins σ H s) (g:DGet H a y o) (ry:RelV y u) (h:∀s',Inv X pins σ H s'->Q (.bool (!o.isSome)) s'):
 wpAny (model X.prog X.w) A (compareOp .NotIn u (.ref a)) Q E s:=by
 rcases g with⟨kvs,k,e,ey,l⟩ | ⟨kvs,k,b,e,ey,eb,l⟩
 ·subst ey
  obtain⟨z,hd,vs,rel,dd⟩:=e_X I.hok e;refine wpAny_notIn_of (d_3 ry) hd dd.mapOf ?_;rw[<-(rel.val k).isSome_eq,<-l];exact h _ (I.tok _)
 ·subst ey
  cases (show u=Value.ref b from ry);obtain⟨z,hd,xs,rel,dd⟩:=f_H I.hok e;refine wpAny_notIn_heap (tupleKind_room_in1 hu) (d_W I.hok eb) hd dd ?_;have q:=(rel.val k).isSome_eq;rw[Option.isSome_map] at q;rw[<-q,<-l];exact h _ (I.tok _)
theorem d_E {h':Heap} {t':Nat} {ob:HO} (I:Inv X pins σ H s) (mu:Mut (H a)) (hs:Heap.SameBut a s.heap h') (he:∃q,h'.get? a=some q) (new:ObjOk X.prog X.w (upd H a ob) h' a ob):
 Inv X pins σ (upd H a ob) { s with heap:=h',toks:=t' }:=
 I.write (x:=a) (e:=a) mu (.inl rfl) (λb q hb z=>(hs.2 b hb).trans z) he new
theorem e_I {P:Program} {w:World} {H':Hp} {h':Heap} {kvs:List (Key×V)} {vs:List (Key×Value)} (z:kvs.length<=sizeLine) (hd:(a == sysModules)=false) (rel:KV kvs vs) (dd:h'.DictOf (a_V P w) a vs):
 ObjOk P w H' h' a (.dK kvs):=⟨z,hd,vs,rel,dd⟩
theorem i_y {H':Hp} {Q:Unit->Shared->Prop} (hu:A.units+1 < cLine) (I:Inv X pins σ H s) (g:DPut H a y v H') (ry:RelV y u) (rv:RelV v r) (h:∀s',Inv X pins σ H' s'->Q () s'):
 wpAny (model X.prog X.w) A (setItem (.ref a) u r) Q E s:=by
 rcases g with⟨kvs,k,e,ey,l,eH⟩ | ⟨kvs,k,b,e,ey,eb,l,eH⟩
 ·subst ey eH
  obtain⟨z,hd,vs,rel,dd⟩:=i_G I.hok e;have hz:vs.length<=sizeLine:=by rw[<-rel.length];exact z
  have hl:(c_r kvs k v).length<=sizeLine:=by have:=c_c kvs k v;omega
  refine wpAny_setItem_pairs (hsz:=hz) (d_3 ry) dd λh' dd' hs=>h _ ?_;have he:∃q,h'.get? a=some q:=let ⟨q,_,_,hq,_⟩:=dd';⟨q,hq⟩;exact d_E I (by rw[e];exact True.intro) hs he (e_I hl hd (rel.put k rv) dd')
 ·subst ey eH
  cases (show u=Value.ref b from ry);obtain⟨z,hd,xs,rel,dd⟩:=n_o I.hok e;have hz:xs.length<=sizeLine:=by rw[<-Paired.length rel];exact z
  have hl:(c_r kvs k v).length<=sizeLine:=by have:=c_c kvs k v;omega
  refine wpAny_setItem_heap (hsz:=hz) (tupleKind_room_in1 hu) (d_W I.hok eb) dd λh' dd' hs=>h _ ?_;obtain⟨q,es,ep,hq,h2,h3,h4,_,h5⟩:=dd';refine d_E I (by rw[e];exact True.intro) hs ⟨q,hq⟩ ⟨hl,hd,_,(rel.put k eb rv).keeps λc ys ec=> ?_, q,es,ep,hq,h2,h3,h4,h5⟩;rw[a_i (d_5 ec e (λz=>nomatch z))];exact ec
end
section
variable {X:Cx} {pins:List (Addr×Obj)} {σ:St} {H:Hp} {s:Shared} {a:Addr} {kvs:List (Key×V)} {k:Key} {u:Value} {A:Around} {E:Value->Shared->Prop}
theorem m_M {Q:Unit->Shared->Prop} (I:Inv X pins σ H s) (e:H a=some (.dK kvs)) (ry:RelV (kV k) u) (l:(c_K kvs k).isSome=true) (h:∀s',Inv X pins σ (upd H a (.dK (c_I kvs k))) s'->Q () s'):
 wpAny (model X.prog X.w) A (delItem (.ref a) u) Q E s:=by
 obtain⟨z,hd,vs,rel,dd⟩:=i_G I.hok e
 refine wpAny_delItem_slot dd.typeIs (by decide) PySem.F.slot_dict_delitem
  (call_meetsIn PySem.F.slot_dict_delitem dd.typeIs PySem.F.entry_dict_delitem (PySem.F.args_dict_delitem_2 _ _) (meets_dict_delitem_pairs (a_V X.prog X.w) a (d_3 ry)) ⟨vs,dd,by rw[<-rel.length];exact z,by rw[<-(rel.val k).isSome_eq];exact l,λh' dd' hs=>h _ ?_⟩)
 have he:∃q,h'.get? a=some q:=let ⟨q,_,_,hq,_⟩:=dd';⟨q,hq⟩;exact d_E I (by rw[e];exact True.intro) hs he (e_I (o_9 (g_D kvs k) z) hd (rel.drop k) dd')
theorem m_9 {v:V} {more:List Value} {Q:Value->Shared->Prop} (I:Inv X pins σ H s) (e:H a=some (.dK kvs)) (ry:RelV (kV k) u) (l:c_K kvs k=some v) (hm:more= []\/∃x,more= [x])
 (h:∀w' s',Inv X pins σ (upd H a (.dK (c_I kvs k))) s'->RelV v w'->Q w' s'):wpAny (model X.prog X.w) A (call (.builtin "dict.pop") (.ref a::u::more)) Q E s:=by
 obtain⟨z,hd,vs,rel,dd⟩:=i_G I.hok e;obtain⟨w',hw,rw'⟩:=RelO.some_of (v:=v) (o:=valueAt vs k) (by rw[<-l];exact rel.val k)
 have hp:(keyPart u).isSome=true:=by
  cases k with
  | inl i=>obtain⟨t,q⟩:=(show ∃t,u=Value.int i t from ry);subst q;rfl
  | inr x=>obtain⟨t,q⟩:=(show ∃t,u=Value.str x t from ry);subst q;rfl
 have ha:argsOk "dict.pop" ⟨.ref a::u::more, []⟩:=by
  rcases hm with q | ⟨x,q⟩
  ·subst q;exact PySem.F.args_dict_pop_2 _ _
  ·subst q;exact PySem.F.args_dict_pop_3 _ _ _
 refine call_meetsIn PySem.F.slot_dict_pop dd.typeIs PySem.F.entry_dict_pop ha (meets_dict_pop_there (a_V X.prog X.w) a (d_3 ry) more hm hp)
  ⟨vs,w',dd,by rw[<-rel.length];exact z,hw,λh' dd' hs=>h w' _ ?_ rw'⟩
 have he:∃q,h'.get? a=some q:=let ⟨q,_,_,hq,_⟩:=dd';⟨q,hq⟩;exact d_E I (by rw[e];exact True.intro) hs he (e_I (o_9 (g_D kvs k) z) hd (rel.drop k) dd')
theorem n_X {Q:Value->Shared->Prop} (I:Inv X pins σ H s) (e:Rd H a (.dK kvs)) (h:∀t s',Inv X pins σ H s'->Q (.int kvs.length t) s'):wpAny (model X.prog X.w) A (call (.builtin "len") [.ref a]) Q E s:=by
 obtain⟨z,hd,vs,rel,dd⟩:=e_X I.hok e;refine call_len_dict hd dd (by rw[<-rel.length];rw[sizeLine_eq] at z;omega) ?_;rw[<-rel.length];exact h _ _ (I.tok _)
end
def n_8 (i:Expr):Prop:=∀ov iv,subscripted i false ov iv=operate [ov,iv] (getItem ov iv)
theorem l_o {prog:Program} {w:World} {A:Around} {E:Value->Shared->Prop} {s:Shared} {env:Env} {value slice:Expr} {pos:Pos} {T id:String} {Q:Value->Shared->Prop}
 (hl:typeLookup (.type T) "__getitem__"=pure (some (.builtin id))) (hs:n_8 slice)
 (h:wpAny (model prog w) A (eval value env) (λo s₁=>wpAny (model prog w) A (eval slice env) (λi s₂=>s₂.TypeIs o T/\wpAny (model prog w) A (getItem o i) Q E s₂) E s₁) E s):
 wpAny (model prog w) A (eval (.Subscript value slice pos) env) Q E s:=by
 refine Subscript_ (wpAny_mono h (λo s₁ h₁=>wpAny_mono h₁ (λi s₂ h₂=> ?_) λ_ _ x=>x) λ_ _ x=>x);obtain⟨hT,h₂⟩:=h₂;unfold subscriptTail;refine wpAny_bind ?_;rw[getitemInPython_of_ne hT.not_modules];refine wpAny_bind (wpAny_specialOf hT hl ?_)
 have fin:wpAny (model prog w) A (subscripted slice false o i) (λr s₃=>wpAny (model prog w) A (letTemporaryGo value o r >>= λ_=>pure r) Q E s₃) E s₂:=by
  rw[hs o i];exact wpAny_operating (wpAny_mono h₂ (λr s₃ h₃=>wpAny_bind (wpAny_letTemporaryGo (wpAny_pure h₃))) λ_ _ x=>x)
 first
  | exact wpAny_pure (wpAny_bind fin)
  | exact wpAny_bind (wpAny_pure (wpAny_bind fin))
  | exact wpAny_bind fin
theorem f_q {X:Cx} {pins:List (Addr×Obj)} {σ:St} {H:Hp} {s:Shared} {a:Addr} {y:V} {o:Option V} (I:Inv X pins σ H s) (g:DGet H a y o):s.TypeIs (.ref a) "dict":=by
 rcases g with⟨kvs,k,e,_,_⟩ | ⟨kvs,k,b,e,_,_,_⟩
 ·obtain⟨_,_,vs,_,dd⟩:=e_X I.hok e
  exact dd.typeIs
 ·obtain⟨_,_,xs,_,dd⟩:=f_H I.hok e
  exact dd.typeIs
def n_I (td ty:TE):TE:=λσ H Q=>td σ H λx H1=>ty σ H1 λy H2=>∃a v,x= .ref a/\DGet H2 a y (some v)/\Q v H2
def o_F (ty td:TE):TE:=λσ H Q=>ty σ H λy H1=>td σ H1 λx H2=>∃a o,x= .ref a/\DGet H2 a y o/\Q (.bl o.isSome) H2
def k_8 (ty td:TE):TE:=λσ H Q=>ty σ H λy H1=>td σ H1 λx H2=>∃a o,x= .ref a/\DGet H2 a y o/\Q (.bl (!o.isSome)) H2
def n_Q (td ty tv:TE):TS:=λD σ H=>tv σ H λv H1=>td σ H1 λx H2=>ty σ H2 λy H3=>∃a H4,x= .ref a/\DPut H3 a y v H4/\D.nx σ H4
section
variable {X:Cx} {o i e value:Expr} {pos pos' tpos:Pos} {td ty tv:TE}
theorem b_U (hu:X.A.units+1 < cLine) (ho:PE X o td) (hi:PE X i ty) (hs:n_8 i):PE X (.Subscript o i pos) (n_I td ty):=by
 intro pins s σ H Q I h;refine l_o PySem.F.slot_dict_getitem.lookup hs (thn (ho pins s σ H _ I h) λu s1 ⟨x,H1,I1,rx,q1⟩=>thn (hi pins s1 σ H1 _ I1 q1) λiv s2 ⟨y,H2,I2,ry,a,v,ex,g,q2⟩=> ?_);subst ex;obtain rfl:u=Value.ref a:=rx;exact⟨f_q I2 g,h_t hu I2 g ry λw' s3 I3 rw'=>⟨v,H2,I3,rw',q2⟩⟩
theorem k_q (hu:X.A.units+1 < cLine) (hi:PE X i ty) (ho:PE X o td):PC X .In i o (o_F ty td):=by
 intro pins s σ H Q I h;refine thn (hi pins s σ H _ I h) λiv s1 ⟨y,H1,I1,ry,q1⟩=>thn (ho pins s1 σ H1 _ I1 q1) λu s2 ⟨x,H2,I2,rx,a,ov,ex,g,q2⟩=> ?_;subst ex;obtain rfl:u=Value.ref a:=rx;exact o_v hu I2 g ry λs3 I3=>⟨.bl ov.isSome,H2,I3,rfl,q2⟩
theorem c_3 (hu:X.A.units+1 < cLine) (hi:PE X i ty) (ho:PE X o td):PC X .NotIn i o (k_8 ty td):=by
 intro pins s σ H Q I h;refine thn (hi pins s σ H _ I h) λiv s1 ⟨y,H1,I1,ry,q1⟩=>thn (ho pins s1 σ H1 _ I1 q1) λu s2 ⟨x,H2,I2,rx,a,ov,ex,g,q2⟩=> ?_;subst ex;obtain rfl:u=Value.ref a:=rx;exact k_N hu I2 g ry λs3 I3=>⟨.bl (!ov.isSome),H2,I3,rfl,q2⟩
theorem e_p (hu:X.A.units+1 < cLine) (ho:PE X o td) (hi:PE X i ty) (hv:PE X value tv) (hs:swapsWith value (some (.Subscript o i pos')) pos.line X.env=pure false):
 PS X (.Assign [.Subscript o i pos'] value pos) (n_Q td ty tv):=by
 intro pins s σ H D I h;refine wpAny_Assign_Subscript (thn (hv pins s σ H _ I h) λr s1 ⟨v,H1,I1,rv,q1⟩=>thn (ho pins s1 σ H1 _ I1 q1) λu s2 ⟨x,H2,I2,rx,q2⟩=>thn (hi pins s2 σ H2 _ I2 q2) λiv s3 ⟨y,H3,I3,ry,a,H4,ex,g,q3⟩=> ?_) hs;subst ex;obtain rfl:u=Value.ref a:=rx;exact i_y hu I3 g ry rv λs4 I4=>⟨σ,H4,I4,q3⟩
end
theorem g_A {P:Program} {w:World} {H:Hp} (h:Heap) (hb:sysModules < h.objs.size):ObjOk P w H (h.push { cls:= .type "dict",data:= .dict #[] }) h.objs.size (.dK []):=
 ⟨p_g _,beq_eq_false_iff_ne.mpr (Ne.symm (p_c hb)), [],.nil,Heap.DictOf.new h⟩
def l_X:TE:=λ_ H Q=>∀p,H p=none->Q (.ref p) (upd H p (.dK []))
section
variable {X:Cx} {pos:Pos}
theorem g_h:PE X (.Dict [] [] pos) l_X:=λpins s σ H Q I h=>
 wpAny_Dict_empty ⟨.ref s.heap.objs.size,_,I.laid (a:=s.heap.objs.size) (o:= .dK []) (t':=s.toks) (λ_ _ q=>Heap.get?_push_of_some _ q) (o_X _) (g_A s.heap I.big),rfl,h _ (I.hok.fresh (o_X _))⟩
end
def h_B:List (TE×TE)->St->Hp->(List (V×V)->Hp->Prop)->Prop
 | [],_,H,Q=>Q [] H
 | (tk,tv)::r,σ,H,Q=>tk σ H λx H1=>tv σ H1 λy H2=>h_B r σ H2 λps H3=>Q ((x,y)::ps) H3
abbrev VV:List (V×V)->List (Value×Value)->Prop:=Paired λp q=>RelV p.1 q.1/\RelV p.2 q.2
def PPs (X:Cx) (pos:Pos) (keys:List (Option Expr)) (values:List Expr) (trs:List (TE×TE)):Prop:=
 ∀(pins:List (Addr×Obj)) (s:Shared) (σ:St) (H:Hp) (Q:List (V×V)->Hp->Prop),Inv X pins σ H s->h_B trs σ H Q->
  wpAny (model X.prog X.w) X.A (evalPairs (pairTrees keys values X.env pos)) (λvs s'=>∃ps H',Inv X pins σ H' s'/\VV ps vs/\Q ps H') X.xe s
theorem k_U {X:Cx} {pos:Pos}:PPs X pos [] [] []:=λpins s σ H Q I h=>pairTrees_nil_walk ⟨[],H,I,.nil,h⟩
theorem e_w {X:Cx} {pos:Pos} {k v:Expr} {ks:List (Option Expr)} {vs:List Expr} {tk tv:TE} {trs:List (TE×TE)} (hk:PE X k tk) (hv:PE X v tv) (hr:PPs X pos ks vs trs):
 PPs X pos (some k::ks) (v::vs) ((tk,tv)::trs):=λpins s σ H Q I h=>
 pairTrees_cons_walk (thn (hk pins s σ H _ I h) λu s1 ⟨x,H1,I1,rx,q1⟩=>thn (hv pins s1 σ H1 _ I1 q1) λw2 s2 ⟨y,H2,I2,ry,q2⟩=>
  thn (hr pins s2 σ H2 _ I2 q2) λws s3 ⟨ps,H3,I3,rel,q3⟩=>⟨(x,y)::ps,H3,I3,.cons ⟨rx,ry⟩ rel,q3⟩)
def d_r (kvs more:List (Key×V)):List (Key×V):=more.foldl (λacc kv=>c_r acc kv.1 kv.2) kvs
theorem KV.merge:∀{more:List (Key×V)} {rs:List (Key×Value)} {kvs:List (Key×V)} {vs:List (Key×Value)},KV more rs->KV kvs vs->KV (d_r kvs more) (merged vs rs):=by
 intro more rs kvs vs r;unfold KV at r;induction r generalizing kvs vs with
 | nil=>intro q;exact q
 | @cons p q ps qs h t ih=>
   intro r0
   have e:KV (c_r kvs p.1 p.2) (stored vs q.1 q.2):=by
    have:=r0.put p.1 h.2;rw[<-h.1];exact this
   exact ih e
theorem c_n:∀(more kvs:List (Key×V)),(d_r kvs more).length<=kvs.length+more.length
 | [],kvs=>by show kvs.length<=kvs.length+0;omega
 | p::r,kvs=>by
   have h1:=c_n r (c_r kvs p.1 p.2);have h2:=c_c kvs p.1 p.2;show (d_r (c_r kvs p.1 p.2) r).length<=_;rw[o_U];omega
theorem d_U {P:Program} {w:World}:∀{kvs:List (Key×V)} {ws:List (Value×Value)},VV (kvs.map λkv=>(kV kv.1,kv.2)) ws->∃rs,Carries (a_V P w) ws rs/\KV kvs rs
 | [],_,r=>by rw[List.map_nil] at r;cases r;exact⟨[],True.intro,.nil⟩
 | p::kvs,_,r=>by
   rw[o_3] at r;cases r with
   | @cons a b as bs h t=>
     obtain⟨rs,c,q⟩:=d_U (P:=P) (w:=w) t;obtain⟨b1,b2⟩:=b;exact⟨(p.1,b2)::rs,⟨d_3 h.1,rfl,c⟩,.cons ⟨rfl,h.2⟩ q⟩
def m_3 (trs:List (TE×TE)):TE:=λσ H Q=>∀p,H p=none->h_B trs σ (upd H p (.dK [])) λps H2=>H2 p=some (.dK [])/\∃kvs:List (Key×V),ps=kvs.map (λkv=>(kV kv.1,kv.2))/\kvs.length<=15/\Q (.ref p) (upd H2 p (.dK (d_r [] kvs)))
theorem k_6 {X:Cx} {pos:Pos} {keys:List (Option Expr)} {values:List Expr} {trs:List (TE×TE)} (h:PPs X pos keys values trs) (hall:keys.all (·.isSome)=true) (hl:keys.length=values.length) (h0:keys≠ [])
 (h15:keys.length<=15):PE X (.Dict keys values pos) (m_3 trs):=by
 intro pins s σ H Q I q;have hn:=I.hok.fresh (o_X s.heap.objs.size);have I1:=I.laid (a:=s.heap.objs.size) (o:= .dK []) (h':=s.heap.push { cls:= .type "dict",data:= .dict #[] }) (t':=s.toks) (λ_ _ q=>Heap.get?_push_of_some _ q) (o_X _) (g_A s.heap I.big);refine wpAny_Dict_walk (knd:=a_V X.prog X.w) hall hl h0 h15 (thn (h pins _ σ _ _ I1 (q _ hn)) λws s2 ⟨ps,H2,I2,rel,e,kvs,ep,lk,q2⟩=> ?_);subst ep;obtain⟨rs,c,rk⟩:=d_U (P:=X.prog) (w:=X.w) rel;obtain⟨z,hd,b,r0,dd⟩:=i_G I2.hok e;cases r0;refine⟨rs,c,dd,λh' dd' hs=>⟨.ref s.heap.objs.size,_,?_, rfl,q2⟩⟩
 have hz:(d_r [] kvs).length<=sizeLine:=by
  have h1:=c_n kvs [];rw[p_o] at h1;rw[sizeLine_eq];omega
 have he:∃q,h'.get? s.heap.objs.size=some q:=let ⟨q,_,_,hq,_⟩:=dd';⟨q,hq⟩;exact d_E I2 (by rw[e];exact True.intro) hs he (e_I hz hd (rk.merge .nil) dd')
structure M1 (X:Cx) (o:Expr) (m:Str) (apos:Pos) (e:Expr) (cpos:Pos):Prop where
 base:attributeBase o m X.env (eval o X.env)=eval o X.env
 few:((backTo cpos (starEach [e] X.env)).all (λx=> !x.1)&&(backToKw cpos (keywordEach [] X.env)).all (λx=>x.1.isSome)
  &&decide (([e]:List Expr).length+([]:List Keyword).length+(if ([]:List Keyword).isEmpty then 0 else 1) < 30))=true
 line:(apos.endLine == cpos.line)=true
 trees:backTo cpos (starEach [e] X.env)= [(false,eval e X.env)]
structure M2 (X:Cx) (o:Expr) (m:Str) (apos:Pos) (e f:Expr) (cpos:Pos):Prop where
 base:attributeBase o m X.env (eval o X.env)=eval o X.env
 few:((backTo cpos (starEach [e,f] X.env)).all (λx=> !x.1)&&(backToKw cpos (keywordEach [] X.env)).all (λx=>x.1.isSome)
  &&decide (([e,f]:List Expr).length+([]:List Keyword).length+(if ([]:List Keyword).isEmpty then 0 else 1) < 30))=true
 line:(apos.endLine == cpos.line)=true
 trees:backTo cpos (starEach [e,f] X.env)= [(false,eval e X.env),(false,eval f X.env)]
def IsD (H:Hp) (a:Addr):Prop:=(∃kvs,Rd H a (.dK kvs))\/∃kvs,Rd H a (.dT kvs)
theorem k_b {X:Cx} {pins:List (Addr×Obj)} {σ:St} {H:Hp} {s:Shared} {a:Addr} (I:Inv X pins σ H s) (d:IsD H a):
 s.TypeIs (.ref a) "dict"/\(∀b,Value.ref a= .ref b->∃ob,s.heap.get? b=some ob/\ob.dict=none)/\(a == sysModules)=false:=by
 rcases d with⟨kvs,e⟩ | ⟨kvs,e⟩
 ·obtain⟨_,hd,vs,_,dd⟩:=e_X I.hok e
  refine⟨dd.typeIs,λb q=> ?_, hd⟩;cases q;obtain⟨ob,_,_,h1,h2,_⟩:=dd;exact⟨ob,h1,h2.2.1⟩
 ·obtain⟨_,hd,xs,_,dd⟩:=f_H I.hok e
  refine⟨dd.typeIs,λb q=> ?_, hd⟩;cases q;obtain⟨ob,_,_,h1,h2,_⟩:=dd;exact⟨ob,h1,h2.2.1⟩
section
variable {X:Cx} {pins:List (Addr×Obj)} {σ:St} {H:Hp} {s:Shared} {a:Addr} {y d:V} {u r:Value} {o:Option V} {A:Around} {E:Value->Shared->Prop}
theorem m_I {Q:Value->Shared->Prop} (hu:A.units+1 < cLine) (I:Inv X pins σ H s) (g:DGet H a y o) (ry:RelV y u) (rd:RelV d r) (h:∀w' s',Inv X pins σ H s'->RelV (o.getD d) w'->Q w' s'):
 wpAny (model X.prog X.w) A (call (.builtin "dict.get") [.ref a,u,r]) Q E s:=by
 rcases g with⟨kvs,k,e,ey,l⟩ | ⟨kvs,k,b,e,ey,eb,l⟩
 ·subst ey
  obtain⟨z,hd,vs,rel,dd⟩:=e_X I.hok e;refine call_meetsIn PySem.F.slot_dict_get dd.typeIs PySem.F.entry_dict_get (PySem.F.args_dict_get_3 _ _ _) (meets_dict_get_default (a_V X.prog X.w) a (d_3 ry) hd r) ⟨_,dd.mapOf,h _ _ (I.tok _) ?_⟩;rw[l];exact (rel.val k).getD rd
 ·subst ey
  cases (show u=Value.ref b from ry);obtain⟨z,hd,xs,rel,dd⟩:=f_H I.hok e;refine call_meetsIn PySem.F.slot_dict_get dd.typeIs PySem.F.entry_dict_get (PySem.F.args_dict_get_3 _ _ _) (meetsH_dict_get_default (tupleKind (a_V X.prog X.w)) a b hd r) ⟨tupleKind_room_in1 hu,k,xs,d_W I.hok eb,dd,h _ _ (I.tok _) ?_⟩;rw[l];exact (rel.val k).getD rd
end
def m_p (td ty tx:TE):TE:=λσ H Q=>td σ H λx H1=>∃a,x= .ref a/\IsD H1 a/\ty σ H1 λy H2=>tx σ H2 λz H3=>∃o,DGet H3 a y o/\Q (o.getD z) H3
def l_V (td ty:TE):TE:=λσ H Q=>td σ H λx H1=>∃a,x= .ref a/\IsD H1 a/\ty σ H1 λy H2=>∃kvs k v,H2 a=some (.dK kvs)/\y=kV k/\c_K kvs k=some v/\Q v (upd H2 a (.dK (c_I kvs k)))
section
variable {X:Cx} {o e f:Expr} {apos cpos:Pos} {td ty tx:TE}
theorem i_4 (hu:X.A.units+1 < cLine) (ho:PE X o td) (he:PE X e ty) (hf:PE X f tx) (m:M2 X o "get" apos e f cpos):PE X (.Call (.Attribute o "get" apos) [e,f] [] cpos) (m_p td ty tx):=by
 intro pins s σ H Q I h;refine wpAny_Call_method m.base m.few m.line PySem.F.plainAttrs_dict PySem.F.slot_dict_get PySem.F.type_dict_get (thn (ho pins s σ H _ I h) λu s1 ⟨x,H1,I1,rx,a,ex,d,q1⟩=> ?_);subst ex;obtain rfl:u=Value.ref a:=rx;obtain⟨t1,t2,_⟩:=k_b I1 d;refine⟨t1,t2,?_⟩;rw[m.trees]
 refine Calls.callWith_builtin rfl (Calls.evalArgs_plain (Calls.spliced_cons (thn (he pins s1 σ H1 _ I1 q1) λiv s2 ⟨y,H2,I2,ry,q2⟩=>
  Calls.spliced_cons (thn (hf pins s2 σ H2 _ I2 q2) λfv s3 ⟨z,H3,I3,rz,ov,g,q3⟩=>Calls.spliced_nil ?_))))
 exact m_I hu I3 g ry rz λw' s4 I4 rw'=>⟨_,H3,I4,rw',q3⟩
theorem g_m (ho:PE X o td) (he:PE X e ty) (m:M1 X o "pop" apos e cpos):PE X (.Call (.Attribute o "pop" apos) [e] [] cpos) (l_V td ty):=by
 intro pins s σ H Q I h;refine wpAny_Call_method m.base m.few m.line PySem.F.plainAttrs_dict PySem.F.slot_dict_pop PySem.F.type_dict_pop (thn (ho pins s σ H _ I h) λu s1 ⟨x,H1,I1,rx,a,ex,d,q1⟩=> ?_);subst ex;obtain rfl:u=Value.ref a:=rx;obtain⟨t1,t2,_⟩:=k_b I1 d;refine⟨t1,t2,?_⟩;rw[m.trees];refine Calls.callWith_builtin rfl (Calls.evalArgs_plain (Calls.spliced_cons (thn (he pins s1 σ H1 _ I1 q1) λiv s2 ⟨y,H2,I2,ry,kvs,k,v,ea,ey,l,q2⟩=>Calls.spliced_nil ?_)));subst ey;exact m_9 I2 ea ry l (.inl rfl) λw' s3 I3 rw'=>⟨v,_,I3,rw',q2⟩
end
section
variable {X:Cx} {pins:List (Addr×Obj)} {σ:St} {H:Hp} {s:Shared} {a:Addr} {kvs:List (Key×V)} {A:Around} {E:Value->Shared->Prop}
end
section
variable {X:Cx} {pins:List (Addr×Obj)} {σ:St} {H:Hp} {s:Shared} {a:Addr} {y:V} {u:Value} {A:Around} {E:Value->Shared->Prop}
end
end L2
namespace Att
open PySem PySem.W PySem.Calls PyProof.Rows
theorem d_v {P:Params} {h:Heap}:∀(ns:List Int) (vs:List Value),WellAll P h vs (ns.map WData.int)->IntsAre vs ns:=by
 intro ns;induction ns with
 | nil=>
   intro vs w;rw[List.map_nil] at w;cases w;exact .nil
 | cons n ns ih=>
   intro vs w;rw[o_3] at w;cases w with
   | cons a b=>
     cases a;exact .cons _ _ (ih _ b)
theorem i_x {l:OpenLaw} {n:Nat} (hn:l.most=some n) {P:Params} {h:Heap} {args:List WData} {vals:List Value}
 (hpre:l.row.toRowW.claim.pre args=true) (hwl:WellAll P h vals args):
 ∃a vs ns,vals= [Value.ref a]/\args= [WData.list (ns.map WData.int)]/\h.get? a=some { cls:= .type "list",data:= .seq vs.toArray }/\IntsAre vs ns/\ns.length<=n:=by
 have e:WShape.hasAll [] args [.list .int]=true:=(pre_splitW hpre).1;have hc:l.pre.holds [] { args:=args }=true:=(pre_splitW hpre).2;obtain⟨d,r,rfl,h1,h2⟩:=hasAllW_cons e;obtain rfl:=hasAllW_nil h2;obtain⟨xs,rfl,h3⟩:=hasW_list h1;obtain⟨ns,rfl⟩:=items_int h3
 have c:ns.length<=n:=by
  unfold OpenLaw.pre at hc
  have h4:(WTm.not (.lt (.lit (.int (n:Int))) (.len (.arg 0)))).holds [] { args:= [.list (ns.map .int)] }=true:=by
   have h4:=(holds_andW hc).1;rw[hn] at h4;exact h4
  have h5:=condW_of h4 (w_not (w_lt w_lit (w_len_list (w_arg rfl))));rw[o_O] at h5;refine Nat.le_of_not_lt λq=> ?_;have q':(n:Int) < ((ns.length:Nat):Int):=by omega
  first
   | (rw[p_u q'] at h5;exact absurd h5 (by decide))
   | (simp at h5;omega)
 cases hwl with
 | cons w1 w2=>
   cases w2;cases w1 with
   | list ho b=>exact⟨_,_,ns,rfl,rfl,ho,d_v ns _ b,c⟩
theorem h_O (l:OpenLaw) (args:List WData):l.row.toRowW.claim.post args (.bool true) args=true:=
 postW_of (r:=l.row.toRowW) (X:=(true == true))
  (show WShape.has [] (.bool true) .bool=true by first | rfl | decide | simp[WShape.has,WShape.arms,WShape.armsAll])
  (show (WTm.eq .res (.lit (.bool true))).value [] { args:=args,res:=some (.bool true),after:=args }=some (.bool (true == true)) from w_eq_bool (w_res rfl) w_lit) rfl
theorem attach_call {l:OpenLaw} {n:Nat} {q:Program} {loose:List Str} {XP:(Str->Option Value)->Heap->Prop} {YP:World->Heap->Prop} {d:DefRec}
 (hn:l.most=some n) (hdf:d.params.defaults= [])
 (call:∀(w:World) (s₀ s₁:Shared) (mg mb:Str→Option Value) (fa:Addr) (o:Obj) (pm cd doc:Value) (a:Addr) (vs:List Value) (ns:List Int),
   Ground q loose [] XP w s₀ mg mb s₁.heap->YP w s₁.heap->
   s₁.heap.get? fa=some o->o.data= .func (docDef d.name d.params d.body d.scope pm cd doc)->s₁.heap.CodeRec cd d.name->mg d.name=some (.ref fa)->
   s₁.heap.get? a=some { cls:= .type "list",data:= .seq vs.toArray }->IntsAre vs ns->ns.length<=n->s₁.gens= #[]->
   codeAny (model l.prog w) callerA (.call (.ref fa) ⟨[.ref a], []⟩) (λr s'=>r= .ok (.ret (.bool true))/\OldK s₁.heap s'.heap/\s'.os=s₁.os/\AllBare s'.gens) s₁):
 WalkO q loose XP YP l.row.toRowW d [] (λf vs=>PySem.call f vs):=by
 intro w s₀ s₁ mg mb G Y fa o pm cd doc dV kV ho hd h hD g hg args vals as c j m i k;obtain rfl:dV= .none:=Dflts.none hD hdf;obtain rfl:kV= .none:=Dflts.noKw hD;obtain⟨a,vs,ns,rfl,rfl,b,hints,e⟩:=i_x hn c i;refine enter_call (codeAny_mono (call w s₀ s₁ mg mb fa o pm cd doc a vs ns G Y ho (fd_plain hd) h g b hints e hg) λr s' hq=> ?_);obtain⟨rfl,h2,h3,h4⟩:=hq;exact⟨.inl ⟨.bool true,.bool true, [],rfl,λ_=>rfl,.bool true,h_O l _,λ_=>⟨List.Pairwise.nil,λ_ hm=>(nomatch hm)⟩⟩,h2,h3,h4⟩
section
variable {prog:Program} {w:World} {A:Around} {E:Value->Shared->Prop} {s:Shared} {K:Frag}
end
end Att
namespace L2
open PySem PySem.Spec PyProof.Rows
theorem e_M:∀{vs:List Value} {ns:List Int},IntsAre vs ns->Vals (ns.map V.int) vs
 | _,_,.nil=> .nil
 | _,_,.cons n t h=> .cons ⟨t,rfl⟩ (e_M h)
def m_4 (H:Hp):Prop:=∀b,H b=none\/∃o xs,H b=some (.frz o (.lst xs))
theorem j_S {P:Program} {w:World} {K:PySem.W.Frag} {mg mb:Str->Option Value} {CX:CXT} {k:Nat} {fa a:Addr} {fd:FuncData} {x:Str} {sp:Sp} {s₁:Shared} {vs:List Value} {ns:List Int}
 (KX:K.In s₁.heap) (hns:s₁.heap.Ns mainGlobals mg) (hb:s₁.heap.Ns builtinsNs mb) (hbb:∀x:Str,x≠"__name__"->mb x=bootBuiltins x) (hlim:s₁.heap.NoLimit) (hg:s₁.gens= #[])
 (ha:s₁.heap.get? a=some { cls:= .type "list",data:= .seq vs.toArray }) (hi:IntsAre vs ns) (hl:ns.length<=sizeLine) (hr:Room k callerA)
 (F:∀base:Heap,K.In base->base.Ns mainGlobals mg->FnOk P w K mg base CX k fa fd [x] sp) (hbind:∀(s:Shared) (u:Value),BindsTo s fd ⟨[u], []⟩ [(x,u)])
 (hsp:∀H:Hp,m_4 H->SqL K H a (ns.map V.int)->sp [.ref a] H (λv _=>v= .bl true) λ_ _ _=>False)
 (hCX:∀H e s',CX [] H s₁ (λ_ _ _=>False) e s'->False):
 codeAny (model P w) callerA (.call (.ref fa) ⟨[.ref a], []⟩) (λr s'=>r= .ok (.ret (.bool true))/\OldK s₁.heap s'.heap/\s'.os=s₁.os/\AllBare s'.gens) s₁:=by
 have rv:=e_M hi;have lenV:=hi.length
 -- from an abstract heap in which nothing but the script may be tracked
 have core:∀H:Hp,m_4 H->SqL K H a (ns.map V.int)->HOk P w H s₁.heap->(∀b,H b≠none->b=a)->(H a≠none->K.lookup a=none)->
  codeAny (model P w) callerA (.call (.ref fa) ⟨[.ref a], []⟩) (λr s'=>r= .ok (.ret (.bool true))/\OldK s₁.heap s'.heap/\s'.os=s₁.os/\AllBare s'.gens) s₁:=by
  intro H hO hS c hA hK;have base_of:∀{b:Addr} {o:Obj},s₁.heap.get? b=some o->H b=none->(j_K s₁.heap H).get? b=some o:=λe n=>j_P e n
  have noA:∀{b:Addr} {o:Obj} {es:Array DictEntry} {ep:Nat},s₁.heap.get? b=some o->o.data= .dict es ep->H b=none:=λ{b o es ep} e d=>by
   cases q:H b with
   | none=>rfl
   | some u=>
     have e':b=a:=hA b (by rw[q];simp);subst e';rw[ha] at e;cases e;have d':Data.seq vs.toArray _=Data.dict es ep:=d;cases d'
  have nsK:∀{b:Addr} {m:Str->Option Value},s₁.heap.Ns b m->(j_K s₁.heap H).Ns b m:=λ{b m} ⟨o,es,ep,e,d,r⟩=>⟨o,es,ep,base_of e (noA e d),d,r⟩
  have f:K.In (j_K s₁.heap H):=λb o e=>base_of (KX b o e) (by
   cases q:H b with
   | none=>rfl
   | some u=>
     have e':b=a:=hA b (by rw[q];simp);subst e';rw[hK (by rw[q];simp)] at e;cases e)
  have hM:Mod K mg (j_K s₁.heap H):=⟨f,nsK hns,⟨mb,nsK hb,hbb⟩,let ⟨mc,h1,h2⟩:=hlim;⟨mc,nsK h1,h2⟩⟩;have e0:Env0 P w K mg (j_K s₁.heap H) callerA [] s₁ H:=⟨rfl,hM,λb o e=>l_f e,Nat.le_of_eq (h_D _ _),trivial,λb hb=>absurd (show b∈([]:List Addr) from hb) (by simp),c,.of_eq hg⟩;refine codeAny_mono ((F _ f (nsK hns)).run callerA [] s₁ H ⟨[.ref a], []⟩ [.ref a] [.ref a] _ _ hr e0 (hbind s₁ (.ref a)) (.cons rfl .nil) (hsp H hO hS)) λr s' h=> ?_;cases r with
  | error e=>exact (hCX H e s' h).elim
  | ok fl=>
    cases fl with
    | next=>exact False.elim h
    | brk=>exact False.elim h
    | cont=>exact False.elim h
    | ret u=>
      obtain⟨v,H',os,bare,un,g,r',q⟩:=h;have q':v= .bl true:=q;subst q';obtain rfl:u=Value.bool true:=r';refine⟨rfl,OldK.of_keep λb o e=> ?_, os,bare⟩;cases q:H b with
      | none=>exact un.keep b o e q (by intro z;exact absurd (show b∈([]:List Addr) from z) (by simp)) (by simp)
      | some u=>
        rcases hO b with z | ⟨ob,xs,z⟩
        ·rw[q] at z;cases z
        ·have z2:=un.frzs b ob _ z
         obtain⟨e1,_⟩:=c b _ z;obtain⟨e2,_⟩:=g b _ z2;rw[e] at e1;cases e1;exact e2
 cases hk:K.lookup a with
 | some o=>
   -- the script is one of the module's own objects
   have e:=KX a o hk;rw[ha] at e;cases e;refine core (λ_=>none) (λ_=> .inl rfl) (.inr ⟨_,vs.toArray,_,hk,rfl,rfl,rfl,by rw[o_Y,lenV];exact hl,by simpa using rv⟩) (λb u z=>by have z':(none:Option HO)=some u:=z;cases z') (λb z=>absurd rfl z) λz=>absurd rfl z
 | none=>
   refine core (λb=>if b=a then some (.frz { cls:= .type "list",data:= .seq vs.toArray } (.lst (ns.map V.int))) else none) (λb=> ?_) (.inl (.inr ⟨{ cls:= .type "list",data:= .seq vs.toArray },if_pos rfl⟩)) (λb u z=> ?_) (λb z=> ?_) λ_=>hk
   ·by_cases hb:b=a
    ·exact .inr ⟨_,_,if_pos hb⟩
    ·exact .inl (if_neg hb)
   ·by_cases hb:b=a
    ·have z':=(if_pos hb).symm.trans z
     cases z';subst hb;exact⟨ha,by rw[o_O];exact hl,vs,_,rv,ha⟩
    ·have z':=(if_neg hb).symm.trans z
     cases z'
   ·by_cases hb:b=a
    ·exact hb
    ·exact absurd (if_neg hb) z
theorem k_O {l:PySem.W.OpenLaw} {n k:Nat} {q:Program} {loose:List Str} {XP:(Str->Option Value)->Heap->Prop} {YP:World->Heap->Prop} {d:DefRec} {K:Params->PySem.W.Frag} {CX:World->CXT} {sp:World->Sp} {x:Str}
 (hn:l.most=some n) (hn2:n<=sizeLine) (hdf:d.params.defaults= []) (hr:Room k callerA)
 (hY:∀(w:World) (h:Heap),YP w h->(K w.params).In h)
 (F:∀(w:World) (mg:Str→Option Value) (fa:Addr) (h:Heap),(K w.params).In h→h.Ns mainGlobals mg→mg d.name=some (.ref fa)→
   ∃fd:FuncData,(∀(s:Shared) (u:Value),BindsTo s fd ⟨[u], []⟩ [(x,u)])/\
    ∀base:Heap,(K w.params).In base->base.Ns mainGlobals mg->FnOk l.prog w (K w.params) mg base (CX w) k fa fd [x] (sp w))
 (hsp:∀(w:World) (H:Hp) (a:Addr) (ns:List Int),ns.length<=n->m_4 H->SqL (K w.params) H a (ns.map V.int)->sp w [.ref a] H (λv _=>v= .bl true) λ_ _ _=>False)
 (hCX:∀(w:World) (H:Hp) (s:Shared) (e:Value) (s':Shared),CX w [] H s (λ_ _ _=>False) e s'->False):
 PySem.W.WalkO q loose XP YP l.row.toRowW d [] (λf vs=>PySem.call f vs):=by
 refine Att.attach_call hn hdf λw s₀ s₁ mg mb fa o pm cd doc a vs ns G Y ho hd m j i hints c hg=> ?_;have KX:=hY w _ Y;obtain⟨fd,hb,hF⟩:=F w mg fa _ KX G.T.g j;exact j_S KX G.T.g G.T.b G.T.builtins G.T.nolimit hg i hints (o_9 c hn2) hr hF hb (λH hO hS=>hsp w H a ns c hO hS) λH e s'=>hCX w H s₁ e s'
end L2
namespace L2
open PySem PySem.Spec PyProof.Rows
def a_0 (s:Stmt) (j:Nat):Stmt:=match s with
 | .ClassDef _ _ _ body _ _ _ _ _ _ _=>body.getD j (.Pass ⟨0,0,0,0⟩)
 | _=> .Pass ⟨0,0,0,0⟩
def d_A (s:Stmt):Arguments:=match s with
 | .FunctionDef _ a _ _ _ _ _ _ _ _=>a
 | _=>{ posonlyargs:= [],args:= [],vararg:=none,kwonlyargs:= [],kw_defaults:= [],kwarg:=none,defaults:= [] }
def c_d (s:Stmt):List Stmt:=match s with
 | .FunctionDef _ _ b _ _ _ _ _ _ _=>b
 | _=> []
def a_m (s:Stmt):Scope:=match s with
 | .FunctionDef _ _ _ _ _ _ sc _ _ _=>sc
 | _=>{ kind:= .function,names:= [],isGenerator:=false,isCoroutine:=false }
abbrev CX0:CXT:=λ_ _ _ _ _ _=>False
abbrev E0:XK:=λ_ _ _=>False
theorem a_u {X:Cx}:b_Q CX0 X E0:=λ_ _ _ _ _ _ _ h=>h.elim
structure Fun (K:PySem.W.Frag) (x qual:Str) (st:Stmt) (f:Addr) (fd:FuncData):Prop where
 ex:∃(oc:Value) (od:Option Addr) (kV doc pm:Value) (an:Option Addr) (cdv ct:Value) (osl:Array (Option Value)),
  fd=PySem.W.fnOf x qual (d_A st) (c_d st) (a_m st) .none kV doc pm an cdv ct/\K.lookup f=some ⟨oc,od,.func fd,osl⟩/\PySem.W.codeIn K cdv qual=true
 kp:PySem.W.keepIn K (.ref f)=true
section
variable {P:Program} {w:World} {K:PySem.W.Frag} {mg:Str->Option Value} {base:Heap}
theorem Fun.ok {x qual:Str} {st:Stmt} {f:Addr} {fd:FuncData} {N ps:List Str} {k:Nat} {sp:Sp} (F:Fun K x qual st f fd) (S:a_s N ps (a_m st)) (len:∀vs H Q E,sp vs H Q E->vs.length=ps.length)
 (hbody:∀(cdv:Value) (A:Around) (outer:List Env) (s:Shared) (H:Hp) (vs:List V) (Q:VK) (E:XK),Room k (A.deeper (envOfC qual (a_m st) s.heap.objs.size f cdv))→sp vs H Q E→
   ∃t,PSs (g_P CX0 P w K mg base N qual (a_m st) f cdv A outer s H E).nox (c_d st) t/\t { nx:=λ_ H'=>Q .non H',rt:=Q } (start N vs) H):FnOk P w K mg base CX0 (k+1) f fd ps sp:=by
 obtain⟨oc,od,kV,doc,pm,an,cdv,ct,osl,rfl,lk,b⟩:=F.ex;refine m_0 lk b S len λA outer s H vs Q E hr a=> ?_;obtain⟨t,h,q⟩:=hbody cdv A outer s H vs Q E hr a;exact⟨t,h.nox,q⟩
theorem Fun.binds {x qual:Str} {st:Stmt} {f:Addr} {fd:FuncData} {ps:List Str} (F:Fun K x qual st f fd)
 (h:∀(kV doc pm:Value) (an:Option Addr) (cdv ct:Value) (us:List Value),us.length=ps.length->bindArgs (PySem.W.fnOf x qual (d_A st) (c_d st) (a_m st) .none kV doc pm an cdv ct) ⟨us, []⟩=pure (ps.zip us)):Binds K fd ps []:=by
 obtain⟨oc,od,kV,doc,pm,an,cdv,ct,osl,rfl,lk,a⟩:=F.ex;exact .all (h kV doc pm an cdv ct)
theorem a_D {x qual:Str} {st:Stmt} {f:Addr} {oc:Value} {od an:Option Addr} {osl:Array (Option Value)} {kV doc pm cdv ct:Value} (l:K.lookup f=some ⟨oc,od,.func (PySem.W.fnOf x qual (d_A st) (c_d st) (a_m st) .none kV doc pm an cdv ct),osl⟩)
 (c:PySem.W.codeIn K cdv qual=true) (k:PySem.W.keepIn K (.ref f)=true):Fun K x qual st f (PySem.W.fnOf x qual (d_A st) (c_d st) (a_m st) .none kV doc pm an cdv ct):=⟨⟨oc,od,kV,doc,pm,an,cdv,ct,osl,rfl,l,c⟩,k⟩
end
theorem e_u {A:Around} {k:Nat} (hr:Room k A):A.units+1 < cLine:=p_t (Nat.add_le_add_left (by decide:1<=64) _) hr.units
theorem a_4 {n:Nat} (h:n<=1000):n < sizeLine:=p_t h (by decide)
section
variable {X:Cx}
theorem pv (i:Nat) {x:Str} {pos:Pos} (hN:X.N[i]? =some x:=by rfl) (hv:Vis X.env.scope x:=by first | exact Or.inl rfl | exact Or.inr (Or.inl rfl) | exact Or.inr (Or.inr rfl)) (hd:(x == ("__debug__":Str))=false:=by decide)
 (hcd:(x == ("__classdict__":Str))=false:=by decide):PE X (.Name x pos) (o_e i):=m_f hN hv hd hcd
theorem f_c:d_z X (.builtin "len") (λxs H Q=>∃a kvs,xs= [V.ref a]/\H a=some (.dK kvs)/\Q (.int kvs.length) H):=by
 intro pins s σ H xs us Q I r h;obtain⟨a,kvs,rfl,ha,q⟩:=h;obtain⟨u,rfl,ru⟩:=g_N r;cases ru;exact n_X I (.inl ha) λt s' I'=>⟨.int kvs.length,H,I',⟨t,rfl⟩,q⟩
end
theorem d_G {A B:Prop} (h:B):if false=true then A else B:=by
 rw[if_neg o_5];exact h
theorem k_v {A B:Prop} (h:A):if true=true then A else B:=by
 rw[if_pos rfl];exact h
theorem a_z {c A B:Prop} [Decidable c] (h1:c->A) (h2:¬ c->B):if c then A else B:=by
 by_cases h:c
 ·rw[if_pos h]
  exact h1 h
 ·rw[if_neg h]
  exact h2 h
theorem h_2 {c A B:Prop} [Decidable c] (hc:c) (h:B):if (!decide c)=true then A else B:=by
 rw[p_u hc];exact d_G h
def Same (H H':Hp):Prop:=∀b o,H b=some o->H' b=some o
theorem Same.refl (H:Hp):Same H H:=λ_ _ h=>h
theorem Same.trans {H H1 H2:Hp} (a:Same H H1) (b:Same H1 H2):Same H H2:=λc o h=>b c o (a c o h)
theorem Same.free {H H':Hp} (e:Same H H') {l:Addr} (h:H' l=Option.none):H l=Option.none:=by
 cases q:H l with
 | none=>rfl
 | some o=>
   rw[e l o q] at h;cases h
theorem Same.seq {K:PySem.W.Frag} {H H':Hp} {a:Addr} {xs:List V} (e:Same H H') (h:SqL K H a xs):SqL K H' a xs:=by
 rcases h with (h | ⟨o,h⟩) | h
 ·exact .inl (.inl (e _ _ h))
 ·exact .inl (.inr ⟨o,e _ _ h⟩)
 ·exact .inr h
section
variable {κ:Type} [DecidableEq κ]
end
end L2
namespace K1
open PySem L2
def top (i:Nat):Stmt:=PySem.Challenge.pw_twoorders_k07_a_store_by_hand.main.body.getD i (.Pass ⟨0,0,0,0⟩)
abbrev sCW:Stmt:=top 11
abbrev l_P:Stmt:=top 12
abbrev n_b:Stmt:=top 13
abbrev h_s:Stmt:=top 22
abbrev sAt:Stmt:=top 23
abbrev k_7:Stmt:=top 24
abbrev i_B:Stmt:=top 25
abbrev h_X:Stmt:=top 26
abbrev n_u:Stmt:=top 27
abbrev l_J:Stmt:=top 41
abbrev f_E:Stmt:=top 42
abbrev f_O:Stmt:=top 43
abbrev f_w:Stmt:=top 44
abbrev h_H:Stmt:=top 45
abbrev n_q:Stmt:=top 49
abbrev c_5:Stmt:=top 28
abbrev c_f:Stmt:=top 29
abbrev d_n:Stmt:=top 30
abbrev e_o:Stmt:=top 31
abbrev d_h:Stmt:=top 32
abbrev d_9:Stmt:=top 33
abbrev d_w:Stmt:=top 34
abbrev b_D:Stmt:=top 46
abbrev f_I:Stmt:=top 47
abbrev c_A:Stmt:=top 20
abbrev f_o:Stmt:=top 35
abbrev k_H:Stmt:=top 36
abbrev i_Q:Stmt:=top 37
abbrev f_2:Stmt:=top 38
abbrev h_S:Stmt:=top 39
abbrev i_M:Stmt:=top 40
abbrev d_g:Stmt:=top 48
abbrev sC:Stmt:=top 17
abbrev j_x:Stmt:=a_0 sC 0
abbrev k_K:Stmt:=a_0 sC 1
abbrev n_a:Stmt:=a_0 sC 2
abbrev sBA:Stmt:=a_0 sC 6
abbrev sRA:Stmt:=a_0 sC 7
abbrev h_j:Stmt:=a_0 sC 8
abbrev l_O:Stmt:=a_0 sC 9
abbrev sSC:Stmt:=top 19
abbrev k_0:Stmt:=a_0 sSC 0
abbrev h_A:Stmt:=a_0 sSC 1
abbrev i_J:Stmt:=a_0 sSC 2
abbrev n_r:Stmt:=a_0 sSC 3
abbrev h_V:Stmt:=a_0 sSC 4
abbrev l_F:Stmt:=a_0 sSC 5
abbrev h_7:Stmt:=a_0 sSC 6
abbrev h_Y:Stmt:=a_0 sSC 7
abbrev n_t:Stmt:=a_0 sSC 8
abbrev f_m:Stmt:=a_0 sSC 9
abbrev l_i:Stmt:=a_0 sSC 10
end K1
namespace PySem.SeqAt
open AutoSeq1 (wpAny_loadPart')
open MeetsSeq MeetsSeq2 MeetsSeq3 SeqRoads2
theorem e_e (l:Addr) (items:Array Value) (n:Nat) (x:Value) (e:Value->Bool) (j:Nat) (hj:j < items.size) (hit:e items[j]=true) (k:Nat) (hs1:items.size<=sizeLine):
 ∀i:Nat,j - i=k->i<=j->(∀m (hm:m < items.size),i<=m->m < j->e items[m]=false)->Meets (Builtin.«list.remove.loop» ⟨[.ref l,x,rawInt i], []⟩)
  (λA R s=>s.heap.get? l=some { cls:= .type "list",dict:=none,data:= .seq items n,slots:= #[] }/\(∀y,y∈items->EqAt A.in1 s y x (e y))/\R (.ok (.ret .none)) { s with heap:=s.heap.update l (Obj.mapSeq λxs=>xs.eraseIdxIfInBounds j) }):=by
 induction k with
 | zero=>
   intro i hk o a prog w A R s h;obtain⟨hp,g,d,tk,os⟩:=s;obtain⟨hl,he,h⟩:=h;have c:i=j:=by omega
   subst c;wp_walk using wpAny_loadPart' hl;have hi:items[((i:Nat):Int).toNat]? =some items[i]:=by simp[hj]
   rw[hi];refine wpAny_bind (he _ (Array.getElem_mem hj) prog w _ _ ?_);rw[hit];have f:(items.eraseIdxIfInBounds i).size<=sizeLine+1:=o_9 (size_erased items _) (Nat.le_succ_of_le hs1);wp_walk using (wpAny_updateSeq hl rfl (hz:=hs1) (_hz':=f)),wpAny_loadPart' hl;simpa using h
 | succ k ih=>
   intro i hk o a prog w A R s h;obtain⟨hp,g,d,tk,os⟩:=s;obtain⟨hl,he,h⟩:=h;have b:i < items.size:=by omega
   wp_walk using wpAny_loadPart' hl;have hi:items[((i:Nat):Int).toNat]? =some items[i]:=by simp[b]
   have hc:((i:Int)+1)=((i+1:Nat):Int):=by push_cast;rfl
   rw[hi];refine wpAny_bind (he _ (Array.getElem_mem b) prog w _ _ ?_);rw[a i b (o_X _) (by omega)];wp_walk;rw[hc]
   exact⟨plainId_quiet plain_remove_loop _,codeAny_builtin entry_remove_loop (by
    rw[Around.under_plainId plain_remove_loop _];exact ih (i+1) (by omega) (by omega) (λm hm h1 h2=>a m hm (by omega) h2) prog w A R _ ⟨hl,he,h⟩)⟩
theorem list_removeAt (l:Addr) (items:Array Value) (n:Nat) (x:Value) (e:Value->Bool) (j:Nat) (hj:j < items.size)
 (hit:e items[j]=true) (hno:∀m (hm:m < items.size),m < j->e items[m]=false) (hs1:items.size<=sizeLine):
 Meets (Builtin.«list.remove» ⟨[.ref l,x], []⟩)
  (λA R s=>s.heap.get? l=some { cls:= .type "list",dict:=none,data:= .seq items n,slots:= #[] }/\(∀y,y∈items->EqAt A.in1 s y x (e y))/\R (.ok (.ret .none)) { s with heap:=s.heap.update l (Obj.mapSeq λxs=>xs.eraseIdxIfInBounds j) }):=by
 intro prog w A R s h;obtain⟨hp,g,d,tk,os⟩:=s;obtain⟨hl,he,h⟩:=h;wp_walk using wpAny_loadPart' hl
 exact⟨plainId_quiet plain_remove_loop _,codeAny_builtin entry_remove_loop (by
  rw[Around.under_plainId plain_remove_loop _];exact e_e l items n x e j hj hit _ hs1 0 rfl (p_g _) (λm hm _ h2=>hno m hm h2) prog w A R _ ⟨hl,he,h⟩)⟩
theorem list_extend_tupleAt (l:Addr) (items:Array Value) (n:Nat) (b:Addr) (items2:Array Value) (n2:Nat) (dd:Option Addr) (sl:Array (Option Value)) (hs0:¬(!items.isEmpty&&Builtin.List.listTooLong (items.size+items2.size))=true) (hs1:items.size<=sizeLine) (hs2:items.size+items2.size<=sizeLine+1):
 Meets (Builtin.«list.extend» ⟨[.ref l,.ref b], []⟩) (λ_ R s=>s.heap.get? l=some { cls:= .type "list",dict:=none,data:= .seq items n,slots:= #[] }/\s.heap.get? b=some { cls:= .type "tuple",dict:=dd,data:= .seq items2 n2,slots:=sl }/\R (.ok (.ret Value.none)) { s with heap:=s.heap.update l (Obj.mapSeq λx=>x++items2),toks:=s.toks }):=
 .of_wp λprog w A R s h=>by
  obtain⟨hp,g,d,tk,os⟩:=s;obtain⟨hl,hb,h⟩:=h;have f1:=AutoSeq1.idx_int;have f2:=AutoSeq1.sub_tuple_tuple;have f3:=AutoSeq1.sub_list_list;have f4:=AutoSeq1.sub_tuple_list;have f5:=AutoSeq1.sub_list_tuple;have a:(items++items2).size<=sizeLine+1:=by rw[Array.size_append];exact hs2
  wp_walk using (wpAny_updateSeq hl rfl (hz:=hs1) (_hz':=a)),wpAny_loadPart' hl,wpAny_loadPart' hb;exact⟨_,rfl,h⟩
end PySem.SeqAt
namespace L2
open PySem PySem.Spec PyProof.Rows
def ltV:V->V->Bool
 | .int a,.int b=>decide (a < b)
 | .str a,.str b=>decide (a.cps.toList < b.cps.toList)
 | _,_=>false
def d_j:V->V->Bool
 | .int _,.int _=>true
 | .str _,.str _=>true
 | _,_=>false
def e_S:List V->List V->Prop
 | x::xs,y::ys=>d_j x y=true/\e_S xs ys
 | _,_=>True
def b_e:List V->List V->Bool
 | [], []=>false
 | [],_::_=>true
 | _::_, []=>false
 | x::xs,y::ys=>if x=y then b_e xs ys else ltV x y
theorem b_r (x y:V) (xs ys:List V):b_e (x::xs) (y::ys)=if x=y then b_e xs ys else ltV x y:=rfl
theorem c_E {A:Around} {s:Shared} {x y:V} {u v:Value} (rx:RelV x u) (ry:RelV y v) (h:d_j x y=true):SeqAt.EqAt A s u v (decide (x=y)):=by
 cases x with
 | int a=>
   cases y with
   | int b=>
     obtain⟨t,rfl⟩:=rx;obtain⟨t',rfl⟩:=ry;rw[f_v];exact SeqAt.EqAt.int_int a t b t'
   | _=>cases h
 | str a=>
   cases y with
   | str b=>
     have e:=j_8 (A:=A) (s:=s) rx ry rfl rfl;rw[f_L];exact e
   | _=>cases h
 | _=>cases y <;> cases h
theorem j_J {prog:Program} {w:World} {A:Around} {E:Value->Shared->Prop} {s:Shared} {x y:V} {u v:Value} {Q:Value->Shared->Prop} (rx:RelV x u) (ry:RelV y v) (h:d_j x y=true) (q:Q (.bool (ltV x y)) s):
 wpAny (model prog w) A (compareOp .Lt u v) Q E s:=by
 cases x with
 | int a=>
   cases y with
   | int b=>
     obtain⟨t,rfl⟩:=rx;obtain⟨t',rfl⟩:=ry;exact lt_int q
   | _=>cases h
 | str a=>
   cases y with
   | str b=>
     obtain⟨t,rfl⟩:=rx;obtain⟨t',rfl⟩:=ry;exact lt_str q
   | _=>cases h
 | _=>cases y <;> cases h
section
open PySem.SeqAt
open PySem.AutoSeq1 (wpAny_loadPart')
open PySem.MeetsSeq PySem.MeetsSeq2 PySem.MeetsSeq3
theorem g_8 (l b:Addr) (items items2:Array Value) (n n2:Nat) (dd dd2:Option Addr) (sl sl2:Array (Option Value)) (xs ys:List V) (hi:Vals xs items.toList) (hj:Vals ys items2.toList) (ha:e_S xs ys):
 Meets (Builtin.«tuple.__lt__» ⟨[.ref l,.ref b], []⟩)
  (fun _ R s=>s.heap.get? l=some { cls:= .type "tuple",dict:=dd,data:= .seq items n,slots:=sl }∧s.heap.get? b=some { cls:= .type "tuple",dict:=dd2,data:= .seq items2 n2,slots:=sl2 }∧
    R (.ok (.ret (.bool (b_e xs ys)))) s):=
 .of_wp λprog w A R s h=>by
  obtain⟨hp,g,d,tk,os⟩:=s;obtain⟨hl,hb,h⟩:=h;have f2:=AutoSeq1.sub_tuple_tuple;have z1:items.size=xs.length:=by rw[hi.length];simp
  have z2:items2.size=ys.length:=by rw[hj.length];simp
  wp_walk using wpAny_loadPart' hl,wpAny_loadPart' hb,wpAny_forIn_list _ (λd_F b s'=>b.1=none/\s'=⟨hp,g,d,tk,os⟩/\∃(vs ws:List Value) (xs' ys':List V),d_F=vs.zip ws/\
   Vals xs' vs/\Vals ys' ws/\e_S xs' ys'/\xs'.length+items2.size=ys'.length+items.size/\R (.ok (.ret (.bool (b_e xs' ys')))) ⟨hp,g,d,tk,os⟩) _
  case turn=>
   rintro⟨y,x⟩ d_F b s' ⟨j,rfl,vs,ws,xs',ys',hz,i,f,c,a,hR⟩;cases i with
   | nil=>rw[List.zip_nil_left] at hz;cases hz
   | @cons xa ua xr ur ra hvi'=>
     cases f with
     | nil=>rw[List.zip_nil_right] at hz;cases hz
     | @cons ya va yr vr rc hwi'=>
       rw[List.zip_cons_cons] at hz;injection hz with m k
       injection m with hy hx
       subst hy hx;rw[b_r] at hR;simp only[o_U] at a;refine wpAny_bind (c_E ra rc c.1 prog w _ _ ?_);by_cases e:xa=ya
       ·rw[if_pos e] at hR
        rw[p_u e];wp_walk;exact⟨rfl,rfl,_,_,_,_,k,hvi',hwi',c.2,by omega,hR⟩
       ·rw[if_neg e] at hR
        rw[p_v e];have o:∀(E:Value->Shared->Prop) (Q:Value->Shared->Prop),Q (.bool (ltV xa ya)) ⟨hp,g,d,tk,os⟩->wpAny (model prog w) A.in1 (richCompare .Lt _ _) Q E ⟨hp,g,d,tk,os⟩:=λE Q q=>j_J (A:=A.in1) ra rc c.1 q;wp_walk using o;exact⟨_,rfl,by simpa using hR⟩
  case fin=>
   rintro⟨b1,b2⟩ s' ⟨j,rfl,vs,ws,xs',ys',hz,i,f,c,a,hR⟩;simp only at j;subst j
   have hv:b_e xs' ys'=decide (items.size < items2.size):=by
    cases i with
    | nil=>
      cases f with
      | nil=>
        simp only[p_o] at a;show false=_;exact (p_v (by omega)).symm
      | cons rc hw=>
        simp only[p_o,o_U] at a;show true=_;exact (p_u (by omega)).symm
    | cons ra hv=>
      cases f with
      | nil=>
        simp only[p_o,o_U] at a;show false=_;exact (p_v (by omega)).symm
      | cons rc hw=>
        rw[List.zip_cons_cons] at hz;cases hz
   rw[hv] at hR;wp_walk;exact⟨_,rfl,by simpa[Builtin.Tuple.tupleCompareSizes] using hR⟩
  case h=>
   exact⟨rfl,rfl,items.toList,items2.toList,xs,ys,rfl,hi,hj,ha,by omega,h⟩
end
section
variable {X:Cx}
theorem k_Y {prog:Program} {w:World} {A:Around} {E:Value->Shared->Prop} {s:Shared} {l b:Addr} {items items2:Array Value} {xs ys:List V} {Q:Value->Shared->Prop} (hl:IsTup s.heap l items) (hb:IsTup s.heap b items2) (hi:Vals xs items.toList) (hj:Vals ys items2.toList)
 (ha:e_S xs ys) (hu:A.units < cLine) (h:Q (.bool (b_e xs ys)) s):wpAny (model prog w) A (compareOp .Lt (.ref l) (.ref b)) Q E s:=by
 obtain⟨⟨cls,dd,data,sl⟩,ho,hc,n,hd⟩:=id hl;obtain⟨⟨g,e,data2,f⟩,c,a,n2,d⟩:=id hb;simp only at hc hd a d;subst hc hd a d
 exact richCompare_meets_room (op:= .Lt) ⟨_,ho,rfl⟩ ⟨_,c,rfl⟩ PySem.F.slot_tuple_lt PySem.F.entry_tuple_lt (PySem.F.args_tuple_lt_2 _ _) (g_8 l b items items2 n n2 dd e sl f xs ys hi hj ha)
  ⟨ho,c,show Value.bool (b_e xs ys)≠Value.notImplemented/\Q (.bool (b_e xs ys)) s from ⟨(λx=>nomatch x),h⟩⟩ hu
def o_j (K:PySem.W.Frag):R2:=λx y H Q=>∃a b xs ys,x= .ref a/\y= .ref b/\SqT K H a xs/\SqT K H b ys/\e_S xs ys/\Q (.bl (b_e xs ys)) H
theorem i_a (hu:X.A.units < cLine):OpR X (compareOp .Lt) (o_j X.K):=by
 intro pins s σ H x y v u Q I rx ry h;obtain⟨a,b,xs,ys,rfl,rfl,ha,hb,hal,q⟩:=h;cases rx;cases ry;obtain⟨its,r,p,_⟩:=I.tuple ha;obtain⟨its2,r2,p2,_⟩:=I.tuple hb;exact k_Y p p2 (by simpa using r) (by simpa using r2) hal hu (a_G I q rfl)
def k_5:V->List V->Hp->VK->Prop:=λx vs H Q=>∃l xs y,∃i:Int,x= .ref l/\vs= [.int i,y]/\H l=some (.lst xs)/\xs.length < sizeLine/\0<=i/\i<=xs.length/\Q .non (upd H l (.lst (xs.take i.toNat++y::xs.drop i.toNat)))
theorem f_d:MtM X "list.insert" k_5:=by
 intro pins s σ H x vs v us Q I rx rv h;obtain⟨l,xs,y,i,rfl,rfl,hH,hz,f,hi,q⟩:=h;cases rx;obtain⟨u1,u2,rfl,c,a⟩:=rv.two;obtain⟨t,rfl⟩:=c;obtain⟨z,its,n,r,hl,e⟩:=I.lstM hH;have d:=c_9;have h1: -(2 ^ 63)<=i:=by omega
 have h2:i < 2 ^ 63:=by omega
 have hf:¬ (!Builtin.List.listFitsIndex i)=true:=by
  rw[fitsIndex_both h1 h2];exact o_5
 have b:its.toArray.size<=sizeLine:=by rw[o_Y];omega
 refine call_meets F.slot_list_insert ⟨_,e,rfl⟩ F.entry_list_insert (F.args_list_insert_3 _ _ _) (AutoSeq1.list_insert_list_int_val_1 l its.toArray n i t u2 hf b) ⟨e,?_⟩;refine⟨.non,_,I.lset (its':=its.take i.toNat++u2::its.drop i.toNat) hH e ?_ (Vals.append (r.take i.toNat) (.cons a (r.drop i.toNat))) ?_, rfl,q⟩
 ·show (its.toArray.extract 0 (if i < 0 then (i+(its.toArray.size:Int)).toNat else min i.toNat its.toArray.size)).push u2++its.toArray.extract (if i < 0 then (i+(its.toArray.size:Int)).toNat else min i.toNat its.toArray.size)=_
  rw[if_neg (by omega),o_Y,Nat.min_eq_left (by omega)];simp[List.extract_eq_drop_take];exact o_8 (by simp)
 ·simp only[o_Q,o_U,p_a,List.length_drop]
  omega
def k_i (K:PySem.W.Frag) (neg:Bool):R2:=λx y H Q=>∃l b xs,x= .ref l/\y= .ref b/\SqL K H l xs/\H b=some (.lst [])/\Q (.bl (if neg then !xs.isEmpty else xs.isEmpty)) H
theorem g_E (hu:X.A.units < cLine):OpR X (compareOp .Eq) (k_i X.K false):=by
 intro pins s σ H x y v u Q I rx ry h;obtain⟨l,b,xs,rfl,rfl,hl,hb,q⟩:=h;cases rx;cases ry;obtain⟨its,r,p,_⟩:=I.list hl;obtain⟨c,r2,p2,_⟩:=I.list (SqL.of hb:SqL X.K H b []);cases r2;cases xs with
 | nil=>
   cases r;exact SeqAt.eq_listAt (e:=λ_=>true) p.isList p2.isList rfl hu (λj h1 _=>by simp at h1) (a_G I q (by simp))
 | cons a t=>
   cases r with
   | cons ra rt=>exact SeqAt.eq_list_lengthsAt p.isList p2.isList (by simp) hu (a_G I q rfl)
theorem i_5 (hu:X.A.units < cLine):OpR X (compareOp .NotEq) (k_i X.K true):=by
 intro pins s σ H x y v u Q I rx ry h;obtain⟨l,b,xs,rfl,rfl,hl,hb,q⟩:=h;cases rx;cases ry;obtain⟨its,r,p,_⟩:=I.list hl;obtain⟨c,r2,p2,_⟩:=I.list (SqL.of hb:SqL X.K H b []);cases r2;cases xs with
 | nil=>
   cases r;exact SeqAt.RcNeAt.lists (A:=X.A) (s:=s) (e:=λ_=>true) p.isList p2.isList rfl hu (λj h1 _=>by simp at h1) _ _ _ _ (a_G I q (by simp))
 | cons a t=>
   cases r with
   | cons ra rt=>exact SeqAt.RcNeAt.lists_lengths (A:=X.A) (s:=s) p.isList p2.isList (by simp) hu _ _ _ _ (a_G I q rfl)
theorem c_j:∀{as:List Addr} {its:List Value},Vals (as.map V.ref) its->its=as.map Value.ref
 | [],_,.nil=>rfl
 | a::r,_,.cons h t=>by
   obtain rfl:=(show _=Value.ref a from h);rw[c_j t,o_3]
theorem g_z {n:Nat}:(List.range n).all (λ_=>true)=true:=by simp
def j_N (K:PySem.W.Frag):V->List V->Hp->VK->Prop:=λx vs H Q=>∃l b xs zs,x= .ref l/\vs= [.ref b]/\H l=some (.lst xs)/\H b=some (.tup zs)/\xs.length+zs.length<=sizeLine/\Q .non (upd H l (.lst (xs++zs)))
theorem d_X:MtM X "list.extend" (j_N X.K):=by
 intro pins s σ H x vs v us Q I rx rv h;obtain⟨l,b,xs,zs,rfl,rfl,hH,hB,hz,q⟩:=h;cases rx;obtain⟨u,rfl,ru⟩:=rv.one;cases ru;obtain⟨z,its,n,r,hl,e⟩:=I.lstM hH;obtain⟨z2,a,r2,⟨m,g,data2,i⟩,j,f,n2,d⟩:=I.hok b _ hB;simp only at f d;subst f d;have o:=r2.length;have k:its.toArray.size+a.toArray.size<=sizeLine:=by rw[o_Y,o_Y];omega
 have c:¬ (!its.toArray.isEmpty&&Builtin.List.listTooLong (its.toArray.size+a.toArray.size))=true:=by
  rw[g_v k,Bool.and_false];exact o_5
 refine call_meets F.slot_list_extend ⟨_,e,rfl⟩ F.entry_list_extend (F.args_list_extend_2 _ _)
  (PySem.SeqAt.list_extend_tupleAt l its.toArray n b a.toArray n2 g i c (by rw[o_Y];omega) (by omega)) ⟨e,j,?_⟩
 refine⟨.non,_,I.lset (its':=its++a) hH e (by simp) (r.append r2) ?_, rfl,q⟩;rw[o_Q];omega
end
section
variable {prog:Program} {w:World} {A:Around} {R:Result->Shared->Prop} {s:Shared}
theorem e_N {elt target iter:Expr} {ifs:List Expr} {scope:Scope} {pos:Pos} {it acc:Value} {env:Env} (I:Nat->Shared->Prop)
 (turn:∀n s,I n s→wpAny (model prog w) A (pyNext it) (fun r s₁=>match r with
   | none=>R (.ok .next) s₁
   | some v=>wpAny (model prog w) A (letOwnedTupleGo target it v) (fun _ s₀=>wpAny (model prog w) A (assign target env v) (fun _ s₂=>
      wpAny (model prog w) A (forIn ifs true λc r=>if r=true then do let ok<-isTrue c env (eval c env);pure (ForInStep.yield ok) else pure (ForInStep.yield r)) (λok s₃=>
       if ok=true then wpAny (model prog w) A (eval elt env) (λx s₄=>
        wpAny (model prog w) A (call (.builtin "list.append") [acc,x]) (λ_ s₅=>∃m,m < n/\I m s₅) (λ_ _=>False) s₄) (λ_ _=>False) s₃
       else ∃m,m < n/\I m s₃) (λ_ _=>False) s₂) (λ_ _=>False) s₀) (λ_ _=>False) s₁) (λ_ _=>False) s)
 (n:Nat) (h:I n s):
 codeAny (model prog w) A (.compLoop (.ListComp elt [⟨target,iter,ifs,0⟩] scope pos) 0 it acc env) R s:=by
 refine codeAny_loop rfl I (λn s hI=> ?_) n h;show wpAny _ A ((compTurn (.ListComp elt [⟨target,iter,ifs,0⟩] scope pos) 0 it acc env).onRaise (λx=>do noteFrame x env;theTreesLotGoes x)) _ _ s;refine wpAny_noted ?_;rw[compTurn_list];refine wpAny_bind (wpAny_standAt (wpAny_bind (wpAny_mono (turn n s hI) (λr s₁ h₁=> ?_) λ_ _ h'=>h'.elim)));cases r with
 | none=>exact wpAny_pure h₁
 | some v=>
   refine wpAny_bind (wpAny_mono h₁ (λ_ s₀ h₀=> ?_) λ_ _ h'=>h'.elim);refine wpAny_bind (wpAny_mono h₀ (λ_ s₂ h₂=>wpAny_bind (wpAny_mono h₂ (λok s₃ h₃=> ?_) λ_ _ h'=>h'.elim)) λ_ _ h'=>h'.elim);cases ok with
   | false=>exact wpAny_pure ⟨rfl,h₃⟩
   | true=>
     exact wpAny_bind (wpAny_bind (wpAny_mono h₃ (λx s₄ h₄=>wpAny_bind (wpAny_mono h₄ (λ_ s₅ h₅=>wpAny_pure (wpAny_pure ⟨rfl,h₅⟩)) λ_ _ h'=>h'.elim)) λ_ _ h'=>h'.elim))
end
def l_C (env:Env) (fns:List Str):List (Str×Addr):=fns.filterMap λy=>(env.cells.lookup y).map λc=>(y,c)
theorem b_q {env:Env}:∀{fns:List Str} {y:Str} {c:Addr},(l_C env fns).lookup y=some c->env.cells.lookup y=some c/\y∈fns
 | [],_,_,h=>by cases h
 | z::r,y,c,h=>by
   unfold l_C at h;rw[List.filterMap_cons] at h;cases e:env.cells.lookup z with
   | none=>
     simp only[e,Option.map_none] at h;obtain⟨a,b⟩:=b_q (fns:=r) h;exact⟨a,o_R _ b⟩
   | some d=>
     simp only[e,Option.map_some,List.lookup_cons] at h;cases q:y == z with
     | true=>
       rw[q] at h;have q':y=z:=eq_of_beq q;subst q';cases h;exact⟨e,o_S ..⟩
     | false=>
       rw[q] at h;obtain⟨a,b⟩:=b_q (fns:=r) h;exact⟨a,o_R _ b⟩
theorem e_n {env:Env}:∀{fns:List Str} {y:Str} {c:Addr},y∈fns->env.cells.lookup y=some c->(l_C env fns).lookup y=some c
 | z::r,y,c,hy,hc=>by
   unfold l_C;rw[List.filterMap_cons];cases q:y == z with
   | true=>
     have q':y=z:=eq_of_beq q;subst q';simp only[hc,Option.map_some,List.lookup_cons,beq_self_eq_true]
   | false=>
     have a:y∈r:=by
      rcases o_Z.mp hy with e | e
      ·subst e;simp at q
      ·exact e
     have ih:=e_n (env:=env) a hc;cases e:env.cells.lookup z with
     | none=>simp only[Option.map_none];exact ih
     | some d=>simp only[Option.map_some,List.lookup_cons,q];exact ih
def b_j (X:Cx) (scope:Scope) (fns:List Str) (N:List Str) (fp:List Addr) (pins:List (Addr×Obj)) (s:Shared) (H:Hp):Cx where
 prog:=X.prog
 w:=X.w
 K:=X.K
 mg:=X.mg
 base:=X.base
 A:=X.A
 N:=N
 s₀:=s
 H₀:=H
 env:=compEnvC scope (l_C X.env fns) s.heap.objs.size X.env
 outer:=X.stack
 stack:=X.stack
 ex:=fp
 fn:=λ_=>false
 calm:=X.calm
 pn:=X.pn++pins
 xe:=λ_ _=>False
structure e_0 (X:Cx) (scope:Scope) (x:Str) (fns:List Str) (js:List Nat):Prop where
 kind:scope.kind= .function
 nocell:∀y∈scope.names,y.2≠ .cell
 locs:∀y∈scope.names,y.2= .local->scope.names.lookup y.1=some .local
 loc:scope.names.lookup x=some .local
 free:∀y∈scope.names,y.2= .free->y.1∈fns
 isfree:∀y∈fns,scope.names.lookup y=some .free
 clos:closureFor scope X.env=pure (l_C X.env fns)
 mine:∀y∈fns,X.env.kindOf y=some .cell
 js:js.map (λj=>X.N[j]?)=fns.map some
 nd:(x::fns).Nodup
theorem b_t {env:Env} (hf:env.scope.kind= .function):∀{names:List (Str×NameKind)} {x:Str},names.lookup x=some .free->env.kindOf x=some .cell->
 (names.map λ(n,k)=>if (k == NameKind.free&&env.scope.kind == .function&&env.kindOf n == some .cell) then (n,NameKind.cell) else (n,k)).lookup x=some .cell
 | [],_,h,_=>by cases h
 | (n,k)::r,x,h,hk=>by
   have ih:= @b_t env hf r x;simp only[o_3];simp only[List.lookup_cons] at h;cases hx:x == n with
   | true=>
     rw[hx] at h;have e:x=n:=eq_of_beq hx;subst e;cases h;simp[hf,hk,List.lookup_cons]
   | false=>
     rw[hx] at h;by_cases hc:(k == NameKind.free&&env.scope.kind == .function&&env.kindOf n == some .cell)=true
     ·rw[if_pos hc];simp only[List.lookup_cons,hx];exact ih h hk
     ·rw[if_neg hc];simp only[List.lookup_cons,hx];exact ih h hk
theorem c_4 {env:Env} {names:List (Str×NameKind)} {y:Str×NameKind} (h:y∈names.map λ(n,k)=>if (k == NameKind.free&&env.scope.kind == .function&&env.kindOf n == some .cell) then (n,NameKind.cell) else (n,k))
 (hk:y.2= .cell\/y.2= .free) (hc:∀z∈names,z.2≠ .cell):(y.1,NameKind.free)∈names:=by
 obtain⟨⟨n,k⟩,hm,e⟩:=p_j.mp h;by_cases q:(k == NameKind.free&&env.scope.kind == .function&&env.kindOf n == some .cell)=true
 ·simp only[q,if_true] at e
  subst e
  have:k= .free:=by
   simp only[Bool.and_eq_true,beq_iff_eq] at q;exact q.1.1
  subst this;exact hm
 ·simp only[q] at e
  subst e;rcases hk with z | z
  ·exact absurd z (hc _ hm)
  ·have z':k= .free:=z
   subst z';exact hm
section
variable {X:Cx} {scope:Scope} {x:Str} {fns:List Str} {js:List Nat} {pins:List (Addr×Obj)} {σ:St} {H:Hp} {s:Shared} {fp:List Addr}
def b_L (σ:St) (js:List Nat) (v:Option V):St:=v::js.map λj=>(σ[j]?).join
theorem h_K (S:e_0 X scope x fns js) (I:Inv X pins σ H s) (hf:∀b∈fp,h_f X pins H b) (ho:∀b∈fp,b < s.heap.objs.size):(b_j X scope fns (x::fns) fp pins s H).Ok where
 mod:=I.ok.mod
 kind:=S.kind
 glob:=I.ok.glob
 blt:=I.ok.blt
 above:=o_X _
 inj:=λy z c h1 h2=>I.ok.inj y z c (b_q h1).1 (b_q h2).1
 has:=λy hy=>by
  have a:y∈fns:=by
   rcases hy with hy | hy
   ·exact S.free _ (c_4 (PySem.mem_of_lookup hy) (.inl rfl) S.nocell) rfl
   ·exact S.free _ (c_4 (PySem.mem_of_lookup hy) (.inr rfl) S.nocell) rfl
  obtain⟨c,hc⟩:=I.ok.has y (.inl (S.mine y a));exact⟨c,e_n a hc⟩
 cab:=λ_ _ h=>nomatch h
 hd:=I.ok.hd
 frames:=I.ok.frames
 stk:= .inl rfl
 exf:=λb hb=>⟨p_c (ho b hb),λy c e=>(hf b hb).2.2.2.2.1 y c (b_q e).1⟩
 bs:=I.bs
 bsz:=o_9 I.ok.bsz I.sz
 noex:=λb o e hb=>by
  rcases (hf b hb).2.2.2.1 with z | z
  ·exact I.ok.noex b o e z
  ·exact absurd (o_4 (o_4 (Heap.lt_size e) I.ok.bsz) z) (Nat.lt_irrefl _)
 exfs:=λb hb hs=>by
  rcases o_Z.mp (I.stkSub b hs) with z | z
  ·exact (hf b hb).2.1 z
  ·exact (hf b hb).2.2.1 z
 funs:=I.stack
 frf:=I.stkFree
theorem g_0 (S:e_0 X scope x fns js) (I:Inv X pins σ H s) (hf:∀b∈fp,h_f X pins H b) (ho:∀b∈fp,b < s.heap.objs.size) {h₁:Heap} {m:Str->Option Value} {tk:Nat} (hn:h₁.Ns s.heap.objs.size m)
 (hk:∀b o,s.heap.get? b=some o->h₁.get? b=some o):Inv (b_j X scope fns (x::fns) fp pins s H) [] (b_L σ js none) H { s with heap:=h₁,toks:=tk }:=by
 have K1:HOk X.prog X.w H h₁:=I.hok.kept hk;refine⟨h_K S I hf ho,rfl,I.bare,Un.kept hk,⟨m,hn,λi y v e1 e2 _=> ?_⟩,λy c e=> ?_, I.hok.fresh (o_X _),λy c e=>I.freeC y c (b_q e).1,λp hp=> ?_, K1,?_⟩
 ·cases i with
  | zero=>cases e2
  | succ i=>
    have f:fns[i]? =some y:=e1;have a:(js.map λj=>(σ[j]?).join)[i]? =some (some v):=e2;rw[o_0] at a;cases ej:js[i]? with
    | none=>rw[ej] at a;cases a
    | some j=>
      rw[ej] at a;have e3:(σ[j]?).join=some v:=o_V a
      have e4:σ[j]? =some (some v):=by
       cases q:σ[j]? with
       | none=>rw[q] at e3;cases e3
       | some o=>rw[q] at e3;exact congrArg some e3
      have e5:X.N[j]? =some y:=by
       have q:=congrArg (λl=>l[i]?) S.js;simp only[o_0,ej,f,Option.map_some] at q;exact o_V q
      have hy:y∈fns:=p_e f;obtain⟨m',_,hl⟩:=I.loc;obtain⟨u,r,l⟩:=hl j y v e5 e4 (.inr (.inl (S.mine y hy)));refine⟨u,r,.inr ⟨.inl (b_t I.ok.kind (S.isfree y hy) (S.mine y hy)),?_⟩⟩;rcases l with⟨k,_⟩ | ⟨k,c,ec,oc,h,hd⟩
      ·rw[S.mine y hy] at k;cases k
      ·exact⟨c,e_n hy ec,oc,hk _ _ h,hd⟩
 ·obtain⟨v,o,ho,hd⟩:=I.cell y c (b_q e).1
  exact⟨v,o,hk _ _ ho,hd⟩
 ·have g:p∈X.pn++pins:=by rw[p_l] at hp;exact hp
  obtain⟨e,n,ne,nf,d⟩:=I.pin p g;refine⟨hk _ _ e,n,p_c (Heap.lt_size e),λz=> ?_, d⟩;rcases o_Z.mp (I.stkSub p.1 z) with q | q
  ·exact ne q
  ·exact nf q
 ·unfold b_L
  have:=congrArg List.length S.js;simp only[o_O] at this;simp only[o_U,o_O,this,b_j]
theorem f_t (I:Inv X pins σ H s) (hf:∀b∈fp,h_f X pins H b) {σ':St} {H':Hp} {s':Shared} {pins':List (Addr×Obj)} (J:Inv (b_j X scope fns (x::fns) fp pins s H) pins' σ' H' s'):Inv X pins σ H' s':=
 I.call' (ch:=fp) J.os J.base J.hok J.bare λb hb=>⟨(hf b hb).2.2.2.1,(hf b hb).2.1,(hf b hb).2.2.2.2.1,(hf b hb).2.2.2.2.2⟩
end
def m_l (X:Cx) (ifs:List Expr) (t:TT):Prop:=
 ∀(pins:List (Addr×Obj)) (s:Shared) (σ:St) (H:Hp) (Q:Bool->Hp->Prop),Inv X pins σ H s->t σ H Q->
  wpAny (model X.prog X.w) X.A (forIn ifs true λc r=>if r=true then do let ok<-isTrue c X.env (eval c X.env);pure (ForInStep.yield ok) else pure (ForInStep.yield r)) (TP X pins σ Q) X.xe s
def o_C:TT:=λ_ H Q=>Q true H
theorem g_w {X:Cx}:m_l X [] o_C:=λ_ _ _ H _ I h=>wpAny_tests_nil ⟨H,I,h⟩
theorem j_A {X:Cx} {c:Expr} {t:TT} (h:PT X c t):m_l X [c] t:=λpins s σ H Q I q=>wpAny_tests_one (h pins s σ H Q I q)
def h_P (J:It) (D:Addr) (σ:St) (js:List Nat) (tt:TT) (te:TE) (QQ:Hp->Prop) (W:Nat->Nat->Hp->Prop):Prop:=
 ∀i m H,W i m H->(J.stop i H/\QQ H)\/(J.go i H/\∃(N1:V->Hp->Prop) (N0:Hp->Prop),
  (∀y H3,N1 y H3->∃ys,H3 D=some (.lst ys)/\ys.length < sizeLine/\∃m',m' < m/\W (i+1) m' (upd H3 D (.lst (ys++ [y]))))/\(∀H2,N0 H2->∃m',m' < m/\W (i+1) m' H2)/\
  ∀v H',J.yld i H v H'->tt (b_L σ js (some v)) H' λb H2=>if b=true then te (b_L σ js (some v)) H2 N1 else N0 H2)
section
variable {X:Cx} {scope:Scope} {x:Str} {fns:List Str} {js:List Nat} {pins:List (Addr×Obj)} {σ:St} {H:Hp} {s:Shared} {elt iter:Expr} {px pos pos':Pos} {ifs:List Expr} {wi:TI} {tt:TT} {te:TE}
theorem e_H {use:Option (Value->Sem Unit)} {Qv:Value->Shared->Prop} {QQ:Addr->Hp->Prop} (hc:X.calm=true) (S:e_0 X scope x fns js) (hi:PI X (.Name x px) iter wi)
 (ht:∀fp pins s H,m_l (b_j X scope fns (x::fns) fp pins s H) ifs tt) (he:∀fp pins s H,PE (b_j X scope fns (x::fns) fp pins s H) elt te) (I:Inv X pins σ H s)
 (h:wi σ H λJ H1=>∀D,H1 D=none->∃W:Nat->Nat->Hp->Prop,(∃m,W 0 m (upd H1 D (.lst [])))/\h_P J D σ js tt te (QQ D) W)
 (fin:∀D C H5 s5 m5,Inv X pins σ H5 s5->h_f X pins H5 C->s5.heap.Ns C m5->QQ D H5->compPost (model X.prog X.w) X.A X.xe use Qv (.ref D) C (.ok .next) s5)
 (hs:∀x,foldedSetIterable iter X.env x=pure x:=by intro _;rfl):
 wpAny (model X.prog X.w) X.A (comprehension (.ListComp elt [⟨.Name x px,iter,ifs,0⟩] scope pos) scope X.env pos' (newList []) false (eval iter X.env) use) Qv X.xe s:=by
 refine wpAny_comprehension_free (use:=use) rfl hs S.clos S.kind S.locs (thn (hi pins s σ H _ I h) λv s1 h1=>thn h1 λitv s2 h2=> ?_);obtain⟨it,fp,tn,J,H2,e,I2,T,c,f2,hW⟩:=h2;subst e;obtain⟨W,⟨m0,w0⟩,turn⟩:=hW s2.heap.objs.size I2.fresh;have I3:Inv X pins σ (upd H2 s2.heap.objs.size (.lst [])) { s2 with heap:=s2.heap.push { cls:= .type "list",data:= .seq ([]:List Value).toArray } }:=I2.lnew (t':=s2.toks) (its:= []) (ys:= []) .nil (p_g _)
 have k:∀b∈fp,b < s2.heap.objs.size:=λb hb=>by
  obtain⟨o,e,_⟩:=T.obj _ _ c b hb;exact Heap.lt_size e
 have f3:∀b∈fp,h_f X pins (upd H2 s2.heap.objs.size (.lst [])) b:=λb hb=>⟨by rw[a_i (p_c (k b hb))];exact (f2 b hb).1,(f2 b hb).2⟩;have B:∀b∈fp,b < (s2.heap.push { cls:= .type "list",data:= .seq ([]:List Value).toArray }).objs.size:=λb hb=>by rw[Heap.size_push];exact Nat.lt_succ_of_lt (k b hb)
 refine wpAny_newObj_type (wpAny_newFunctionEnv S.nocell (by intro y hy;simp at hy) (λh₁ hns₁ hsb₁=> ?_) S.kind);dsimp only at hns₁ hsb₁ ⊢
 have hk:∀b o,(s2.heap.push { cls:= .type "list",data:= .seq ([]:List Value).toArray }).get? b=some o->h₁.get? b=some o:=λb o e=>
  hsb₁.extBut b o (p_c (Heap.lt_size e)) (Heap.get?_push_of_some _ e)
 have J0:=g_0 (tk:=s2.toks+([]:List (Str×Value)).length) S I3 f3 B hns₁ hk
 have stat:∀{H':Hp},(∀b∈fp,H' b=none)->∀b∈fp,h_f (b_j X scope fns (x::fns) fp pins { s2 with heap:=s2.heap.push { cls:= .type "list",data:= .seq ([]:List Value).toArray } } (upd H2 s2.heap.objs.size (.lst []))) [] H' b:=λhn b hb=>by
  refine⟨hn b hb,(J0.ok.exf b hb).1,J0.ok.exfs b hb,.inl hb,(J0.ok.exf b hb).2,λp hp=>(f3 b hb).2.2.2.2.2 p ?_⟩;rw[p_l] at hp;exact hp
 have F:∀b∈fp,(upd H2 s2.heap.objs.size (.lst [])) b=none:=λb hb=>(f3 b hb).1;have j:tn 0 h₁:=T.keep _ _ _ c λb hb o e=>hk b o (Heap.get?_push_of_some _ e)
 have loop:∀s₃:Shared,s₃={ s2 with heap:=h₁,toks:=s2.toks+([]:List (Str×Value)).length }->
  codeAny (model X.prog X.w) X.A (.compLoop (.ListComp elt [⟨.Name x px,iter,ifs,0⟩] scope pos) 0 (.ref it) (.ref s2.heap.objs.size) (compEnvC scope (l_C X.env fns) (s2.heap.push { cls:= .type "list",data:= .seq ([]:List Value).toArray }).objs.size X.env))
   (compPost (model X.prog X.w) X.A X.xe use Qv (.ref s2.heap.objs.size) (s2.heap.push { cls:= .type "list",data:= .seq ([]:List Value).toArray }).objs.size) s₃:=by
  rintro s₃ rfl
  refine e_N (λn s'=>∃i o H',Inv (b_j X scope fns (x::fns) fp pins { s2 with heap:=s2.heap.push { cls:= .type "list",data:= .seq ([]:List Value).toArray } } (upd H2 s2.heap.objs.size (.lst []))) [] (b_L σ js o) H' s'/\tn i s'.heap/\(∀b∈fp,H' b=none)/\W i n H') ?_ m0
   ⟨0,none,_,J0,j,F,w0⟩
  rintro n s4 ⟨i,o,H4,J4,g,f,w4⟩;rcases turn i n H4 w4 with⟨stop,qn⟩ | ⟨go,N1,N0,q,l,step⟩
  ·refine thn (T.done (b_j X scope fns (x::fns) fp pins { s2 with heap:=s2.heap.push { cls:= .type "list",data:= .seq ([]:List Value).toArray } } (upd H2 s2.heap.objs.size (.lst []))) rfl rfl rfl hc i [] s4 _ H4 _ J4 (stat f) g stop) λr s5 ⟨hr,J5⟩=> ?_
   subst hr;obtain⟨m5,E,_⟩:=id J5.loc;have I5:=f_t I3 f3 J5;exact fin _ _ H4 s5 m5 I5 ⟨J5.free,Nat.ne_of_gt (o_4 I3.lt (o_X _)),I3.nofs (o_X _),.inr I3.sz,(I3.fpOk (o_X _) J5.free).2.2.2.2⟩ E qn
  ·refine thn (T.item (b_j X scope fns (x::fns) fp pins { s2 with heap:=s2.heap.push { cls:= .type "list",data:= .seq ([]:List Value).toArray } } (upd H2 s2.heap.objs.size (.lst []))) rfl rfl rfl hc i [] s4 _ H4 _ J4 (stat f) g go) λr s5 ⟨u,hr,h5⟩=> ?_
   subst hr;refine thn h5 λ_ s6 ⟨v6,H6,J6,r6,y6,a,K⟩=> ?_;have t:=J6.pinned (stat K) (T.obj _ _ a);have pg:=b_y (X:=b_j X scope fns (x::fns) fp pins { s2 with heap:=s2.heap.push { cls:= .type "list",data:= .seq ([]:List Value).toArray } } (upd H2 s2.heap.objs.size (.lst []))) (pos:=px) (i:=0) (x:=x) S.nd rfl (.inl (lookup_relabel_local S.loc)) (.inr (lookup_relabel_local S.loc));refine thn (pg _ s6 _ H6 v6 u (λσ' H'=>σ'=b_L σ js (some v6)/\H'=H6) t r6 ⟨rfl,rfl⟩) λ_ s7 ⟨σ7,H7,J7,e7,L⟩=> ?_;subst e7 L;refine thn (ht _ _ _ _ _ s7 _ H7 _ J7 (step v6 H7 y6)) λb s8 ⟨H8,J8,q8⟩=> ?_
   have again:∀{H9:Hp} {s9:Shared},Inv (b_j X scope fns (x::fns) fp pins { s2 with heap:=s2.heap.push { cls:= .type "list",data:= .seq ([]:List Value).toArray } } (upd H2 s2.heap.objs.size (.lst []))) ([]++e_G fp s6.heap) (b_L σ js (some v6)) H9 s9->
    (∃m',m' < n/\W (i+1) m' H9)->∃m,m < n/\∃i o H',Inv (b_j X scope fns (x::fns) fp pins { s2 with heap:=s2.heap.push { cls:= .type "list",data:= .seq ([]:List Value).toArray } } (upd H2 s2.heap.objs.size (.lst []))) [] (b_L σ js o) H' s9/\tn i s9.heap/\(∀b∈fp,H' b=none)/\W i m H':=λ{H9 s9} J9 ⟨m',hm,w9⟩=>by
    refine⟨m',hm,i+1,some v6,H9,J9.unpinned,T.keep _ _ _ a λb hb o e=>(J9.pin (b,o) (o_1 _ (o_1 _ (b_1 hb e)))).1,λb hb=> ?_, w9⟩;obtain⟨o,e,d⟩:=T.obj _ _ a b hb;exact (J9.pin (b,o) (o_1 _ (o_1 _ (b_1 hb e)))).2.1
   cases b with
   | false=>exact again J8 (l _ (by simpa using q8))
   | true=>
     simp only[if_true] at q8 ⊢;refine thn (he _ _ _ _ _ s8 _ H8 _ J8 q8) λxv s9 ⟨y9,H9,J9,r9,n9⟩=> ?_;obtain⟨ys,hD,hz,q9⟩:=q y9 H9 n9;refine thn (a_2 _ s9 _ H9 (.ref s2.heap.objs.size) [y9] (.ref s2.heap.objs.size) [xv] (λ_ H'=>H'=upd H9 s2.heap.objs.size (.lst (ys++ [y9]))) J9 rfl (.cons r9 .nil) ⟨_,ys,y9,rfl,rfl,hD,hz,rfl⟩) λ_ M ⟨_,N,G,_,z⟩=> ?_;subst z;exact again G q9
 exact codeAny_compStart_list (loop _ rfl) (T.self _ 0 _ _ _ j (loop _ rfl))
def n_y (wi:TI) (js:List Nat) (tt:TT) (te:TE):TE:=λσ H Q=>wi σ H λJ H1=>∀D,H1 D=none->∃W:Nat->Nat->Hp->Prop,(∃m,W 0 m (upd H1 D (.lst [])))/\h_P J D σ js tt te (Q (.ref D)) W
theorem i_o (hc:X.calm=true) (S:e_0 X scope x fns js) (hi:PI X (.Name x px) iter wi)
 (ht:∀fp pins s H,m_l (b_j X scope fns (x::fns) fp pins s H) ifs tt) (he:∀fp pins s H,PE (b_j X scope fns (x::fns) fp pins s H) elt te) (hs:∀x,foldedSetIterable iter X.env x=pure x:=by intro _;rfl):
 PE X (.ListComp elt [⟨.Name x px,iter,ifs,0⟩] scope pos) (n_y wi js tt te):=by
 intro pins s σ H Q I h;rw[eval_ListComp];refine e_H (use:=none) (QQ:=λD=>Q (.ref D)) hc S hi ht he I h (λD C H5 s5 m5 I5 fC hn q=> ?_) hs;refine⟨m5,hn,λh' sb=>⟨.ref D,H5,?_, rfl,q⟩⟩;exact I5.turned (t':=s5.toks) (λb o hb e=>(sb.2 b hb).trans e) fC.1 fC.2.1 fC.2.2.2.1 fC.2.2.2.2.1 fC.2.2.2.2.2
def j_g (k:Nat) (wi:TI) (js:List Nat) (tt:TT) (te:TE):TS:=λD σ H=>wi σ H λJ H1=>∀L,H1 L=none->∃W:Nat->Nat->Hp->Prop,(∃m,W 0 m (upd H1 L (.lst [])))/\h_P J L σ js tt te (λH'=>D.nx (σ.set k (some (.ref L))) H') W
theorem g_7 {k:Nat} {y:Str} {py spos:Pos} (hc:X.calm=true) (S:e_0 X scope x fns js) (hi:PI X (.Name x px) iter wi)
 (ht:∀fp pins s H,m_l (b_j X scope fns (x::fns) fp pins s H) ifs tt) (he:∀fp pins s H,PE (b_j X scope fns (x::fns) fp pins s H) elt te)
 (hN:X.N.Nodup) (hk:X.N[k]? =some y) (hy:Loc X.env.scope y) (hfn:X.fn y=true\/X.env.scope.names.lookup y=some .local:=by first | exact .inl rfl | exact .inr rfl | assumption)
 (hsw:swapsWith (.ListComp elt [⟨.Name x px,iter,ifs,0⟩] scope pos) (some (.Name y py)) spos.line X.env=pure true:=by rfl) (hs:∀x,foldedSetIterable iter X.env x=pure x:=by intro _;rfl):
 PS X (.Assign [.Name y py] (.ListComp elt [⟨.Name x px,iter,ifs,0⟩] scope pos) spos) (j_g k wi js tt te):=by
 intro pins s σ H D I h;rw[exec_Assign_Name_used _ _ _ _ hsw];refine wpAny_bind (wpAny_standAt (wpAny_bind ?_));show wpAny _ X.A (do let _<-comprehension (.ListComp elt [⟨.Name x px,iter,ifs,0⟩] scope pos) scope X.env _ (newList []) false (eval iter X.env) (some (assign (.Name y py) X.env))) _ _ s;refine wpAny_bind (thn (e_H (use:=some (assign (.Name y py) X.env)) (QQ:=λL H'=>D.nx (σ.set k (some (.ref L))) H') (Qv:=λ_ s'=>SP X pins D .next s') hc S hi ht he I h (λL C H5 s5 m5 I5 fC hn q=> ?_) hs) λ_ s' hq=>wpAny_pure (wpAny_pure hq));obtain⟨oC,es,ep,e,d,r⟩:=id hn
 have c:Inv X (pins++ [(C,oC)]) σ H5 s5:=I5.pins_of λp hp=>(o_6.mp hp).elim (λz=>I5.pin p (o_1 _ z)) λz=>by
  obtain rfl:p=(C,oC):=by simpa using z
  exact⟨e,fC.1,fC.2.1,fC.2.2.1,λv z=>by rw[d] at z;cases z⟩
 refine thn (b_y (pos:=py) hN hk hy hfn _ s5 σ H5 (.ref L) (.ref L) (λσ' H'=>σ'=σ.set k (some (.ref L))/\H'=H5) c rfl ⟨rfl,rfl⟩) λ_ s6 ⟨σ6,H6,I6,e6,a⟩=> ?_;subst e6 a;have pC:=I6.pin (C,oC) (by simp);refine⟨m5,⟨oC,es,ep,pC.1,d,r⟩,λh' sb=>⟨_,H6,?_, q⟩⟩;exact (I6.unpinned).turned (t':=s6.toks) (λb o hb e=>(sb.2 b hb).trans e) fC.1 fC.2.1 fC.2.2.2.1 fC.2.2.2.2.1 fC.2.2.2.2.2
end
theorem e_D {K:PySem.W.Frag} {a D:Addr} {xs:List V} {σ:St} {js:List Nat} {tt:TT} {te:TE} {QQ:Hp->Prop} {H:Hp} (Pv:Nat->List V->Hp->Prop) (h0:Pv 0 [] (upd H D (.lst [])))
 (hl:∀i ys H,i<=xs.length->H D=some (.lst ys)->Pv i ys H->SqL K H a xs)
 (hs:∀i v ys H,xs[i]? =some v→H D=some (.lst ys)→Pv i ys H→tt (b_L σ js (some v)) H fun b H2=>
   if b=true then te (b_L σ js (some v)) H2 λy H3=>H3 D=some (.lst ys)/\ys.length < sizeLine/\Pv (i+1) (ys++ [y]) (upd H3 D (.lst (ys++ [y]))) else H2 D=some (.lst ys)/\Pv (i+1) ys H2)
 (hd:∀ys H,H D=some (.lst ys)->Pv xs.length ys H->QQ H):
 ∃W:Nat->Nat->Hp->Prop,(∃m,W 0 m (upd H D (.lst [])))/\h_P (Itl K a) D σ js tt te QQ W:=by
 refine⟨λi m H=>i<=xs.length/\m=xs.length - i/\∃ys,H D=some (.lst ys)/\Pv i ys H,⟨_,p_g _,rfl, [],a_b,h0⟩,?_⟩;rintro i m H1 ⟨hi,rfl,ys,hD,hp⟩;have hq:=hl i ys H1 hi hD hp;by_cases e:i=xs.length
 ·subst e
  exact .inl ⟨⟨xs,hq,o_X _⟩,hd ys H1 hD hp⟩
 ·have c:i < xs.length:=by omega
  refine .inr ⟨⟨xs,xs[i],hq,o_P c⟩,λy H3=>H3 D=some (.lst ys)/\ys.length < sizeLine/\Pv (i+1) (ys++ [y]) (upd H3 D (.lst (ys++ [y]))),λH2=>H2 D=some (.lst ys)/\Pv (i+1) ys H2,
   λy H3 q3=>⟨ys,q3.1,q3.2.1,xs.length - (i+1),by omega,c,rfl,ys++ [y],a_b,q3.2.2⟩,λH2 q=>⟨xs.length - (i+1),by omega,c,rfl,ys,q.1,q.2⟩,λv H' hy=> ?_⟩
  obtain⟨rfl,hv⟩:=hy;exact hs i v ys H' (hv xs hq) hD hp
end L2
namespace TO
def Adj:Nat->List Nat->Prop
 | _, []=>True
 | p,n::r=>1<=n/\n<=8/\5<=p+n/\Adj n r
def e_g:Nat->List Nat->Nat
 | p, []=>p
 | _,n::r=>e_g n r
theorem Adj.app:∀{l₁ l₂:List Nat} {p:Nat},Adj p (l₁++l₂)↔Adj p l₁/\Adj (e_g p l₁) l₂
 | [],l₂,p=>by simp[Adj,e_g]
 | n::r,l₂,p=>by
   have ih:= @Adj.app r l₂ n;simp only[List.cons_append,Adj,e_g,ih];constructor
   ·rintro⟨a,b,c,d,e⟩;exact⟨⟨a,b,c,d⟩,e⟩
   ·rintro⟨⟨a,b,c,d⟩,e⟩;exact⟨a,b,c,d,e⟩
theorem d_M:∀{l:List Nat} {p n:Nat},e_g p (l++ [n])=n
 | [],_,_=>rfl
 | m::r,_,n=>by simp only[List.cons_append,e_g];exact d_M
theorem Adj.mono:∀{l:List Nat} {p q:Nat},p<=q->Adj p l->Adj q l
 | [],_,_,_,_=>trivial
 | n::r,p,q,h,⟨a,b,c,d⟩=>⟨a,b,by omega,d⟩
theorem Adj.five:∀{l:List Nat} {p q:Nat},4<=q->Adj p l->Adj q l
 | [],_,_,_,_=>trivial
 | n::r,p,q,h,⟨a,b,c,d⟩=>⟨a,b,by omega,d⟩
theorem Adj.last:∀{l:List Nat} {p:Nat},1<=p->Adj p l->1<=e_g p l
 | [],_,h,_=>h
 | n::r,p,h,⟨a,b,c,d⟩=> @Adj.last r n a d
theorem Adj.put {l₁ l₂:List Nat} {a b p:Nat} (h:Adj p (l₁++a::l₂)) (hab:a<=b) (hb:b<=8):Adj p (l₁++b::l₂):=by
 rw[Adj.app] at h ⊢;obtain⟨h1,h2,h3,h4,h5⟩:=h;exact⟨h1,by omega,hb,by omega,h5.mono hab⟩
theorem Adj.split {l₁ l₂:List Nat} {a p:Nat} (hp:1<=p) (h:Adj p (l₁++a::l₂)):Adj p (l₁++4::5::l₂):=by
 rw[Adj.app] at h ⊢;obtain⟨h1,h2,h3,h4,h5⟩:=h;have:=h1.last hp;exact⟨h1,by omega,by omega,by omega,by omega,by omega,by omega,h5.five (by omega)⟩
theorem Adj.gone {l₁ l₂:List Nat} {p:Nat} (h:Adj p (l₁++1::l₂)):Adj p (l₁++l₂):=by
 rw[Adj.app] at h ⊢;obtain⟨h1,h2,h3,h4,h5⟩:=h;exact⟨h1,h5.five (by omega)⟩
theorem Adj.less_join {l₁ l₂:List Nat} {a c p:Nat} (h:Adj p (l₁++(a+1)::c::l₂)) (ha:1<=a) (hac:a+c < 5):Adj p (l₁++(a+c)::l₂):=by
 rw[Adj.app] at h ⊢;obtain⟨h1,h2,h3,h4,h5,h6,h7,h8⟩:=h;exact⟨h1,by omega,by omega,by omega,h8.mono (by omega)⟩
theorem Adj.less_join_l {l₁ l₂:List Nat} {a e p:Nat} (h:Adj p (l₁++e::(a+1)::l₂)) (hea:e+a < 5):Adj p (l₁++(e+a)::l₂):=by
 rw[Adj.app] at h ⊢;obtain⟨h1,h2,h3,h4,h5,h6,h7,h8⟩:=h;exact⟨h1,by omega,by omega,by omega,h8.five (by omega)⟩
theorem Adj.less {l₁ l₂:List Nat} {a p:Nat} (h:Adj p (l₁++(a+1)::l₂)) (ha:1<=a) (hl:5<=e_g p l₁+a) (hr:∀c r,l₂=c::r->5<=a+c):Adj p (l₁++a::l₂):=by
 rw[Adj.app] at h ⊢;obtain⟨h1,h2,h3,h4,h5⟩:=h;refine⟨h1,ha,by omega,hl,?_⟩;cases l₂ with
 | nil=>trivial
 | cons c r=>
   obtain⟨h6,h7,h8,h9⟩:=h5;exact⟨h6,h7,hr c r rfl,h9⟩
section
variable {ρ:Type} (lt:ρ->ρ->Bool)
abbrev Srt (l:List ρ):Prop:=l.Pairwise λa b=>lt a b=true
variable {lt}
def m_i (lt:ρ->ρ->Bool) (P:ρ->Bool):Prop:=∀x y,lt x y=true->P y=true->P x=true
theorem Srt.app {l₁ l₂:List ρ}:Srt lt (l₁++l₂)↔Srt lt l₁/\Srt lt l₂/\∀a∈l₁,∀b∈l₂,lt a b=true:=List.pairwise_append
theorem i_1 {P:ρ->Bool} (D:m_i lt P) {l:List ρ} (h:Srt lt l):∀x∈l.dropWhile P,P x=false:=by
 induction l with
 | nil=>intro x hx;cases hx
 | cons a r ih=>
   intro x hx;have h':=List.pairwise_cons.mp h;cases e:P a with
   | true=>rw[List.dropWhile_cons] at hx;simp only[e,if_true] at hx;exact ih h'.2 x hx
   | false=>
     rw[List.dropWhile_cons] at hx;simp only[e] at hx;rcases o_Z.mp hx with rfl | hx
     ·exact e
     ·cases q:P x with
      | false=>rfl
      | true=>have:=D a x (h'.1 x hx) q;rw[e] at this;cases this
theorem j_c {P:ρ->Bool} {l:List ρ}:∀x∈l.takeWhile P,P x=true:=by
 induction l with
 | nil=>intro x hx;cases hx
 | cons a r ih=>
   intro x hx;rw[List.takeWhile_cons] at hx;cases e:P a with
   | true=>
     simp only[e,if_true] at hx;rcases o_Z.mp hx with rfl | hx
     ·exact e
     ·exact ih x hx
   | false=>simp[e] at hx
theorem Srt.ins {l:List ρ} {x:ρ} (tr:∀a b c,lt a b=true->lt b c=true->lt a c=true) (h:Srt lt l) (hx:∀y∈l,lt y x=true\/lt x y=true):
 Srt lt (l.takeWhile (λy=>lt y x)++x::l.dropWhile λy=>lt y x):=by
 have D:m_i lt λy=>lt y x:=λa b d hb=>tr a b x d hb;have e:=List.takeWhile_append_dropWhile (p:=λy=>lt y x) (l:=l);have hs:=h;rw[<-e,Srt.app] at hs;obtain⟨s1,s2,s3⟩:=hs;refine Srt.app.mpr ⟨s1,List.pairwise_cons.mpr ⟨λy hy=> ?_, s2⟩,λa ha b hb=> ?_⟩
 ·have hn:=i_1 D h y hy
  rcases hx y (by rw[<-e];exact o_1 _ hy) with z | z
  ·rw[hn] at z;cases z
  ·exact z
 ·rcases o_Z.mp hb with rfl | hb
  ·exact j_c (P:=λy=>lt y b) a ha
  ·exact s3 a ha b hb
theorem g_F {P:ρ->Bool} {l:List ρ} {x:ρ}:(l.takeWhile P++x::l.dropWhile P).Perm (x::l):=by
 have e:=List.takeWhile_append_dropWhile (p:=P) (l:=l);exact List.perm_middle.trans (by rw[e])
variable {P:ρ->Bool}
theorem c_q (D:m_i lt P):∀{B:List (List ρ)},Srt lt B.flatten->(∀b∈B,∃x,b.getLast? =some x/\P x=true)->∀x∈B.flatten,P x=true
 | [],_,_,x,hx=>by cases hx
 | b::B,h,hl,x,hx=>by
   rw[p_h] at h hx;have h':=Srt.app.mp h;rcases o_6.mp hx with hx | hx
   ·obtain⟨z,hz,pz⟩:=hl b (o_S ..)
    obtain⟨ys,rfl⟩:=List.getLast?_eq_some_iff.mp hz;rcases o_6.mp hx with hx | hx
    ·exact D x z ((Srt.app.mp h'.1).2.2 x hx z (o_T.mpr rfl)) pz
    ·rw[o_T.mp hx];exact pz
   ·exact c_q D h'.2.1 (λc hc=>hl c (o_R _ hc)) x hx
theorem f_N (D:m_i lt P) {b t:List ρ} {z:ρ} (h:Srt lt (b++t)) (hz:b.getLast? =some z) (pz:P z=false):∀y∈t,P y=false:=λy hy=>by
 obtain⟨ys,rfl⟩:=List.getLast?_eq_some_iff.mp hz;cases e:P y with
 | false=>rfl
 | true=>
   have:=D z y ((Srt.app.mp h).2.2 z (o_1 _ (o_T.mpr rfl)) y hy) e;rw[pz] at this;cases this
theorem l_8 {l₁ l₂:List ρ} (h:∀x∈l₁,P x=true):(l₁++l₂).takeWhile P=l₁++l₂.takeWhile P:=List.takeWhile_append_of_pos h
theorem l_U {l₁ l₂:List ρ} (h:∀x∈l₁,P x=true):(l₁++l₂).dropWhile P=l₂.dropWhile P:=List.dropWhile_append_of_pos h
theorem f_p:∀{b t:List ρ},(∀y∈t,P y=false)->(b++t).takeWhile P=b.takeWhile P/\(b++t).dropWhile P=b.dropWhile P++t
 | [], [],_=>⟨rfl,rfl⟩
 | [],y::t,h=>by
   have e:=h y (o_S ..);simp[e]
 | x::b,t,h=>by
   obtain⟨h1,h2⟩:=f_p (b:=b) h;cases e:P x with
   | true=>simp only[List.cons_append,List.takeWhile_cons,List.dropWhile_cons,e,if_true,h1,h2,and_self]
   | false=>simp[e]
theorem h_c {B₁ B₂:List (List ρ)} {b:List ρ} {x:ρ} (h1:∀y∈B₁.flatten,P y=true) (h2:∀y∈B₂.flatten,P y=false):
 (B₁++(b.takeWhile P++x::b.dropWhile P)::B₂).flatten=(B₁++b::B₂).flatten.takeWhile P++x::(B₁++b::B₂).flatten.dropWhile P:=by
 rw[p_b,p_b,p_h,p_h,l_8 h1,l_U h1,(f_p h2).1,(f_p h2).2];simp only[List.append_assoc,List.cons_append]
theorem f_V (ir:∀a,lt a a=false) {B₁ B₂:List (List ρ)} {b:List ρ} {x z:ρ} (hs:Srt lt (B₁++b::B₂).flatten) (hx:x∈(B₁++b::B₂).flatten) (h1:∀y∈B₁.flatten,lt y x=true)
 (hz:b.getLast? =some z) (pz:lt z x=false):x∈b:=by
 rw[p_b,p_h] at hs hx;rcases o_6.mp hx with c | c
 ·have:=h1 x c;rw[ir] at this;cases this
 ·rcases o_6.mp c with d | d
  ·exact d
  ·obtain⟨ys,rfl⟩:=List.getLast?_eq_some_iff.mp hz
   have:=(Srt.app.mp (Srt.app.mp hs).2.1).2.2 z (o_1 _ (o_T.mpr rfl)) x d;rw[pz] at this;cases this
theorem m_A (ir:∀a,lt a a=false) {l:List ρ} {x:ρ} (hx:x∈l) (h1:∀y∈l,lt y x=true):False:=by
 have:=h1 x hx;rw[ir] at this;cases this
variable [DecidableEq ρ]
theorem e_R {B₁ B₂:List (List ρ)} {b:List ρ} {x:ρ} (hs:Srt lt (B₁++b::B₂).flatten) (hx:x∈b):
 Srt lt (B₁++b.erase x::B₂).flatten/\(x::(B₁++b.erase x::B₂).flatten).Perm (B₁++b::B₂).flatten:=by
 rw[p_b,p_h] at hs ⊢;rw[p_b,p_h];refine⟨List.Pairwise.sublist (List.Sublist.append (List.Sublist.refl _) (List.Sublist.append List.erase_sublist (List.Sublist.refl _))) hs,?_⟩;refine List.Perm.trans List.perm_middle.symm (List.Perm.append_left _ ?_);exact (List.Perm.append_right _ (List.perm_cons_erase hx).symm:(x::b.erase x++B₂.flatten).Perm (b++B₂.flatten))
end
section
variable {α:Type}
theorem h_W {l₁ l₂:List α} {a b:α}:(l₁++a::l₂).set l₁.length b=l₁++b::l₂:=by
 rw[List.set_append_right _ _ (o_X _),Nat.sub_self,List.set_cons_zero]
theorem e_V {l₁ l₂:List α} {a:α}:(l₁++a::l₂).eraseIdx l₁.length=l₁++l₂:=by
 rw[List.eraseIdx_append_of_length_le (o_X _),Nat.sub_self,List.eraseIdx_zero,List.tail_cons]
theorem c_G {l₁ l₂:List α} {a:α}:(l₁++a::l₂)[l₁.length]? =some a:=by
 rw[List.getElem?_append_right (o_X _),Nat.sub_self,List.getElem?_cons_zero]
theorem f_8 {l:List α} {i:Nat} {a:α} (h:l[i]? =some a):∃l₁ l₂,l=l₁++a::l₂/\l₁.length=i:=by
 obtain⟨hi,e⟩:=o_2.mp h;refine⟨l.take i,l.drop (i+1),?_, by rw[p_a];omega⟩;rw[<-e,List.getElem_cons_drop,p_r]
end
end TO
namespace TO
open PySem PySem.W PyProof.Rows
abbrev pg (p:Array Nat) (a:Nat):Nat:=p.getD a 0
section
variable {n:Nat} {s:Shared} {lt:Nat->Nat->Bool} {cmp:Nat->Nat->(Bool->Shared->Prop)->Shared->Prop}
end
end TO
namespace TO
open PySem L2
theorem g_Y (x:V):ltV x x=false:=by
 cases x <;> simp[ltV]
theorem i_d {x y z:V} (h1:ltV x y=true) (h2:ltV y z=true):ltV x z=true:=by
 cases x <;> cases y <;> (try simp[ltV] at h1) <;> cases z <;> (try simp[ltV] at h2)
 ·simp only[ltV,decide_eq_true_eq];omega
 ·simp only[ltV,decide_eq_true_eq];exact List.lt_trans h1 h2
theorem l_Q {a b:Str} (h:a.cps.toList=b.cps.toList):a=b:=by
 cases a;cases b;simp at h;simp[h]
theorem l_h {x y:V} (ha:d_j x y=true) (h:ltV x y=false) (hn:x≠y):ltV y x=true:=by
 cases x <;> cases y <;> (try cases ha)
 ·rename_i a b
  simp only[ltV,decide_eq_false_iff_not,decide_eq_true_eq] at h ⊢;have:a≠b:=λe=>hn (by rw[e]);omega
 ·rename_i a b
  simp only[ltV,decide_eq_false_iff_not,decide_eq_true_eq] at h ⊢;have c:a.cps.toList≠b.cps.toList:=λe=>hn (by rw[l_Q e]);have h':b.cps.toList<=a.cps.toList:=h;rcases List.le_iff_lt_or_eq.mp h' with q | q
  ·exact q
  ·exact absurd q.symm c
theorem m_J {x y:V} (h:ltV x y=true):x≠y:=λe=>by rw[e,g_Y] at h;cases h
theorem d_m:∀xs:List V,b_e xs xs=false
 | []=>rfl
 | x::r=>by rw[b_r,if_pos rfl];exact d_m r
theorem c_H:∀{xs ys zs:List V},b_e xs ys=true->b_e ys zs=true->b_e xs zs=true
 | [], [],_,h,_=>by cases h
 | [],_::_, [],_,h=>by cases h
 | [],_::_,_::_,_,_=>rfl
 | _::_, [],_,h,_=>by cases h
 | _::_,_::_, [],_,h=>by cases h
 | x::xs,y::ys,z::zs,h1,h2=>by
   rw[b_r] at h1 h2 ⊢;by_cases e1:x=y
   ·subst e1
    rw[if_pos rfl] at h1;by_cases e2:x=z
    ·rw[if_pos e2] at h2 ⊢
     exact c_H h1 h2
    ·rw[if_neg e2] at h2 ⊢
     exact h2
   ·rw[if_neg e1] at h1
    by_cases e2:y=z
    ·subst e2
     rw[if_neg e1];exact h1
    ·rw[if_neg e2] at h2
     have h3:=i_d h1 h2;rw[if_neg (m_J h3)];exact h3
structure Row where
 n:Int
 r:Int
 t:Str
deriving DecidableEq
def c_V (ρ:Row):List V:= [.int ρ.n,.int ρ.r,.str ρ.t]
theorem e_k {ρ ρ':Row} (h:c_V ρ=c_V ρ'):ρ=ρ':=by
 cases ρ;cases ρ';simp[c_V] at h;simp[h]
def g_l (w:Bool) (ρ:Row):V:=if w=true then .str ρ.t else .int ρ.r
def a_T (w:Bool) (ρ:Row):List V:= [g_l w ρ,.int ρ.n]
def ltR (w:Bool) (a b:Row):Bool:=b_e (a_T w a) (a_T w b)
theorem d_Q (w:Bool) (a b:Row):d_j (g_l w a) (g_l w b)=true:=by cases w <;> rfl
theorem c_7 (w:Bool) (a b:Row):e_S (a_T w a) (a_T w b):=⟨d_Q w a b,rfl,trivial⟩
theorem d_P (w:Bool) (a:Row):ltR w a a=false:=d_m _
theorem i_w (w:Bool) (a b c:Row) (h1:ltR w a b=true) (h2:ltR w b c=true):ltR w a c=true:=c_H h1 h2
theorem k_P {w:Bool} {a b:Row} (hn:a.n≠b.n):ltR w a b=true\/ltR w b a=true:=by
 unfold ltR a_T;rw[b_r (g_l w a),b_r (g_l w b)];by_cases e:g_l w a=g_l w b
 ·rw[if_pos e,if_pos e.symm,b_r (.int a.n),b_r (.int b.n)]
  have n1:¬ V.int a.n=V.int b.n:=λq=>hn (by injection q);have n2:¬ V.int b.n=V.int a.n:=λq=>hn (by injection q with q;exact q.symm);rw[if_neg n1,if_neg n2];simp only[ltV,decide_eq_true_eq];omega
 ·rw[if_neg e,if_neg (λq:g_l w b=g_l w a=>e q.symm)]
  cases q:ltV (g_l w a) (g_l w b) with
  | true=>exact .inl rfl
  | false=>exact .inr (l_h (d_Q w a b) q e)
theorem c_i (w:Bool) (q:List V):m_i (ltR w) λx=>b_e (a_T w x) q:=λ_ _ h1 h2=>c_H h1 h2
end TO
namespace TO
open PySem PySem.Spec PyProof.Rows L2
def RowAt (H:Hp) (a:Addr) (ρ:Row):Prop:=H a=some (.tup (c_V ρ))
abbrev RowsAt (H:Hp):List Addr->List Row->Prop:=Paired (RowAt H)
def LstAt (H:Hp) (l:Addr) (ρs:List Row):Prop:=∃as:List Addr,H l=some (.lst (as.map .ref))/\RowsAt H as ρs
theorem RowsAt.same {H H':Hp} (s:∀b xs,H b=some (.tup xs)->H' b=some (.tup xs)):∀{as:List Addr} {ρs:List Row},RowsAt H as ρs->RowsAt H' as ρs
 | _,_,.nil=> .nil
 | _,_,.cons h t=> .cons (s _ _ h) (RowsAt.same s t)
theorem RowsAt.app {H:Hp}:∀{as bs:List Addr} {ρs κs:List Row},RowsAt H as ρs->RowsAt H bs κs->RowsAt H (as++bs) (ρs++κs)
 | _,_,_,_,.nil,h=>h
 | _,_,_,_,.cons a t,h=> .cons a (RowsAt.app t h)
theorem RowsAt.get {H:Hp}:∀{as:List Addr} {ρs:List Row} {i:Nat} {ρ:Row},RowsAt H as ρs->ρs[i]? =some ρ->∃a,as[i]? =some a/\RowAt H a ρ
 | _,_,_,_,.nil,e=>by simp at e
 | _,_,0,_,.cons r _,e=>by simp at e;subst e;exact⟨_,rfl,r⟩
 | _,_,i+1,_,.cons _ t,e=>by
   obtain⟨u,h1,h2⟩:=RowsAt.get (i:=i) t (by simpa using e);exact⟨u,by simpa using h1,h2⟩
theorem RowsAt.get' {H:Hp}:∀{as:List Addr} {ρs:List Row} {i:Nat} {a:Addr},RowsAt H as ρs->as[i]? =some a->∃ρ,ρs[i]? =some ρ/\RowAt H a ρ
 | _,_,_,_,.nil,e=>by simp at e
 | _,_,0,_,.cons r _,e=>by simp at e;subst e;exact⟨_,rfl,r⟩
 | _,_,i+1,_,.cons _ t,e=>by
   obtain⟨u,h1,h2⟩:=RowsAt.get' (i:=i) t (by simpa using e);exact⟨u,by simpa using h1,h2⟩
theorem RowsAt.len {H:Hp} {as:List Addr} {ρs:List Row} (h:RowsAt H as ρs):as.length=ρs.length:=Paired.length h
theorem RowsAt.take {H:Hp}:∀{as:List Addr} {ρs:List Row} (n:Nat),RowsAt H as ρs->RowsAt H (as.take n) (ρs.take n)
 | _,_,0,_=> .nil
 | _,_,_+1,.nil=> .nil
 | _,_,n+1,.cons r t=> .cons r (RowsAt.take n t)
theorem RowsAt.drop {H:Hp}:∀{as:List Addr} {ρs:List Row} (n:Nat),RowsAt H as ρs->RowsAt H (as.drop n) (ρs.drop n)
 | _,_,0,r=>r
 | _,_,_+1,.nil=> .nil
 | _,_,n+1,.cons _ t=>RowsAt.drop n t
theorem RowsAt.eraseIdx {H:Hp}:∀{as:List Addr} {ρs:List Row} (n:Nat),RowsAt H as ρs->RowsAt H (as.eraseIdx n) (ρs.eraseIdx n)
 | _,_,_,.nil=> .nil
 | _,_,0,.cons _ t=>t
 | _,_,n+1,.cons r t=> .cons r (RowsAt.eraseIdx n t)
theorem LstAt.same {H H':Hp} {l:Addr} {ρs:List Row} (h:LstAt H l ρs) (e:H' l=H l) (s:∀b xs,H b=some (.tup xs)->H' b=some (.tup xs)):LstAt H' l ρs:=by
 obtain⟨as,h1,h2⟩:=h;exact⟨as,e.trans h1,h2.same s⟩
theorem LstAt.sameS {H H':Hp} {l:Addr} {ρs:List Row} (h:LstAt H l ρs) (s:Same H H'):LstAt H' l ρs:=by
 obtain⟨as,h1,h2⟩:=h;exact⟨as,s _ _ h1,h2.same λb xs q=>s _ _ q⟩
theorem c_x {α β:Type} (f:α->β):∀(l:List α) (i:Nat),(l.map f).eraseIdx i=(l.eraseIdx i).map f
 | [],_=>rfl
 | _::_,0=>rfl
 | a::r,i+1=>by simp[c_x f r i]
theorem g_k:∀as:List Addr,Vals (as.map V.ref) (as.map Value.ref)
 | []=> .nil
 | _::r=> .cons rfl (g_k r)
theorem e_C {α:Type} [DecidableEq α] {a:α}:∀{l:List α} {m:Nat},m < l.idxOf a->l[m]?≠some a
 | [],m,h=>by simp
 | x::r,m,h=>by
   rw[List.idxOf_cons] at h;cases e:x == a with
   | true=>rw[e] at h;simp at h
   | false=>
     rw[e] at h;cases m with
     | zero=>intro q;simp at q;subst q;simp at e
     | succ m=>
       rw[List.getElem?_cons_succ];exact e_C (by simpa using h)
section
variable {X:Cx}
theorem n_w {pins:List (Addr×Obj)} {σ:L2.St} {H:Hp} {s:Shared} {A:Around} (I:Inv X pins σ H s) {a b:Addr} {ρ ρ':Row} (hb:RowAt H b ρ') (ha:RowAt H a ρ) (hu:A.units < cLine):SeqAt.EqAt A s (.ref b) (.ref a) (decide (ρ'=ρ)):=by
 by_cases e:b=a
 ·subst e
  have:ρ'=ρ:=e_k (by have:=hb.symm.trans ha;injection this with this;injection this);subst this;rw[p_u rfl];exact SeqAt.EqAt.same _
 ·obtain⟨ib,rb,pb,_⟩:=I.tuple (SqT.of hb:SqT X.K H b (c_V ρ'))
  obtain⟨ia,ra,pa,_⟩:=I.tuple (SqT.of ha:SqT X.K H a (c_V ρ));have lb:=rb.length;have la:=ra.length;have f:ib.length=3:=by rw[<-lb];rfl
  have g:ia.length=3:=by rw[<-la];rfl
  have z:=SeqAt.RcAt.tuples (A:=A) (s:=s) (l:=b) (b:=a) (items:=ib.toArray) (items2:=ia.toArray) (e:=λj=>decide ((c_V ρ')[j]? =(c_V ρ)[j]?)) pb pa hu (λj h1 h2=>by
   have d:j < 3:=by simpa[f] using h1
   have g1:∃x,(c_V ρ')[j]? =some x:=⟨_,o_P (show j < 3 from d)⟩;have g2:∃x,(c_V ρ)[j]? =some x:=⟨_,o_P (show j < 3 from d)⟩;obtain⟨x,ex⟩:=g1;obtain⟨y,ey⟩:=g2;obtain⟨u,eu,ru⟩:=rb.get ex;obtain⟨v,ev,rv⟩:=ra.get ey
   have q1:ib.toArray[j]=u:=by
    have:ib[j]? =some ib[j]:=o_P (by omega);rw[this] at eu;simpa using eu
   have q2:ia.toArray[j]=v:=by
    have:ia[j]? =some ia[j]:=o_P (by omega);rw[this] at ev;simpa using ev
   rw[q1,q2,ex,ey]
   have al:d_j x y=true:=by
    match j,d with
    | 0,_=>simp[c_V] at ex ey;subst ex ey;rfl
    | 1,_=>simp[c_V] at ex ey;subst ex ey;rfl
    | 2,_=>simp[c_V] at ex ey;subst ex ey;rfl
   have:=c_E (A:=A.in1) (s:=s) ru rv al;have e2:decide (some x=some y)=decide (x=y):=by simp
   rw[e2];exact this)
  refine SeqAt.EqAt.of_refs e ?_
  have e3:((List.range (min ib.toArray.size ia.toArray.size)).all (λj=>decide ((c_V ρ')[j]? =(c_V ρ)[j]?))&&ib.toArray.size == ia.toArray.size)=decide (ρ'=ρ):=by
   rw[o_Y,o_Y,f,g];by_cases q:ρ'=ρ
   ·subst q;simp
   ·rw[p_v q]
    cases c:((List.range (min 3 3)).all (λj=>decide ((c_V ρ')[j]? =(c_V ρ)[j]?))&&(3:Nat) == 3) with
    | false=>rfl
    | true=>
      exfalso;apply q;apply e_k;simp[List.range,List.range.loop,c_V] at c;simp[c_V,c]
  rw[e3] at z;exact z
def k_A:V->List V->Hp->VK->Prop:=λx vs H Q=>∃l,∃as:List Addr,∃a,∃ρs:List Row,∃ρ,x= .ref l/\vs= [.ref a]/\H l=some (.lst (as.map .ref))/\RowsAt H as ρs/\RowAt H a ρ/\ρ∈ρs/\
 Q .non (upd H l (.lst ((as.eraseIdx (ρs.idxOf ρ)).map .ref)))
theorem h_Q (hu:X.A.units+1 < cLine):MtM X "list.remove" k_A:=by
 intro pins s σ H x vs v us Q I rx rv h;obtain⟨l,as,a,ρs,ρ,rfl,rfl,hH,hR,ha,hm,q⟩:=h;cases rx;obtain⟨u,rfl,ru⟩:=rv.one;cases ru;obtain⟨z,its,n,r,hl,e⟩:=I.lstM hH;have e1:=c_j r;subst e1;have j:=hR.len;have hj:ρs.idxOf ρ < ρs.length:=List.idxOf_lt_length_of_mem hm
 let ev:Value->Bool:=λv=>match v with
  | .ref b=>(match H b with | some (.tup ys)=>decide (ys=c_V ρ) | _=>false)
  | _=>false
 have c:∀b ρ',RowAt H b ρ'->ev (.ref b)=decide (ρ'=ρ):=λb ρ' hb=>by
  show (match H b with | some (.tup ys)=>decide (ys=c_V ρ) | _=>false)=_;rw[show H b=_ from hb];by_cases q:ρ'=ρ
  ·subst q;simp
  ·rw[p_v q]
   exact p_v λq'=>q (e_k q')
 have g:(as.map Value.ref).toArray.size<=sizeLine:=by rw[o_Y,<-hl];exact z
 have d:ρs.idxOf ρ < (as.map Value.ref).toArray.size:=by simp;omega
 have item:∀m (hm:m < (as.map Value.ref).toArray.size),∃b ρ',(as.map Value.ref).toArray[m]= .ref b/\ρs[m]? =some ρ'/\RowAt H b ρ':=λm hm=>by
  have f:m < as.length:=by simpa using hm
  obtain⟨ρ',h1,h2⟩:=hR.get' (o_P f);exact⟨as[m],ρ',by simp,h1,h2⟩
 refine call_meets F.slot_list_remove ⟨_,e,rfl⟩ F.entry_list_remove (F.args_list_remove_2 _ _) (SeqAt.list_removeAt l (as.map Value.ref).toArray n (.ref a) ev (ρs.idxOf ρ) d ?_ ?_ g) ⟨e,λy hy=> ?_, ?_⟩
 ·obtain⟨b,ρ',e1,e2,hb⟩:=item _ d
  rw[e1,c b ρ' hb];rw[o_P hj,List.getElem_idxOf hj] at e2;cases e2;exact p_u rfl
 ·intro m hm i
  obtain⟨b,ρ',e1,e2,hb⟩:=item m hm;rw[e1,c b ρ' hb];refine p_v λq=> ?_;subst q;exact e_C i e2
 ·obtain⟨m,hm,e1⟩:=Array.getElem_of_mem hy
  obtain⟨b,ρ',e2,e3,hb⟩:=item m hm;rw[<-e1,e2,c b ρ' hb];exact n_w I hb ha (by first | exact hu | simpa using hu)
 ·refine⟨.non,_,I.lset (its':=(as.eraseIdx (ρs.idxOf ρ)).map Value.ref) hH e ?_ ?_ ?_, rfl,q⟩
  ·show (as.map Value.ref).toArray.eraseIdxIfInBounds (ρs.idxOf ρ)=_
   rw[List.eraseIdxIfInBounds_toArray,c_x]
  ·exact g_k _
  ·rw[o_O]
   have:=d_b as (ρs.idxOf ρ);rw[o_O] at hl z;omega
end
end TO
namespace L2
open PySem PySem.Spec PyProof.Rows
section
variable {X:Cx}
theorem b_w:d_z X (.builtin "isinstance") (λxs H Q=>∃x n t b,xs= [x,.ty n]/\g_x X.K H x t/\PySem.W.kitOne X.K t (.type n)=some b/\Q (.bl b) H):=by
 intro pins s σ H xs us Q I rv h;obtain⟨x,n,t,b,rfl,ty,e,q⟩:=h;obtain⟨u,v,rfl,ru,rc⟩:=rv.two;cases rc;exact h_p I ru ty e λtk=>⟨.bl b,H,I.tok tk,rfl,q⟩
example (K:PySem.W.Frag):PySem.W.kitOne K (.type "int") (.type "bool")=some false:=by rfl
example (K:PySem.W.Frag):PySem.W.kitOne K (.type "int") (.type "int")=some true:=by rfl
example (K:PySem.W.Frag):PySem.W.kitAny K (.type "int") [.type "list",.type "tuple"]=some false:=by rfl
theorem h_L:d_z X (.builtin "isinstance") (λxs H Q=>∃x tp,∃ns:List String,∃t b,xs= [x,.ref tp]/\g_x X.K H x (.type t)/\(t="int"\/t="str"\/t="list"\/t="tuple")/\H tp=some (.tup (ns.map V.ty))/\PySem.W.kitAny X.K (.type t) (ns.map Value.type)=some b/\Q (.bl b) H):=by
 intro pins s σ H xs us Q I rv h;obtain⟨x,tp,ns,t,b,rfl,ty,ht,hH,e,q⟩:=h;obtain⟨u,v,rfl,ru,rc⟩:=rv.two;cases rc;obtain⟨z2,d,r2,⟨j,k,data2,l⟩,c,g,n2,f⟩:=I.hok tp _ hH;simp only at g f;subst g f
 have e2:d=ns.map Value.type:=by
  clear c e hH z2;induction ns generalizing d with
  | nil=>cases r2;rfl
  | cons n r ih=>
    cases r2 with
    | cons h t=>rw[o_3,<-ih _ t];cases h;rfl
 subst e2;cases ty with
 | non=>rcases ht with h | h | h | h <;> exact absurd h (by decide)
 | bl y=>rcases ht with h | h | h | h <;> exact absurd h (by decide)
 | flt y=>rcases ht with h | h | h | h <;> exact absurd h (by decide)
 | dK ea=>rcases ht with h | h | h | h <;> exact absurd h (by decide)
 | dT ea=>rcases ht with h | h | h | h <;> exact absurd h (by decide)
 | int i=>obtain⟨t,z⟩:=(show ∃t,u=Value.int i t from ru);cases z;exact PySem.W.kia_tup PySem.W.kitx_int I.kIn True.intro c e (λz=>nomatch z) λtk=>⟨.bl b,H,I.tok tk,rfl,q⟩
 | str y=>obtain⟨t,z⟩:=(show ∃t,u=Value.str y t from ru);cases z;exact PySem.W.kia_tup PySem.W.kitx_str I.kIn True.intro c e (λz=>nomatch z) λtk=>⟨.bl b,H,I.tok tk,rfl,q⟩
 | @lst a xs ea=>
   cases (show u=Value.ref a from ru);obtain⟨_,_,n,_,h1⟩:=(show ObjOk X.prog X.w H s.heap a (.lst xs) from I.hok a _ ea);exact PySem.W.kia_tup PySem.W.kitx_list I.kIn ⟨_,h1,rfl⟩ c e (λz=>nomatch z) λtk=>⟨.bl b,H,I.tok tk,rfl,q⟩
 | @frz a ob xs ea=>
   cases (show u=Value.ref a from ru);obtain⟨_,_,_,n,_,h1⟩:=(show ObjOk X.prog X.w H s.heap a (.frz ob (.lst xs)) from I.hok a _ ea);exact PySem.W.kia_tup PySem.W.kitx_list I.kIn ⟨_,h1,rfl⟩ c e (λz=>nomatch z) λtk=>⟨.bl b,H,I.tok tk,rfl,q⟩
 | @tup a xs ea=>
   cases (show u=Value.ref a from ru);obtain⟨_,_,_,p⟩:=(show ObjOk X.prog X.w H s.heap a (.tup xs) from I.hok a _ ea);obtain⟨o,h1,h2,_⟩:=p;exact PySem.W.kia_tup PySem.W.kitx_tuple I.kIn ⟨o,h1,h2⟩ c e (λz=>nomatch z) λtk=>⟨.bl b,H,I.tok tk,rfl,q⟩
end
section
variable {prog:Program} {w:World} {A:Around} {E:Value->Shared->Prop} {s:Shared}
end
section
variable {prog:Program} {w:World} {A:Around} {E:Value->Shared->Prop} {s:Shared} {Q:Bool->Shared->Prop}
end
section
variable {X:Cx} {pins:List (Addr×Obj)} {σ:L2.St} {H:Hp} {s:Shared}
end
end L2
namespace TO
open PySem PySem.Spec PyProof.Rows L2
section
variable {X:Cx}
end
end TO
namespace L2
open PySem PySem.Spec PyProof.Rows
theorem ObjOk.there {P:Program} {w:World} {H:Hp} {h:Heap} {a:Addr} {o:HO} (x:ObjOk P w H h a o):∃ob,h.get? a=some ob:=by
 cases o with
 | lst xs=>obtain⟨_,_,_,_,e⟩:=x;exact⟨_,e⟩
 | tup xs=>obtain⟨_,_,_,ob,e,_⟩:=x;exact⟨_,e⟩
 | dK kvs=>obtain⟨_,_,_,_,ob,_,_,e,_⟩:=x;exact⟨_,e⟩
 | dT kvs=>obtain⟨_,_,_,_,ob,_,_,e,_⟩:=x;exact⟨_,e⟩
 | set S n=>obtain⟨ob,_,_,_,e,_⟩:=x;exact⟨_,e⟩
 | ins C dx fs=>obtain⟨_,_,_,e,_⟩:=x;exact⟨_,e⟩
 | own y=>exact x
 | xd fs=>obtain⟨_,⟨_,_,_,e,_⟩,_⟩:=x;exact⟨_,e⟩
 | rng lo hi=>obtain⟨_,_,_,e⟩:=x;exact⟨_,e⟩
 | frz ob u=>obtain⟨e,_⟩:=x;exact⟨_,e⟩
 | tbl ps=>exact⟨_,show h.get? a=some _ from x⟩
 | met f y=>exact⟨_,show h.get? a=some _ from x⟩
 | ext φ=>exact x.2.1
def d_0 (fs:List Addr) (H':Hp) (h h' B:Heap):Prop:=∀b o,h'.get? b=some o->b∉fs->(H' b≠none\/∃o0,h.get? b=some o0)->B.get? b=some o
theorem m_R {fs:List Addr} {H H':Hp} {h h' h2 B:Heap} (u:Un fs [] H H' h h') (hB:d_0 fs H' h h' B) (st:B.StaysIn h2) (sl:∀b o,b∈fs->h'.get? b=some o->∃q,h2.get? b=some { o with slots:=q }):Un fs [] H H' h h2 where
 keep:=λb o q n hb hx=>st b o (hB b o (u.keep b o q n hb hx) hb (.inr ⟨o,q⟩))
 slot:=λb o q n hb hx=>by
  obtain⟨s1,e1⟩:=u.slot b o q n hb hx;obtain⟨s2,e2⟩:=sl b _ hb e1;exact⟨s2,e2⟩
 free:=u.free
 there:=λb o q hx=>by
  obtain⟨o',e⟩:=u.there b o q hx;by_cases hb:b∈fs
  ·obtain⟨s2,e2⟩:=sl b _ hb e
   exact⟨_,e2⟩
  ·exact⟨o',st b o' (hB b o' e hb (.inr ⟨o,q⟩))⟩
 tups:=u.tups
 frzs:=u.frzs
 tbls:=u.tbls
theorem j_6 {P:Program} {w:World} {fs:List Addr} {H':Hp} {h h' h2 B:Heap} (ok:HOk P w H' h') (hB:d_0 fs H' h h' B) (st:B.StaysIn h2) (hf:∀b∈fs,H' b=none):HOk P w H' h2:=λa o e=>by
 have go:∀b u,H' b≠none->h'.get? b=some u->h2.get? b=some u:=λb u n q=>st b u (hB b u q (λz=>n (hf b z)) (.inl n));refine (ok a o e).stay (λb u hb q=>go b u ?_ q) (λ_ q=>q) λ_ _ q=>q;rcases hb with rfl | hb
 ·rw[e];simp
 ·rw[hb];simp
theorem g_n {h h' B:Heap} {l:List Env} (ff:h.FunFrames B l) (up:h.UpToSlots h'):∀b o,b∈frs l->h.get? b=some o->∃q,h'.get? b=some { o with slots:=q }:=λb o hb e=>by
 obtain⟨_,o',ho',hd⟩:=ff.mem (show b∈l.filterMap (·.frame) from hb);rw[e] at ho';cases ho';exact up b o e hd
structure Fly (P:Program) (w:World) (outer:List Env) (H:Hp) (h:Heap) (a:Addr) (C:Value) (H':Hp) (h':Heap):Prop where
 fly:∃B a0,Heap.FlyingW B outer a C a0 h'/\d_0 (frs outer) H' h h' B
 un:Un (frs outer) [] H H' h h'
 hok:HOk P w H' h'
def CXR (P:Program) (w:World):CXT:=λouter H s E e s'=>∃a C H',e=Value.ref a/\s'.os=s.os/\AllBare s'.gens/\Fly P w outer H s.heap a (.ref C) H' s'.heap/\E (.ref C) none H'
def k_u (X:Cx) (E:XK):Prop:=∀(pins:List (Addr×Obj)) (σ:St) (H:Hp) (s:Shared) (h':Heap) (e C:Addr) (args:List Value),Inv X pins σ H s->Heap.MadeExcOf s.heap h' e (.ref C) args->E (.ref C) none H->X.xe (.ref e) { s with heap:=h' }
theorem k_m {X:Cx} {pins:List (Addr×Obj)}:∀b∈([]:List Addr),(b∈X.ex\/X.s₀.heap.objs.size<=b)/\b≠X.env.locals/\(∀x c,X.env.cells.lookup x=some c->c≠b)/\∀p∈X.pn++pins,p.1≠b:=λb z=>by simp at z
section
variable {P:Program} {w:World} {K:PySem.W.Frag} {mg:Str->Option Value} {base:Heap} {N:List Str} {qual:Str} {scope:Scope} {f:Addr} {cd:Value} {A:Around} {outer:List Env} {s:Shared} {H:Hp} {E E':XK}
theorem i_i {pins:List (Addr×Obj)} {σ:St} {H1 H':Hp} {s1 s':Shared} {a:Addr} {C:Value} {h2 B:Heap} {a0:Value}
 (I:Inv (g_P (CXR P w) P w K mg base N qual scope f cd A outer s H E) pins σ H1 s1) (os:s'.os=s1.os) (bare:AllBare s'.gens)
 (un:Un (frs (envOfC qual scope s.heap.objs.size f cd::outer)) [] H1 H' s1.heap s'.heap) (hok:HOk P w H' s'.heap) (hB:d_0 (frs (envOfC qual scope s.heap.objs.size f cd::outer)) H' s1.heap s'.heap B)
 (ff:s'.heap.FunFrames B (envOfC qual scope s.heap.objs.size f cd::outer)) (fl:Heap.FlyingW B outer a C a0 h2) (up:s'.heap.UpToSlots h2):
 s'.os=s.os/\Fly P w outer H s.heap a C H' h2:=by
 have J:=I.call' os un hok bare k_m;have sl:=g_n ff up;have c:HOk P w H' h2:=j_6 hok hB fl.1 J.stkFree;have u2:=m_R un hB fl.1 sl;have J2:Inv (g_P (CXR P w) P w K mg base N qual scope f cd A outer s H E) pins σ H' { s' with heap:=h2 }:=I.call' (s':={ s' with heap:=h2 }) os u2 c bare k_m;refine⟨J.os,⟨B,a0,fl,λb o e hb hc=> ?_⟩,J2.base,c⟩
 have hL:b≠s.heap.objs.size:=by
  rintro rfl;rcases hc with hc | ⟨o0,hc⟩
  ·exact hc J.free
  ·exact absurd (Heap.lt_size hc) (Nat.lt_irrefl _)
 have d:b∉frs (envOfC qual scope s.heap.objs.size f cd::outer):=λz=>by
  rcases o_Z.mp (show b∈s.heap.objs.size::frs outer from z) with q | q
  ·exact hL q
  ·exact hb q
 have g:∃o',s'.heap.get? b=some o':=by
  rcases hc with hc | ⟨o0,hc⟩
  ·cases q:H' b with
   | none=>exact absurd q hc
   | some u=>exact (hok b u q).there
  ·exact J.base.there b o0 hc (by simp[g_P])
 obtain⟨o',e'⟩:=g
 have e2:=hB b o' e' d (by
  rcases hc with hc | ⟨o0,hc⟩
  ·exact .inl hc
  ·exact .inr (I.base.there b o0 hc (by simp[g_P])))
 rw[fl.1 b o' e2] at e;cases e;exact e2
theorem d_H (hE:∀c d H',E' c d H'->E c d H'):b_Q (CXR P w) (g_P (CXR P w) P w K mg base N qual scope f cd A outer s H E) E':=by
 rintro pins σ H1 s1 e s' I ⟨a,C,H',rfl,os,bare,F,q⟩;obtain⟨B,a0,fl,hB⟩:=F.fly;show wpAny (model P w) (A.deeper (envOfC qual scope s.heap.objs.size f cd)) (leaving (envOfC qual scope s.heap.objs.size f cd) (.ref a)) _ _ s';refine wpAny_leaves_onW (outer:=outer) I.ok.frames rfl fl λh2 b up=> ?_;obtain⟨o2,F2⟩:=i_i I os bare F.un F.hok hB fl.2.2.1 b up;exact⟨a,C,H',rfl,o2,bare,F2,hE _ _ _ q⟩
theorem d_l:k_u (g_P (CXR P w) P w K mg base N qual scope f cd A outer s H E) E:=by
 intro pins σ H1 s1 h' e C args I hx q;show wpAny (model P w) (A.deeper (envOfC qual scope s.heap.objs.size f cd)) (leaving (envOfC qual scope s.heap.objs.size f cd) (.ref e)) _ _ { s1 with heap:=h' };have a:=I.stack
 have ff:h'.FunFrames (PySem.W.hideAll s1.heap (frs (envOfC qual scope s.heap.objs.size f cd::outer))) (envOfC qual scope s.heap.objs.size f cd::outer):=
  Heap.FunFrames.of_keeps (λb o hb _=>⟨o,hx.keeps b o hb,rfl⟩) (PySem.W.funFrames_hide a λen he b hb=>List.mem_filterMap.mpr ⟨en,he,hb⟩)
 refine wpAny_leaves_madeW (base:=PySem.W.hideAll s1.heap (frs (envOfC qual scope s.heap.objs.size f cd::outer))) (h:=s1.heap) (outer:=outer) I.ok.frames rfl (λb o z=>PySem.W.of_hideAll _ z)
  (PySem.W.funFrames_hide a λen he b hb=>List.mem_filterMap.mpr ⟨en,he,hb⟩) hx λh2 t fl tp nt up=> ?_
 have hB:d_0 (frs (envOfC qual scope s.heap.objs.size f cd::outer)) H1 s1.heap h' (PySem.W.hideAll s1.heap (frs (envOfC qual scope s.heap.objs.size f cd::outer))):=λb o e hb hc=>by
  have:∃o1,s1.heap.get? b=some o1:=by
   rcases hc with hc | hc
   ·cases z:H1 b with
    | none=>exact absurd z hc
    | some u=>exact (I.hok b u z).there
   ·exact hc
  obtain⟨o1,e1⟩:=this;rw[hx.keeps b o1 e1] at e;cases e;exact PySem.W.hideAll_get _ e1 hb
 obtain⟨o2,F2⟩:=i_i (s':={ s1 with heap:=h' }) I rfl I.bare (Un.kept hx.keeps) (I.hok.kept hx.keeps) hB ff fl up;exact⟨e,C,H1,rfl,o2,I.bare,F2,q⟩
end
section
variable {P:Program} {w:World} {K:PySem.W.Frag} {mg:Str->Option Value} {base:Heap}
theorem Fun.okX {x qual:Str} {st:Stmt} {f:Addr} {fd:FuncData} {N ps:List Str} {k:Nat} {sp:Sp} (F:Fun K x qual st f fd) (S:a_s N ps (a_m st)) (len:∀vs H Q E,sp vs H Q E->vs.length=ps.length)
 (hbody:∀(cdv:Value) (A:Around) (outer:List Env) (s:Shared) (H:Hp) (vs:List V) (Q:VK) (E:XK),Room k (A.deeper (envOfC qual (a_m st) s.heap.objs.size f cdv))→sp vs H Q E→
   ∃t,PSs (g_P (CXR P w) P w K mg base N qual (a_m st) f cdv A outer s H E) (c_d st) t/\t { nx:=λ_ H'=>Q .non H',rt:=Q } (start N vs) H):FnOk P w K mg base (CXR P w) (k+1) f fd ps sp:=by
 obtain⟨oc,od,kV,doc,pm,an,cdv,ct,osl,rfl,lk,b⟩:=F.ex;exact m_0 lk b S len λA outer s H vs Q E hr a=>hbody cdv A outer s H vs Q E hr a
end
abbrev h_d:List Value:= [.type "ValueError",.type "Exception",.type "BaseException",.type "object"]
structure Exc (K:PySem.W.Frag) (mg:Str->Option Value) (x:Str) (C:Addr):Prop where
 at_:mg x=some (.ref C)
 ok:PySem.W.excIn K C h_d "ValueError.__new__"=true
theorem l_u {K:PySem.W.Frag} {g:Heap} {C:Addr} {tl:List Value} {nid:String} (kin:K.In g) (is:PySem.W.excIn K C tl nid=true):
 ∃(bm:List Value) (N:Addr) (nm qn:Str) (bs:List Value) (hd:Bool) (sn:List Str) (sub:List Value) (ab:Bool) (col:Option Bool) (dd:Option Addr) (k0 k1 k2 k3 k5:Option Value) (mN:Str->Option Value),
  g.get? C=some (excClassObj nm qn C N bs bm hd sn sub ab col dd k0 k1 k2 k3 k5 nid)/\g.Ns N mN/\mN "__init__"=none/\OwnTail g tl bm:=by
 unfold PySem.W.excIn at is;split at is
 rotate_left
 ·cases is
 rename_i dd cd sl look;split at is
 rotate_left
 ·cases is
 rename_i C1 bm k0 k1 k2 k3 n k5 em es;simp only[Bool.and_eq_true,beq_iff_eq,Bool.not_eq_true'] at is;obtain⟨⟨⟨⟨⟨i1,i2⟩,i3⟩,i4⟩,i5⟩,i6⟩:=is;subst i1 i2;cases cd with
 | mk nm bs mro ns qn hd sn sub ab col del=>
   dsimp only at em i3 i5 i6;subst em i3
   have e:sl= #[k0,k1,k2,k3,some (.builtin n),k5]:=by
    cases sl;simp only at es;rw[es]
   subst e;exact⟨bm,ns,nm,qn,bs,hd,sn,sub,ab,col,dd,k0,k1,k2,k3,k5,_,kin _ _ look,.of_isNs (PySem.W.isNs_of_in kin i5),PySem.W.nsMap_none_of_in kin i5 i6,PySem.W.tail_of_in kin i4⟩
section
variable {X:Cx} {E:XK} {x:Str} {C:Addr} {e0:Expr} {es:List Expr} {np cpos pos:Pos} {t:TA}
def m_F (C:Addr) (E:XK) (t:TA):TS:=λ_ σ H=>t σ H λvs H1=>vs.length<=sizeLine/\E (.ref C) none H1
theorem c_g (hx:Exc X.K X.mg x C) (hr:k_u X E) (ha:PA X (e0::es) t) (hg:Gl X x:=by rfl) (hc:X.calm=true:=by rfl) (he:starEach (e0::es) X.env=(false,eval e0 X.env)::starEach es X.env:=by rfl)
 (hpl:(backTo cpos (starEach es X.env)).any (·.1)=false:=by rfl) (hd:(x == ("__debug__":Str))=false:=by decide):PS X (.Raise (some (.Call (.Name x np) (e0::es) [] cpos)) none pos) (m_F C E t):=by
 intro pins s σ H D I h;obtain⟨bm,N,nm,qn,bs,b,sn,sub,ab,col,dd,k0,k1,k2,k3,k5,mN,hC,hN,a,T⟩:=l_u I.ok.mod.kin hx.ok
 refine wpAny_Raise_call_subT (C:=C) (nm:=nm) (q:=qn) (N:=N) (bs:=bs) (bm:=bm) (hdct:=b) (sn:=sn) (sub:=sub) (ab:=ab) (col:=col) (dd:=dd) (k0:=k0) (k1:=k1) (k2:=k2) (k3:=k3) (k5:=k5)
  F.excBase_ValueError (mN:=mN) (T.hasType F.excBase_ValueError.hasBase) (I.ok.hd hc) (by rw[he];exact hpl) a (b_I I hg hx.at_ ⟨rfl,?_⟩ hd)
 have h2:=ha cpos pins s σ H _ I h;rw[he] at h2 ⊢;refine Calls.evalArgs_plain (thn h2 λus s2 ⟨vs,H1,I1,r,z,q⟩=> ?_);exact⟨rfl,by rw[<-r.length];exact z,I1.bk _ _ hC,hN.keeps I1.bk,T.keeps I1.bk,λh' e hm=>hr pins σ H1 s2 h' e C us I1 hm q⟩
end
section
variable {X:Cx} {a b v:Expr} {c1 c2:Str} {tv:TE} {p pos:Pos}
def tFs (tv:TE):TE:=λσ H Q=>tv σ H λx H1=>∃n:Int,x= .int n/\n.natAbs.log2 < 1920/\∀y:Str,Q (.str y) H1
def tFr (tv:TE):TE:=λσ H Q=>tv σ H λx H1=>∃n:Str,x= .str n/\(PySem.reprText n).length<=1000/\∀y:Str,Q (.str y) H1
theorem i_g {n:Int} (h:n.natAbs.log2 < 1920):(Str.ofString (toString n)).length<=1921:=by
 rw[PySem.ofString_length];exact int_text_length_le (by decide) h
theorem d_c {n:Nat} (h:n<=10000):n<=sizeLine:=o_9 h (by decide)
theorem m_H (ha:PE X a (tC (.str c1))) (hv:PE X v tv) (hb:PE X b (tC (.str c2))) (h1:c1.length<=1000) (h2:c2.length<=1000):PE X (.JoinedStr [a,.FormattedValue v (-1) none p,b] pos) (tFs tv):=by
 intro pins s σ H Q I h;refine JoinedStr_many (joinParts_cons (thn (ha pins s σ H (λx H1=>x= .str c1/\H1=H) I ⟨rfl,rfl⟩) λu s1 ⟨x,H1,I1,r,ex,eH⟩=> ?_));subst ex eH;obtain⟨t,rfl⟩:=r;refine⟨d_c (by rw[strLen_append];show 0+_<=_;omega),joinParts_cons (FormattedValue_plain (thn (hv pins s1 σ H1 _ I1 h) λu s2 ⟨x,H2,I2,r,n,ex,hn,k⟩=> ?_))⟩;subst ex;obtain⟨t2,rfl⟩:=r;have hl:=i_g hn;refine formatField_int_small hn ⟨d_c (by rw[strLen_append,strLen_append];show 0+_+_<=_;omega),joinParts_cons (thn (hb pins _ σ H2 (λx H1=>x= .str c2/\H1=H2) (I2.tok _) ⟨rfl,rfl⟩) λu s3 ⟨x,H3,I3,r,ex,eH⟩=> ?_)⟩;subst ex eH;obtain⟨t3,rfl⟩:=r;have hz:∀z:Str,z.length<=10000->z.length<=sizeLine:=λz q=>d_c q;refine⟨hz _ (by rw[strLen_append,strLen_append,strLen_append];show 0+_+_+_<=_;omega),joinParts_nil ⟨.str _,H3,I3.tok _,⟨_,rfl⟩,k _⟩ (hz _ (by rw[strLen_append,strLen_append,strLen_append];show 0+_+_+_<=_;omega))⟩
theorem m_P (ha:PE X a (tC (.str c1))) (hv:PE X v tv) (h1:c1.length<=1000):PE X (.JoinedStr [a,.FormattedValue v (-1) none p] pos) (tFs tv):=by
 intro pins s σ H Q I h;refine JoinedStr_many (joinParts_cons (thn (ha pins s σ H (λx H1=>x= .str c1/\H1=H) I ⟨rfl,rfl⟩) λu s1 ⟨x,H1,I1,r,ex,eH⟩=> ?_));subst ex eH;obtain⟨t,rfl⟩:=r;refine⟨d_c (by rw[strLen_append];show 0+_<=_;omega),joinParts_cons (FormattedValue_plain (thn (hv pins s1 σ H1 _ I1 h) λu s2 ⟨x,H2,I2,r,n,ex,hn,k⟩=> ?_))⟩;subst ex;obtain⟨t2,rfl⟩:=r;have hl:=i_g hn;have hz:∀z:Str,z.length<=10000->z.length<=sizeLine:=λz q=>d_c q;refine formatField_int_small hn ⟨hz _ (by rw[strLen_append,strLen_append];show 0+_+_<=_;omega),joinParts_nil ⟨.str _,H2,I2.tok _,⟨_,rfl⟩,k _⟩ (hz _ (by rw[strLen_append,strLen_append];show 0+_+_<=_;omega))⟩
theorem m_w (ha:PE X a (tC (.str c1))) (hv:PE X v tv) (h1:c1.length<=1000):PE X (.JoinedStr [a,.FormattedValue v 114 none p] pos) (tFr tv):=by
 intro pins s σ H Q I h;refine JoinedStr_many (joinParts_cons (thn (ha pins s σ H (λx H1=>x= .str c1/\H1=H) I ⟨rfl,rfl⟩) λu s1 ⟨x,H1,I1,r,ex,eH⟩=> ?_));subst ex eH;obtain⟨t,rfl⟩:=r;refine⟨d_c (by rw[strLen_append];show 0+_<=_;omega),joinParts_cons (wpAny_FormattedValue_repr (thn (hv pins s1 σ H1 _ I1 h) λu s2 ⟨x,H2,I2,r,n,ex,hn,k⟩=> ?_))⟩;subst ex;obtain⟨t2,rfl⟩:=r;have hz:∀z:Str,z.length<=10000->z.length<=sizeLine:=λz q=>d_c q;refine wpAny_pyReprObj_str (formatField_str (λt' tk=>⟨hz _ (by rw[strLen_append,strLen_append];show 0+_+_<=_;omega),joinParts_nil ⟨.str _,H2,I2.tok _,⟨_,rfl⟩,k _⟩ (hz _ (by rw[strLen_append,strLen_append];show 0+_+_<=_;omega))⟩) (hz _ (by omega))) (hz _ (by omega))
end
structure FlyB (P:Program) (w:World) (l:List Env) (H:Hp) (h:Heap) (a:Addr) (C:Value) (H':Hp) (h' B:Heap) (a0:Value):Prop where
 fl:Heap.FlyingW B l a C a0 h'
 hB:d_0 (frs l) H' h h' B
 un:Un (frs l) [] H H' h h'
 hok:HOk P w H' h'
theorem FlyB.on {P:Program} {w:World} {l:List Env} {H H':Hp} {h h' h2 B:Heap} {a:Addr} {C a0:Value} (F:FlyB P w l H h a C H' h' B a0) (f2:Heap.FlyingW B l a C a0 h2) (up:h'.UpToSlots h2) (hf:∀b∈frs l,H' b=none):
 FlyB P w l H h a C H' h2 B a0 where
 fl:=f2
 un:=m_R F.un F.hB f2.1 (g_n F.fl.2.2.1 up)
 hok:=j_6 F.hok F.hB f2.1 hf
 hB:=λb o e hb hc=>by
  have c:∃o',h'.get? b=some o':=by
   rcases hc with hc | ⟨o0,hc⟩
   ·cases q:H' b with
    | none=>exact absurd q hc
    | some u=>exact (F.hok b u q).there
   ·exact F.un.there b o0 hc (by simp)
  obtain⟨o',e'⟩:=c;have e2:=F.hB b o' e' hb hc;rw[f2.1 b o' e2] at e;cases e;exact e2
def bot (X:Cx):St:=List.replicate X.N.length none
theorem Inv.dim {X:Cx} {pins:List (Addr×Obj)} {σ:St} {H:Hp} {s:Shared} (I:Inv X pins σ H s):Inv X pins (bot X) H s:=by
 obtain⟨m,hn,_⟩:=I.loc;refine⟨I.ok,I.os,I.bare,I.base,⟨m,hn,λi x v _ h2 _=> ?_⟩,I.cell,I.free,I.freeC,I.pin,I.hok,by simp[bot]⟩;unfold bot at h2;rw[List.getElem?_replicate] at h2
 split at h2 <;> cases h2
abbrev Cx.pw (X:Cx) (pn:List (Addr×Obj)) (xe:Value->Shared->Prop):Cx:={ X with pn:=pn,xe:=xe }
theorem Cx.Ok.pw {X:Cx} (ok:X.Ok) (pn:List (Addr×Obj)) (xe:Value->Shared->Prop):(X.pw pn xe).Ok:=
 ⟨ok.mod,ok.kind,ok.glob,ok.blt,ok.above,ok.inj,ok.has,ok.cab,ok.hd,ok.frames,ok.stk,ok.exf,ok.bs,ok.bsz,ok.noex,ok.exfs,ok.funs,ok.frf⟩
theorem Cx.Ok.unpw {X:Cx} {pn:List (Addr×Obj)} {xe:Value->Shared->Prop} (ok:(X.pw pn xe).Ok):X.Ok:=
 ⟨ok.mod,ok.kind,ok.glob,ok.blt,ok.above,ok.inj,ok.has,ok.cab,ok.hd,ok.frames,ok.stk,ok.exf,ok.bs,ok.bsz,ok.noex,ok.exfs,ok.funs,ok.frf⟩
section
variable {X:Cx} {pins:List (Addr×Obj)} {σ:St} {H:Hp} {s:Shared} {xe:Value->Shared->Prop}
theorem Inv.pnIn (I:Inv X pins σ H s) (xe:Value->Shared->Prop):Inv (X.pw (X.pn++pins) xe) [] σ H s:=
 ⟨I.ok.pw _ _,I.os,I.bare,I.base,I.loc,I.cell,I.free,I.freeC,λp hp=>I.pin p (by simpa using hp),I.hok,I.len⟩
theorem Inv.pnOut {p2:List (Addr×Obj)} (I:Inv (X.pw (X.pn++pins) xe) p2 σ H s):Inv X pins σ H s:=
 ⟨I.ok.unpw,I.os,I.bare,I.base,I.loc,I.cell,I.free,I.freeC,λp hp=>I.pin p (p_n _ hp),I.hok,I.len⟩
theorem SP.pnOut {D:e_y} {f:Flow} {s':Shared} (h:SP (X.pw (X.pn++pins) xe) [] D f s'):SP X pins D f s':=by
 cases f with
 | next=>obtain⟨σ',H',I,q⟩:=h;exact⟨σ',H',I.pnOut,q⟩
 | brk=>obtain⟨σ',H',I,q⟩:=h;exact⟨σ',H',I.pnOut,q⟩
 | cont=>obtain⟨σ',H',I,q⟩:=h;exact⟨σ',H',I.pnOut,q⟩
 | ret u=>obtain⟨v,σ',H',I,r,q⟩:=h;exact⟨v,σ',H',I.pnOut,r,q⟩
abbrev Cx.hand (X:Cx) (e:Value):Cx:={ X with A:=X.A.mark (some e),calm:=false,xe:=λ_ _=>False }
theorem Inv.hand (I:Inv X pins σ H s) (e:Value):Inv (X.hand e) pins σ H s:=
 ⟨⟨I.ok.mod,I.ok.kind,I.ok.glob,I.ok.blt,I.ok.above,I.ok.inj,I.ok.has,I.ok.cab,λz=>(by cases z),I.ok.frames,I.ok.stk,I.ok.exf,I.ok.bs,I.ok.bsz,I.ok.noex,I.ok.exfs,I.ok.funs,I.ok.frf⟩,I.os,I.bare,I.base,I.loc,I.cell,I.free,I.freeC,I.pin,I.hok,I.len⟩
theorem Inv.unhand (ok:X.Ok) {e:Value} (I:Inv (X.hand e) pins σ H s):Inv X pins σ H s:=
 ⟨ok,I.os,I.bare,I.base,I.loc,I.cell,I.free,I.freeC,I.pin,I.hok,I.len⟩
theorem SP.unhand (ok:X.Ok) {e:Value} {D:e_y} {f:Flow} {s':Shared} (h:SP (X.hand e) pins D f s'):SP X pins D f s':=by
 cases f with
 | next=>obtain⟨σ',H',I,q⟩:=h;exact⟨σ',H',I.unhand ok,q⟩
 | brk=>obtain⟨σ',H',I,q⟩:=h;exact⟨σ',H',I.unhand ok,q⟩
 | cont=>obtain⟨σ',H',I,q⟩:=h;exact⟨σ',H',I.unhand ok,q⟩
 | ret u=>obtain⟨v,σ',H',I,r,q⟩:=h;exact⟨v,σ',H',I.unhand ok,r,q⟩
end
inductive PH (X:Cx):List ExceptHandler->List (Addr×TS)->Prop
 | nil:PH X [] []
 | cons {x:Str} {C:Addr} {np pos:Pos} {b0:Stmt} {suite:List Stmt} {d_F:List ExceptHandler} {t:TS} {cl:List (Addr×TS)}:Gl X x→X.mg x=some (.ref C)→(x == ("__debug__":Str))=false→
    (∀e,PSs (X.hand e) (b0::suite) t)->PH X d_F cl->PH X (.ExceptHandler (some (.Name x np)) none (b0::suite) pos::d_F) ((C,t)::cl)
def j_q (K:PySem.W.Frag) (c:Value) (D:e_y) (σ:St) (H:Hp):List (Addr×TS)->Prop
 | []=>False
 | (C,t)::r=>(PySem.W.exmOne K c (.ref C)=some true/\t D σ H)\/(PySem.W.exmOne K c (.ref C)=some false/\j_q K c D σ H r)
theorem e_h {X:Cx} {pins:List (Addr×Obj)} {σ:St} {H1 H:Hp} {s1:Shared} {a:Addr} {C a0:Value} {B:Heap} {D:e_y} (I1:Inv X pins σ H1 s1):
 ∀{hs:List ExceptHandler} {cl:List (Addr×TS)},PH X hs cl->∀{s:Shared},s.os=s1.os->AllBare s.gens->FlyB X.prog X.w X.stack H1 s1.heap a C H s.heap B a0->j_q X.K C D σ H cl->
  wpAny (model X.prog X.w) X.A (handleBy (.ref a) X.env hs) (SP X pins D) X.xe s
 | _,_,.nil,s,_,_,_,h=>False.elim h
 | _,_,.cons (C:=C') hg hm hd hs hr,s,os,bare,F,h=>by
   have J:=I1.call' os F.un F.hok bare k_m;obtain⟨oe,he,hc⟩:=F.fl.there
   have LT:PySem.W.Looks (model X.prog X.w) s.heap (typeOf (.ref a)) C:=by
    rw[<-hc];exact (PySem.W.Looks.ld he).andThen .now
   refine wpAny_handleBy_cons (codeAny_handlers_test (b_I (X:=X.hand (.ref a)) (J.hand _) hg hm ?_ hd)) (by intro q;cases q);rcases h with⟨hx,h⟩ | ⟨hx,h⟩
   ·refine (PySem.W.exm_one J.kIn LT hx).here ?_
    refine codeAny_handlers_suite (wpAny_setFlight_noneW F.fl.1 F.fl.2.2.1 F.fl.2.2.2.at λh2 k1 k2 k3 k4=> ?_);have F2:=F.on ⟨k1,F.fl.2.1,k2,k3⟩ (λb o hb hn=>⟨o.slots,k4 b o hb hn⟩) J.stkFree;have J2:Inv X pins σ H { s with heap:=h2 }:=I1.call' (s':={ s with heap:=h2 }) os F2.un F2.hok bare k_m;exact wpAny_mono (hs (.ref a) pins _ σ H D (J2.hand _) h) (λf s2 q=>q.unhand I1.ok) λ_ _ z=>False.elim z
   ·refine (PySem.W.exm_one J.kIn LT hx).here ?_
    exact e_h I1 hr os bare F h
def o_y (tb:XK->TS) (K:PySem.W.Frag) (X:Cx) (cl:List (Addr×TS)):TS:=λD σ H=>tb (λc _ H'=>j_q K c D (bot X) H' cl) D σ H
theorem k_j {X:Cx} {body:List Stmt} {h0:ExceptHandler} {hs:List ExceptHandler} {pos:Pos} {tb:XK->TS} {cl:List (Addr×TS)} (hp:PH X (h0::hs) cl)
 (hb:∀(pn:List (Addr×Obj)) (xe:Value->Shared->Prop) (E:XK),b_Q (CXR X.prog X.w) (X.pw pn xe) E->PSs (X.pw pn xe) body (tb E)) (hst:X.stack=X.env::X.outer:=by rfl) (hfr:X.env.frame=some X.env.locals:=by rfl):
 PS X (.Try body (h0::hs) [] [] pos) (o_y tb X.K X cl):=by
 intro pins s σ H D I h;refine wpAny_Try_except ?_
 refine wpAny_mono (hb (X.pn++pins) (λe s₁=>wpAny (model X.prog X.w) X.A (noteFrame e X.env) (λ_ s₂=>wpAny (model X.prog X.w) X.A (setFlight e none) (λ_ s₃=>wpAny (model X.prog X.w) X.A (handleBy e X.env (h0::hs)) (SP X pins D) X.xe s₃) X.xe s₂) X.xe s₁)
  (λc _ H'=>j_q X.K c D (bot X) H' cl) ?_ [] s σ H D (I.pnIn _) h) (λf s1 q=> ?_) λ_ _ z=>z
 ·rintro p2 σ' H1 s1 e s' I1 ⟨a,C,H',rfl,os,bare,F,q⟩
  have I2:Inv X pins (bot X) H1 s1:=Inv.dim (Inv.pnOut I1);obtain⟨B,a0,fl,hB⟩:=F.fly;have F1:FlyB X.prog X.w X.stack H1 s1.heap a (.ref C) H' s'.heap B a0:=⟨fl,hB,F.un,F.hok⟩;have J:=I2.call' os F1.un F1.hok bare k_m;have b:=F1.fl;rw[hst] at b;refine wpAny_looks_onW (outer:=X.outer) (by rw[<-hst];exact I2.ok.frames) hfr b λh2 held up=> ?_;refine wpAny_landsW held λh3 d g=> ?_;rw[<-hst] at d;exact e_h (s:={ s' with heap:=h3 }) I2 hp os bare (F1.on d (up.trans g) J.stkFree) q
 ·have q2:=q.pnOut
  cases f with
  | next=>exact wpAny_execs_nil q2
  | brk=>exact q2
  | cont=>exact q2
  | ret u=>exact q2
end L2
namespace TO
open PySem L2
end TO
namespace TO
open PySem PySem.Spec PyProof.Rows L2
section
variable {prog:Program} {w:World} {A:Around} {s:Shared}
end
end TO
namespace L2
open PySem PySem.Spec PyProof.Rows
section
variable {X:Cx} {pins:List (Addr×Obj)} {σ:St} {H:Hp} {s:Shared}
end
end L2
namespace TO
open PySem PySem.Spec PyProof.Rows L2
section
variable {X:Cx}
end
end TO
namespace L2
open PySem PySem.Spec PyProof.Rows
section
variable {X:Cx} {scope:Scope} {x x2:Str} {fns:List Str} {js:List Nat} {pins:List (Addr×Obj)} {σ:St} {H:Hp} {s:Shared} {fp:List Addr}
end
section
variable {X:Cx} {scope:Scope} {x x2:Str} {fns:List Str} {js:List Nat} {pins:List (Addr×Obj)} {σ:St} {H:Hp} {s:Shared} {elt iter:Expr} {px py pt pos pos':Pos} {kt:Nat} {ifs:List Expr} {wi:TI} {tt:TT} {te:TE}
end
section
variable {X:Cx} {pins:List (Addr×Obj)} {σ:St} {H:Hp} {s:Shared} {d:Addr} {ob:Obj} {kvs:List (Key×V)}
end
end L2
namespace K1
open PySem L2 TO
def g_T (w:Bool):Str:=if w=true then "text" else "rank"
theorem wb:¬ (("word":Str)="blocks"):=by decide+kernel
def f_e (w:Bool) (bl:Addr):List (Str×V):=c_y "blocks" (.ref bl) (c_y "word" (.str (g_T w)) [])
theorem b_2 (w:Bool) (bl:Addr):(f_e w bl).lookup ("word":Str)=some (.str (g_T w)):=by
 unfold f_e;rw[a_7,if_neg wb,a_7,if_pos rfl]
theorem a_C (w:Bool) (bl:Addr):(f_e w bl).lookup ("blocks":Str)=some (.ref bl):=by
 unfold f_e;rw[a_7,if_pos rfl]
theorem b_h (w:Bool) (bl:Addr) {m:Str} (h1:¬ m="blocks") (h2:¬ m="word"):(f_e w bl).lookup m=none:=by
 unfold f_e;rw[a_7,if_neg h1,a_7,if_neg h2]
 all_goals rfl
structure Txt (K:PySem.W.Frag) (mg:Str->Option Value) (C:Addr):Prop where
 cl:Cls K C
 nW:NoAttr K C "word"
 nB:NoAttr K C "blocks"
 mgC:mg "Order"=some (.ref C)
 rank:∃t,mg "RANK_WORD"=some (.str "rank" t)
 text:∃t,mg "TEXT_WORD"=some (.str "text" t)
 most:∃t,mg "MOST_IN_A_BLOCK"=some (.int 8 t)
 least:∃t,mg "LEAST_IN_TWO_BLOCKS"=some (.int 5 t)
 len:mg "len"=none
 min:mg "min"=none
 sum:mg "sum"=none
theorem f_Q {X:Cx} {x v:Str} {t:Tok} {pos:Pos} (hm:X.mg x=some (.str v t)) (hg:Gl X x:=by rfl) (hd:(x == ("__debug__":Str))=false:=by decide):PE X (.Name x pos) (tC (.str v)):=f_P hg hm ⟨t,rfl⟩ hd
theorem l_9 {X:Cx} {x:Str} {v:Int} {t:Tok} {pos:Pos} (hm:X.mg x=some (.int v t)) (hg:Gl X x:=by rfl) (hd:(x == ("__debug__":Str))=false:=by decide):PE X (.Name x pos) (tC (.int v)):=f_P hg hm ⟨t,rfl⟩ hd
structure Gf (K:PySem.W.Frag) (mg:Str->Option Value) (x:Str) (f:Addr) (fd:FuncData) (ps:List Str):Prop where
 mg:mg x=some (.ref f)
 kp:PySem.W.keepIn K (.ref f)=true
 b:Binds K fd ps []
section
variable {P:Program} {w:World} {K:PySem.W.Frag} {mg:Str->Option Value} {base:Heap}
def n_5:Sp:=λvs H Q _=>∃w,vs= [.str (g_T w)]/\Q .non H
theorem n_2:a_s ["word"] ["word"] (a_m sCW):=⟨rfl,rfl,rfl,by decide+kernel,rfl,by decide+kernel,by decide+kernel⟩
theorem n_M {f C:Addr} {fd:FuncData} (F:Fun K "check_word" "check_word" sCW f fd) (T:Txt K mg C):FnOk P w K mg base CX0 1 f fd ["word"] n_5:=by
 refine F.ok n_2 (λvs H Q E h=> ?_) (λcdv A outer s H vs Q E hr h=> ?_)
 ·obtain⟨w,rfl,_⟩:=h
  rfl
 ·obtain⟨w,rfl,k⟩:=h
  obtain⟨t1,h1⟩:=T.rank;obtain⟨t2,h2⟩:=T.text;refine⟨_,a_f (a_B (PW.pt (d_Z (a_k c_O (pv 0) (f_Q h1) (a_o _)) (c_B (a_k c_O (pv 0) (f_Q h2) (a_o _))))) (a_f j_v) a_p),?_⟩;refine⟨_,rfl,rfl,_,rfl,?_⟩;cases w with
  | false=>exact k
  | true=>
    refine a_z (λ_=> ?_) (λ_=>k);refine⟨_,rfl,rfl,_,rfl,?_⟩;exact k
def k_w:Sp:=λvs H Q _=>∃w a ρ,vs= [.str (g_T w),.ref a]/\RowAt H a ρ/\Q (g_l w ρ) H
theorem m_W:a_s ["word","row"] ["word","row"] (a_m l_P):=⟨rfl,rfl,rfl,by decide+kernel,rfl,by decide+kernel,by decide+kernel⟩
theorem k_D {f C:Addr} {fd:FuncData} (F:Fun K "lead_of" "lead_of" l_P f fd) (T:Txt K mg C):FnOk P w K mg base CX0 1 f fd ["word","row"] k_w:=by
 refine F.ok m_W (λvs H Q E h=> ?_) (λcdv A outer s H vs Q E hr h=> ?_)
 ·obtain⟨w,a,ρ,rfl,_⟩:=h
  rfl
 ·obtain⟨w,a,ρ,rfl,ha,k⟩:=h
  obtain⟨t1,h1⟩:=T.rank
  refine⟨_,a_d (a_B (a_k a_L (pv 0) (f_Q h1) (a_o _)) (a_f (a_n (a_v a_t (pv 1) a_e (λ_ _=>rfl)))) a_p)
   (a_f (a_n (a_v a_t (pv 1) a_e (λ_ _=>rfl)))),?_⟩
  refine⟨_,rfl,rfl,_,rfl,?_⟩;cases w with
  | false=>exact⟨_,rfl,a,_,_,_,rfl,rfl,SqT.of ha,a_g (j:=1) rfl,k⟩
  | true=>exact⟨_,rfl,a,_,_,_,rfl,rfl,SqT.of ha,a_g (j:=2) rfl,k⟩
def i_K:Sp:=λvs H Q _=>∃w a ρ,vs= [.str (g_T w),.ref a]/\RowAt H a ρ/\∀k,H k=none->Q (.ref k) (upd H k (.tup (a_T w ρ)))
theorem n_P:a_s ["word","row"] ["word","row"] (a_m n_b):=⟨rfl,rfl,rfl,by decide+kernel,rfl,by decide+kernel,by decide+kernel⟩
theorem m_S {f fL C:Addr} {fd fdL:FuncData} (F:Fun K "key_of" "key_of" n_b f fd) (T:Txt K mg C) (gL:Gf K mg "lead_of" fL fdL ["word","row"]) (GL:FnOk P w K mg base CX0 1 fL fdL ["word","row"] k_w):
 FnOk P w K mg base CX0 2 f fd ["word","row"] i_K:=by
 refine F.ok n_P (λvs H Q E h=> ?_) (λcdv A outer s H vs Q E hr h=> ?_)
 ·obtain⟨w,a,ρ,rfl,_⟩:=h
  rfl
 ·obtain⟨w,a,ρ,rfl,ha,k⟩:=h
  refine⟨_,a_f (a_n (a_A (a_a (a_l GL hr rfl gL.mg gL.kp gL.b .nil a_u (a_a (pv 0) (a_a (pv 1) a_c))) (a_a (a_v a_t (pv 1) a_e (λ_ _=>rfl)) a_c)))),?_⟩;refine⟨_,rfl,_,rfl,w,a,ρ,rfl,ha,?_⟩;exact⟨_,rfl,a,_,_,_,rfl,rfl,SqT.of ha,a_g (j:=0) rfl,by show 2<=sizeLine;decide,k⟩
structure OrdAt (C:Addr) (w:Bool) (H:Hp) (o bl:Addr) (bas:List Addr) (B:List (List Row)):Prop where
 ob:∃dx,H o=some (.ins C dx (f_e w bl))
 ls:H bl=some (.lst (bas.map .ref))
 bs:Paired (LstAt H) bas B
 nd:(bl::bas).Nodup
structure Stp (H H':Hp) (fp fp':List Addr):Prop where
 keep:∀b u,H b=some u->b∉fp->H' b=some u
 new:∀b∈fp',b∈fp\/H b=none
theorem Stp.of_same {H H':Hp} {fp:List Addr} (s:Same H H'):Stp H H' fp fp:=⟨λb u h _=>s b u h,λb h=> .inl h⟩
theorem OrdAt.same {C:Addr} {w:Bool} {H H':Hp} {o bl:Addr} {bas:List Addr} {B:List (List Row)} (h:OrdAt C w H o bl bas B) (s:Same H H'):OrdAt C w H' o bl bas B:=by
 obtain⟨⟨dx,h1⟩,h2,h3,h4⟩:=h;exact⟨⟨dx,s _ _ h1⟩,s _ _ h2,Paired.mapP h3 λ_ _ q=>q.sameS s,h4⟩
theorem b_E {α β:Type} {F:α->β->Prop}:∀{l₁:List α} {l₂:List β} {i:Nat} {b:β},Paired F l₁ l₂->l₂[i]? =some b->∃a,l₁[i]? =some a/\F a b
 | _,_,_,_,.nil,e=>by simp at e
 | _,_,0,_,.cons r _,e=>by simp at e;subst e;exact⟨_,rfl,r⟩
 | _,_,i+1,_,.cons _ t,e=>by
   obtain⟨u,h1,h2⟩:=b_E (i:=i) t (by simpa using e);exact⟨u,by simpa using h1,h2⟩
theorem Same.upd_new {H:Hp} {a:Addr} {o:HO} (h:H a=none):Same H (upd H a o):=λb u e=>by rw[a_i (a_h e h)];exact e
theorem h_z {α:Type} {P:α->Bool}:∀{l:List α} {i:Nat},(∀x∈l.take i,P x=true)->i<=l.length->(i=l.length\/∃x,l[i]? =some x/\P x=false)->(l.takeWhile P).length=i
 | [],i,_,h,_=>by simp at h;subst h;rfl
 | x::r,0,_,_,h=>by
   rcases h with h | ⟨y,h1,h2⟩
   ·simp at h
   ·simp at h1;subst h1;simp[h2]
 | x::r,i+1,h1,h2,h3=>by
   have hx:P x=true:=h1 x (by simp);rw[List.takeWhile_cons];simp only[hx,if_true,o_U];congr 1;refine h_z (λy hy=>h1 y (by simp[hy])) (by simpa using h2) ?_;rcases h3 with h3 | ⟨y,h3,h4⟩
   ·left;simpa using h3
   ·right;exact⟨y,by simpa using h3,h4⟩
def o_h (C:Addr):Sp:=λvs H Q _=>∃(w:Bool) (o bl dx b k:Addr) (ρs:List Row) (q:List V),vs= [.ref o,.ref b,.ref k]/\H o=some (.ins C dx (f_e w bl))/\LstAt H b ρs/\H k=some (.tup q)/\(∀ρ,e_S (a_T w ρ) q)/\
 ∀H',Same H H'->Q (.int (ρs.takeWhile λx=>b_e (a_T w x) q).length) H'
theorem n_p:a_s ["self","block","key","ahead"] ["self","block","key"] (a_m sRA):=⟨rfl,rfl,rfl,by decide+kernel,rfl,by decide+kernel,by decide+kernel⟩
theorem n_O {f fK C:Addr} {fd fdK:FuncData} (F:Fun K "rows_ahead" "Order.rows_ahead" sRA f fd) (T:Txt K mg C) (gK:Gf K mg "key_of" fK fdK ["word","row"]) (GK:FnOk P w K mg base CX0 2 fK fdK ["word","row"] i_K):
 FnOk P w K mg base CX0 3 f fd ["self","block","key"] (o_h C):=by
 refine F.ok n_p (λvs H Q E h=> ?_) (λcdv A outer s H vs Q E hr h=> ?_)
 ·obtain⟨w,o,bl,dx,b,k,ρs,q,rfl,_⟩:=h
  rfl
 ·obtain⟨w,o,bl,dx,b,k,ρs,q,rfl,ho,⟨as,hb,hR⟩,hk,g,fin⟩:=h
  have hu:=e_u hr
  refine⟨_,a_d (a_w (i:=3) n_p.nd rfl (Or.inl rfl) a_e)
   (a_d (c_R PassesOwn.never (PW.pt (d_Z (a_k f_a (pv 3) (a_r a_x (by rfl) T.len p_x (a_a (pv 1) a_c)) (a_o _))
     (c_B (a_k (i_a hr.units0) (a_l GK hr rfl gK.mg gK.kp gK.b .nil a_u (a_a (a_E (pv 0) rfl) (a_a (a_v a_M (pv 1) (pv 3) (λ_ _=>rfl)) a_c))) (pv 2) (a_o _)))))
     (a_f (a_w (i:=3) n_p.nd rfl (Or.inl rfl) (a_q a_J (pv 3) a_e))))
   (a_f (a_n (pv 3)))),?_⟩
  have n:=hR.len
  refine⟨λm σ H1=>∃i:Nat,σ= [some (.ref o),some (.ref b),some (.ref k),some (.int i)]/\Same H H1/\i<=ρs.length/\m=ρs.length - i/\∀x∈ρs.take i,b_e (a_T w x) q=true,
   ⟨_,0,rfl,Same.refl _,p_g _,rfl,by simp⟩,?_⟩
  rintro m σ H1 ⟨i,rfl,s1,hi,rfl,hp⟩;refine⟨_,rfl,_,rfl,b,_,rfl,.inl (SqL.of (s1 _ _ hb)),_,_,rfl,rfl,_,rfl,?_⟩;refine a_z (λc=> ?_) (λc=> ?_)
  ·have d:i < ρs.length:=by
    have:=p_w c;simp only[o_O] at this;omega
   obtain⟨x,hx⟩:∃x,ρs[i]? =some x:=⟨_,o_P d⟩;obtain⟨a,ha,l⟩:=hR.get hx;refine⟨_,rfl,o,C,dx,_,_,rfl,s1 _ _ ho,T.cl,T.nW,b_2 _ _,_,rfl,_,rfl,b,_,_,_,rfl,rfl,SqL.of (s1 _ _ hb),a_g (j:=i) (by rw[o_0,ha];rfl),w,a,x,rfl,s1 _ _ l,λk' e=> ?_⟩;refine⟨_,rfl,k',k,_,_,rfl,rfl,SqT.of a_b,SqT.of ((Same.upd_new e) _ _ (s1 _ _ hk)),g x,_,rfl,?_⟩;refine a_z (λc2=> ?_) (λc2=> ?_)
   ·refine⟨λσ' H'=>∃i':Nat,i < i'/\σ'= [some (.ref o),some (.ref b),some (.ref k),some (.int i')]/\Same H H'/\i'<=ρs.length/\∀x∈ρs.take i',b_e (a_T w x) q=true,?_, ?_⟩
    ·rintro σ' H' ⟨i',h1,h2,h3,h4,h5⟩
     exact⟨ρs.length - i',by omega,i',h2,h3,h4,rfl,h5⟩
    ·refine⟨_,rfl,_,_,rfl,rfl,i+1,by omega,rfl,s1.trans (Same.upd_new e),d,λy hy=> ?_⟩
     rw[List.take_add_one,hx] at hy;rcases o_6.mp hy with hy | hy
     ·exact hp y hy
     ·simp at hy;subst hy;exact c2
   ·refine⟨_,rfl,?_⟩
    rw[<-h_z (P:=λx=>b_e (a_T w x) q) hp hi (.inr ⟨x,hx,by simpa using c2⟩)];exact fin _ (s1.trans (Same.upd_new e))
  ·refine d_G ?_
   refine⟨_,rfl,?_⟩
   have d:i=ρs.length:=by
    have:¬ ((i:Int) < _):=λz=>c (p_u z);simp only[o_O] at this;omega
   rw[<-h_z (P:=λx=>b_e (a_T w x) q) hp hi (.inl d)];exact fin _ s1
def a_8 (w:Bool) (q:List V) (b:List Row):Bool:=match b.getLast? with
 | some z=>b_e (a_T w z) q
 | none=>false
theorem d_q {w:Bool} {q:List V} {B:List (List Row)} (hs:Srt (ltR w) B.flatten) (hne:∀b∈B,b≠ []) {i j:Nat} {b c:List Row} (hi:B[i]? =some b) (hj:B[j]? =some c) (hij:i<=j) (h:a_8 w q c=true):a_8 w q b=true:=by
 by_cases e:i=j
 ·subst e;rw[hi] at hj;cases hj;exact h
 ·obtain⟨l₁,l₂,rfl,rfl⟩:=f_8 hi
  have hb:=hne b (by simp)
  have hc:c∈l₂:=by
   rw[List.getElem?_append_right (by omega)] at hj;obtain⟨k,hk⟩:∃k,j - l₁.length=k+1:=⟨j - l₁.length - 1,by omega⟩;rw[hk,List.getElem?_cons_succ] at hj;exact p_e hj
  unfold a_8 at h ⊢;cases eb:b.getLast? with
  | none=>rw[List.getLast?_eq_none_iff] at eb;exact absurd eb hb
  | some z=>
    cases ec:c.getLast? with
    | none=>rw[ec] at h;cases h
    | some y=>
      rw[ec] at h;rw[p_b,p_h,Srt.app] at hs;have zb:z∈b:=by obtain⟨ys,rfl⟩:=List.getLast?_eq_some_iff.mp eb;simp
      have yc:y∈l₂.flatten:=List.mem_flatten.mpr ⟨c,hc,by obtain⟨ys,rfl⟩:=List.getLast?_eq_some_iff.mp ec;simp⟩;exact c_i w q z y ((Srt.app.mp hs.2.1).2.2 z zb y yc) h
def n_L (C:Addr):Sp:=λvs H Q _=>∃(w:Bool) (o bl k:Addr) (bas:List Addr) (B:List (List Row)) (q:List V),vs= [.ref o,.ref k]/\OrdAt C w H o bl bas B/\H k=some (.tup q)/\(∀ρ,e_S (a_T w ρ) q)/\Srt (ltR w) B.flatten/\(∀b∈B,b≠ [])/\
 ∀(B₁ B₂:List (List Row)) H',Same H H'->B=B₁++B₂->(∀b∈B₁,a_8 w q b=true)->(∀b∈B₂,a_8 w q b=false)->Q (.int B₁.length) H'
theorem l_S:a_s ["self","key","low","high","middle"] ["self","key"] (a_m sBA):=⟨rfl,rfl,rfl,by decide+kernel,rfl,by decide+kernel,by decide+kernel⟩
theorem n_e {f fK C:Addr} {fd fdK:FuncData} (F:Fun K "blocks_ahead" "Order.blocks_ahead" sBA f fd) (T:Txt K mg C) (gK:Gf K mg "key_of" fK fdK ["word","row"]) (GK:FnOk P w K mg base CX0 2 fK fdK ["word","row"] i_K):
 FnOk P w K mg base CX0 3 f fd ["self","key"] (n_L C):=by
 refine F.ok l_S (λvs H Q E h=> ?_) (λcdv A outer s H vs Q E hr h=> ?_)
 ·obtain⟨w,o,bl,k,bas,B,q,rfl,_⟩:=h
  rfl
 ·obtain⟨w,o,bl,k,bas,B,q,rfl,O,hk,J,hs,g,fin⟩:=h
  obtain⟨⟨dx,ho⟩,x,t,L⟩:=id O
  refine⟨_,a_d (a_w (i:=2) l_S.nd rfl (Or.inl rfl) a_e)
   (a_d (a_w (i:=3) l_S.nd rfl (Or.inl rfl) (a_r a_x (by rfl) T.len p_x (a_a (a_E (pv 0) rfl) a_c)))
   (a_d (c_R PassesOwn.never (a_k f_a (pv 2) (pv 3) (a_o _))
     (a_d (a_w (i:=4) l_S.nd rfl (Or.inl rfl) (a_q a_U (a_q a_J (pv 2) (pv 3)) a_e))
     (a_f (a_B (a_k (i_a hr.units0) (a_l GK hr rfl gK.mg gK.kp gK.b .nil a_u (a_a (a_E (pv 0) rfl) (a_a (a_v a_M (a_v a_M (a_E (pv 0) rfl) (pv 4) (fun _ _=>rfl)) (m_K j_4 a_e) (fun _ _=>rfl)) a_c))) (pv 1) (a_o _))
       (a_f (a_w (i:=2) l_S.nd rfl (Or.inl rfl) (a_q a_J (pv 4) a_e)))
       (a_f (a_w (i:=3) l_S.nd rfl (Or.inl rfl) (pv 4)))))))
   (a_f (a_n (pv 2))))),?_⟩
  have y:bas.length=B.length:=Paired.length t;refine⟨_,rfl,o,C,dx,_,_,rfl,ho,T.cl,T.nB,a_C _ _,bl,_,rfl,.inl (SqL.of x),?_⟩
  refine⟨λm σ H1=>∃(lo hi:Nat) (v:Option V),σ= [some (.ref o),some (.ref k),some (.int lo),some (.int hi),v]/\Same H H1/\lo<=hi/\hi<=B.length/\m=hi - lo/\(∀i b,i < lo->B[i]? =some b->a_8 w q b=true)/\(∀i b,hi<=i->B[i]? =some b->a_8 w q b=false),
   ⟨_,0,B.length,none,by simp[L2.start,y],Same.refl _,p_g _,o_X _,rfl,λ_ _ h=>by omega,λi b h1 h2=> ?_⟩,?_⟩
  ·rw[List.getElem?_eq_none_iff.mpr h1] at h2;cases h2
  rintro m σ H1 ⟨lo,hi,v,rfl,s1,h1,h2,rfl,h3,h4⟩;refine⟨_,rfl,_,rfl,_,_,rfl,rfl,_,rfl,?_⟩;refine a_z (λc=> ?_) (λc=> ?_)
  ·have u:lo < hi:=by have:=p_w c;omega
   refine⟨λσ' H'=>∃(lo' d:Nat) (v:Option V),σ'= [some (.ref o),some (.ref k),some (.int lo'),some (.int d),v]/\Same H H'/\lo'<=d/\d<=B.length/\d - lo' < hi - lo/\(∀i b,i < lo'->B[i]? =some b->a_8 w q b=true)/\(∀i b,d<=i->B[i]? =some b->a_8 w q b=false),?_, ?_⟩
   ·rintro σ' H' ⟨lo',d,v',e1,e2,e3,e4,e5,e6,e7⟩
    exact⟨d - lo',e5,lo',d,v',e1,e2,e3,e4,rfl,e6,e7⟩
   have I:(lo+hi) / 2 < B.length:=by omega
   obtain⟨b,hb⟩:∃b,B[(lo+hi) / 2]? =some b:=⟨_,o_P I⟩;obtain⟨a,ha,as,G,n⟩:=b_E t hb;have p:=g b (p_e hb);obtain⟨ys,z,rfl⟩:∃ys z,b=ys++ [z]:=⟨b.dropLast,b.getLast p,(List.dropLast_concat_getLast p).symm⟩
   obtain⟨as',az,rfl,hza⟩:∃as' az,as=as'++ [az]/\RowAt H az z:=by
    have hl:=n.len;rw[o_Q,List.length_singleton] at hl;have hn:as≠ []:=by intro e;subst e;simp at hl
    refine⟨as.dropLast,as.getLast hn,(List.dropLast_concat_getLast hn).symm,?_⟩;obtain⟨az,h1,h2⟩:=n.get (i:=ys.length) (ρ:=z) (by simp)
    have:as.getLast hn=az:=by
     rw[List.getLast_eq_getElem];have:as[as.length - 1]? =some az:=by rw[hl,Nat.add_sub_cancel];exact h1
     rw[o_P (by omega)] at this;exact o_V this
    rw[this];exact h2
   have l:((lo:Int)+(hi:Int)) / 2=(((lo+hi) / 2:Nat):Int):=by omega
   refine⟨_,rfl,_,rfl,_,_,rfl,rfl,_,_,rfl,rfl,⟨by decide,by decide⟩,?_⟩;refine⟨_,rfl,o,C,dx,_,_,rfl,s1 _ _ ho,T.cl,T.nW,b_2 _ _,_,rfl,o,C,dx,_,_,rfl,s1 _ _ ho,T.cl,T.nB,a_C _ _,_,rfl,bl,_,_,_,rfl,rfl,SqL.of (s1 _ _ x),(by rw[l];exact a_g (by rw[o_0,ha];rfl)),_,rfl,a,_,_,_,rfl,rfl,SqL.of (s1 _ _ G),(by rw[o_W];exact j_w _ _),w,az,z,rfl,s1 _ _ hza,λk' j=> ?_⟩;refine⟨_,rfl,k',k,_,_,rfl,rfl,SqT.of a_b,SqT.of ((Same.upd_new j) _ _ (s1 _ _ hk)),J z,_,rfl,?_⟩;have r:a_8 w q (ys++ [z])=b_e (a_T w z) q:=by unfold a_8;rw[List.getLast?_concat]
   refine a_z (λc2=> ?_) (λc2=> ?_)
   ·have e:((lo:Int)+hi) / 2+1=(((lo+hi) / 2+1:Nat):Int):=by omega
    refine⟨_,rfl,_,_,rfl,rfl,(lo+hi) / 2+1,hi,_,(by rw[<-e];rfl),s1.trans (Same.upd_new j),by omega,h2,by omega,λi c d hc=> ?_, h4⟩;exact d_q hs g hc hb (by omega) (by rw[r];exact c2)
   ·refine⟨_,rfl,lo,(lo+hi) / 2,_,(by rw[<-l];rfl),s1.trans (Same.upd_new j),by omega,by omega,by omega,h3,λi c d hc=> ?_⟩
    cases q':a_8 w q c with
    | false=>rfl
    | true=>
      have:=d_q hs g hb hc d q';rw[r] at this;exact absurd this c2
  ·have u:lo=hi:=by have:¬ (lo:Int) < hi:=λz=>c (p_u z);omega
   subst u;refine⟨_,rfl,?_⟩;have hz:B=B.take lo++B.drop lo:=(p_r lo B).symm;have:=fin (B.take lo) (B.drop lo) H1 s1 hz (λb hb=> ?_) (λb hb=> ?_)
   ·rw[p_a,Nat.min_eq_left h2] at this
    exact this
   ·obtain⟨i,hi,e⟩:=List.mem_take_iff_getElem.mp hb
    exact h3 i b (by omega) (by rw[<-e];exact o_P (by omega))
   ·obtain⟨i,hi,e⟩:=List.mem_drop_iff_getElem.mp hb
    exact h4 (i+lo) b (by omega) (by rw[<-e,Nat.add_comm];exact o_P (by omega))
end
def NoTup (H:Hp) (a:Addr):Prop:=∀xs,H a≠some (.tup xs)
theorem NoTup.none {H:Hp} {a:Addr} (h:H a=none):NoTup H a:=λxs e=>by rw[h] at e;cases e
theorem NoTup.lst {H:Hp} {a:Addr} {ys:List V} (h:H a=some (.lst ys)):NoTup H a:=λxs e=>by rw[h] at e;cases e
theorem NoTup.keep {H:Hp} {a:Addr} {o:HO} (h:NoTup H a):∀b xs,H b=some (.tup xs)->(upd H a o) b=some (.tup xs):=λb xs e=>by
 have hb:b≠a:=λq=>h xs (by rw[<-q];exact e);rw[a_i hb];exact e
theorem LstAt.upd {H:Hp} {a l:Addr} {o:HO} {ρs:List Row} (h:LstAt H l ρs) (hl:l≠a) (ha:NoTup H a):LstAt (upd H a o) l ρs:=h.same (a_i hl) ha.keep
theorem a_H {H:Hp} {a:Addr} {o:HO} (ha:NoTup H a):∀{bas:List Addr} {B:List (List Row)},Paired (LstAt H) bas B->(∀b∈bas,b≠a)->Paired (LstAt (upd H a o)) bas B
 | _,_,.nil,_=> .nil
 | _,_,.cons h t,hn=> .cons (LstAt.upd h (hn _ (o_S ..)) ha) (a_H ha t λb hb=>hn b (o_R _ hb))
theorem d_k {H:Hp}:∀{bas:List Addr} {B:List (List Row)},Paired (LstAt H) bas B->∀b∈bas,∃xs,H b=some (.lst xs)
 | _,_,.cons h t,b,hb=>by
   rcases o_Z.mp hb with e | e
   ·subst e;obtain⟨as,q,_⟩:=h;exact⟨_,q⟩
   ·exact d_k t b e
theorem b_A {H:Hp} {bas:List Addr} {B:List (List Row)} (h:Paired (LstAt H) bas B) {p:Addr} (hp:H p=none):∀b∈bas,b≠p:=λb hb e=>by
 obtain⟨xs,q⟩:=d_k h b hb;rw[e,hp] at q;cases q
theorem a_9 {α β:Type} {F:α->β->Prop}:∀{B₁:List β} {l:List α} {b:β} {B₂:List β},Paired F l (B₁++b::B₂)->∃l₁ a l₂,l=l₁++a::l₂/\Paired F l₁ B₁/\F a b/\Paired F l₂ B₂
 | [],_,_,_,.cons h t=>⟨[],_,_,rfl,.nil,h,t⟩
 | c::B₁,_,_,_,.cons h t=>by
   obtain⟨l₁,a,l₂,rfl,h1,h2,h3⟩:=a_9 t;exact⟨_::l₁,a,l₂,rfl,.cons h h1,h2,h3⟩
theorem a_N {α β:Type} {F:α->β->Prop}:∀{l₁ l₂:List α} {B₁ B₂:List β},Paired F l₁ B₁->Paired F l₂ B₂->Paired F (l₁++l₂) (B₁++B₂)
 | _,_,_,_,.nil,h=>h
 | _,_,_,_,.cons a t,h=> .cons a (a_N t h)
theorem j_I {xs:List V} {h:Nat} (hh:h<=xs.length):h_9 xs none (some (h:Int))=xs.take h:=by
 unfold h_9;rw[HT.sIx_none,HT.sIx_nat,Nat.min_eq_left hh];simp
theorem j_Y {xs:List V} {h:Nat} (hh:h<=xs.length):h_9 xs (some (h:Int)) none=xs.drop h:=by
 unfold h_9;rw[HT.sIx_none,HT.sIx_nat,Nat.min_eq_left hh];exact o_8 (by simp)
theorem i_n {n j:Nat} (h:j < n):ixN n (j:Int)=some j:=by
 unfold ixN;rw[if_pos (by omega),if_pos (by omega)];simp
theorem j_V {α:Type} {l₁ l₂:List α} {a:α}:(l₁++a::l₂).take (l₁.length+1)=l₁++ [a]:=by
 rw[List.take_append,o_8 (by omega),Nat.add_sub_cancel_left];simp
theorem i_W {α:Type} {l₁ l₂:List α} {a:α}:(l₁++a::l₂).drop (l₁.length+1)=l₂:=by
 rw[List.drop_append,List.drop_of_length_le (by omega),Nat.add_sub_cancel_left];simp
theorem c_h {bl a:Addr} {l₁ l₂:List Addr} (h:(bl::(l₁++a::l₂)).Nodup):bl∉l₁/\bl≠a/\bl∉l₂/\a∉l₁/\a∉l₂/\(bl::(l₁++l₂)).Nodup:=by
 rw[p_i,List.nodup_append,p_i] at h;obtain⟨h1,h2,⟨h3,h4⟩,h5⟩:=h;simp only[o_6,o_Z,not_or] at h1;refine⟨h1.1,h1.2.1,h1.2.2,λz=>h5 a z a (o_S ..) rfl,h3,?_⟩;rw[p_i,List.nodup_append];refine⟨?_, h2,h4,λx hx y hy=>h5 x hx y (o_R _ hy)⟩;simp only[o_6,not_or];exact⟨h1.1,h1.2.2⟩
theorem h_6 {bl a:Addr} {l₁ l₂:List Addr} (h:(bl::(l₁++l₂)).Nodup) (h1:a≠bl) (h2:a∉l₁) (h3:a∉l₂):(bl::(l₁++a::l₂)).Nodup:=by
 rw[p_i,List.nodup_append] at h;rw[p_i,List.nodup_append,p_i];simp only[o_6,o_Z,not_or] at h ⊢;refine⟨⟨h.1.1,h1.symm,h.1.2⟩,h.2.1,⟨h3,h.2.2.1⟩,λx hx y hy=> ?_⟩;rcases hy with e | e
 ·subst e;intro e;subst e;exact h2 hx
 ·exact h.2.2.2 x hx y e
section
variable {P:Program} {w:World} {K:PySem.W.Frag} {mg:Str->Option Value} {base:Heap}
def i_l (C:Addr):Sp:=λvs H Q _=>∃(w:Bool) (o bl:Addr) (bas:List Addr) (B₁:List (List Row)) (b:List Row) (B₂:List (List Row)),vs= [.ref o,.int B₁.length]/\OrdAt C w H o bl bas (B₁++b::B₂)/\bas.length < 100000/\
 ∀(bas':List Addr) (H':Hp),OrdAt C w H' o bl bas' (B₁++b.take (b.length / 2)::b.drop (b.length / 2)::B₂)->Stp H H' (bl::bas) (bl::bas')->Q .non H'
theorem f_u:a_s ["self","place","block","half"] ["self","place"] (a_m h_j):=⟨rfl,rfl,rfl,by decide+kernel,rfl,by decide+kernel,by decide+kernel⟩
theorem j_e {f C:Addr} {fd:FuncData} (F:Fun K "split_block" "Order.split_block" h_j f fd) (T:Txt K mg C):FnOk P w K mg base CX0 1 f fd ["self","place"] (i_l C):=by
 refine F.ok f_u (λvs H Q E h=> ?_) (λcdv A outer s H vs Q E hr h=> ?_)
 ·obtain⟨w,o,bl,bas,B₁,b,B₂,rfl,_⟩:=h
  rfl
 ·obtain⟨w,o,bl,bas,B₁,b,B₂,rfl,O,R,fin⟩:=h
  obtain⟨⟨dx,ho⟩,n,J,M⟩:=id O;obtain⟨l₁,a,l₂,rfl,q,⟨as,ha,hR⟩,y⟩:=a_9 J;have v:l₁.length=B₁.length:=Paired.length q;have I:=hR.len;obtain⟨n1,n2,n3,n4,n5,n6⟩:=c_h M
  refine⟨_,a_d (a_w (i:=2) f_u.nd rfl (Or.inl rfl) (a_v a_M (a_E (pv 0) rfl) (pv 1) (λ_ _=>rfl)))
   (a_d (a_w (i:=3) f_u.nd rfl (Or.inl rfl) (a_q a_U (a_r a_x (by rfl) T.len p_x (a_a (pv 2) a_c)) a_e))
   (a_d (k_s (c_u f_U (pv 2) d_i (d_D (pv 3))) (j_7 (a_E (pv 0) rfl) (pv 1) f_7))
   (a_f (a_y (b_Z p_y PySem.F.slot_list_insert PySem.F.type_list_insert f_d (a_E (pv 0) rfl) (a_a (a_q a_J (pv 1) a_e) (a_a (c_u f_U (pv 2) (d_D (pv 3)) d_i) a_c))))))),?_⟩
  refine⟨_,rfl,o,C,dx,_,_,rfl,ho,T.cl,T.nB,a_C _ _,_,rfl,bl,_,_,_,rfl,rfl,SqL.of n,a_g (j:=B₁.length) (by rw[o_0,<-v,c_G];rfl),?_⟩;refine⟨_,rfl,a,_,rfl,.inl (SqL.of ha),_,_,rfl,rfl,⟨by decide,by decide⟩,?_⟩;have eh:(((as.map V.ref).length:Int)) / 2=((b.length / 2:Nat):Int):=by rw[o_O,I];omega
  have hh:b.length / 2<=(as.map V.ref).length:=by rw[o_O,I];omega
  refine⟨_,rfl,_,rfl,_,rfl,a,_,rfl,SqL.of ha,λp1 f1=> ?_⟩;have r:o≠p1:=a_h ho f1;have p:bl≠p1:=a_h n f1;have L:a≠p1:=a_h ha f1;have B:o≠bl:=d_5 ho n (by intro z;cases z);have S:o≠a:=d_5 ho ha (by intro z;cases z);refine⟨_,rfl,o,C,dx,_,_,rfl,(by rw[a_i r];exact ho),T.cl,T.nB,a_C _ _,_,rfl,bl,_,_,B₁.length,rfl,rfl,(by rw[a_i p];exact n),(by rw[o_O];exact i_n (by simp[v])),?_⟩;rw[eh,j_I hh]
  have eset:((l₁++a::l₂).map V.ref).set B₁.length (.ref p1)=(l₁++p1::l₂).map V.ref:=by
   rw[<-v,o_W,o_3,o_W,o_3];have:=h_W (l₁:=l₁.map V.ref) (l₂:=l₂.map V.ref) (a:=V.ref a) (b:=V.ref p1);rw[o_O] at this;exact this
  rw[eset];refine⟨_,rfl,o,C,dx,_,_,rfl,(by rw[a_i B,a_i r];exact ho),T.cl,T.nB,a_C _ _,.inl ⟨rfl,_,SqL.of a_b⟩,_,rfl,_,_,rfl,rfl,_,rfl,_,rfl,_,rfl,a,_,rfl,SqL.of (by rw[a_i n2.symm,a_i L];exact ha),λp2 f2=> ?_⟩;rw[eh,j_Y hh];have l:bl≠p2:=a_h (a_b (H:=upd H p1 (.lst ((as.map V.ref).take (b.length / 2)))) (o:= .lst ((l₁++p1::l₂).map V.ref))) f2;have t:(upd H p1 (.lst ((as.map V.ref).take (b.length / 2)))) p2=none:=by rw[a_i l.symm] at f2;exact f2
  have G:p1≠p2:=a_h a_b t;have k:H p2=none:=by rw[a_i G.symm] at t;exact t
  have N:o≠p2:=a_h ho k
  have el:((l₁++p1::l₂).map V.ref).take ((B₁.length:Int)+1).toNat++V.ref p2::((l₁++p1::l₂).map V.ref).drop ((B₁.length:Int)+1).toNat=(l₁++p1::p2::l₂).map V.ref:=by
   have e1:((B₁.length:Int)+1).toNat=(l₁.map V.ref).length+1:=by rw[o_O];omega
   rw[e1];simp only[o_W,o_3];rw[j_V,i_W,List.append_assoc];rfl
  refine⟨bl,_,_,_,rfl,rfl,(by rw[a_i l];exact a_b),?_, by omega,?_, ?_⟩
  ·refine o_4 (m:=100001) ?_ (by decide)
   simp only[o_O,o_Q,o_U] at R ⊢;omega
  ·simp only[o_O,o_Q,o_U]
   omega
  show Q .non _;rw[el];have d:∀x∈l₁,x≠p1/\x≠p2/\x≠bl:=λx hx=>⟨b_A q f1 x hx,b_A q k x hx,λe=>n1 (e ▸ hx)⟩;have g:∀x∈l₂,x≠p1/\x≠p2/\x≠bl:=λx hx=>⟨b_A y f1 x hx,b_A y k x hx,λe=>n3 (e ▸ hx)⟩;have t1:NoTup H p1:=NoTup.none f1;have t2:NoTup (upd H p1 (.lst ((as.map V.ref).take (b.length / 2)))) bl:=NoTup.lst (ys:=(l₁++a::l₂).map V.ref) (by rw[a_i p];exact n);have t3:NoTup (upd (upd H p1 (.lst ((as.map V.ref).take (b.length / 2)))) bl (.lst ((l₁++p1::l₂).map V.ref))) p2:=NoTup.none f2;have t4:NoTup (upd (upd (upd H p1 (.lst ((as.map V.ref).take (b.length / 2)))) bl (.lst ((l₁++p1::l₂).map V.ref))) p2 (.lst ((as.map V.ref).drop (b.length / 2)))) bl:=NoTup.lst (ys:=(l₁++p1::l₂).map V.ref) (by rw[a_i l];exact a_b)
  have tups:∀c xs,H c=some (.tup xs)->(upd (upd (upd (upd H p1 (.lst ((as.map V.ref).take (b.length / 2)))) bl (.lst ((l₁++p1::l₂).map V.ref))) p2 (.lst ((as.map V.ref).drop (b.length / 2)))) bl (.lst ((l₁++p1::p2::l₂).map V.ref))) c=some (.tup xs):=
   λc xs h=>t4.keep _ _ (t3.keep _ _ (t2.keep _ _ (t1.keep _ _ h)))
  refine fin (l₁++p1::p2::l₂) _ ⟨⟨dx,?_⟩,a_b,?_, ?_⟩ ⟨λc u hc hn=> ?_, λc hc=> ?_⟩
  ·rw[a_i B,a_i N,a_i B,a_i r];exact ho
  ·refine a_N ?_ (.cons ⟨as.take (b.length / 2),?_, (hR.take _).same tups⟩ (.cons ⟨as.drop (b.length / 2),?_, (hR.drop _).same tups⟩ ?_))
   ·exact a_H t4 (a_H t3 (a_H t2 (a_H t1 q λx hx=>(d x hx).1) λx hx=>(d x hx).2.2) λx hx=>(d x hx).2.1) λx hx=>(d x hx).2.2
   ·rw[a_i p.symm,a_i G,a_i p.symm,a_b,List.map_take]
   ·rw[a_i l.symm,a_b,List.map_drop]
   ·exact a_H t4 (a_H t3 (a_H t2 (a_H t1 y λx hx=>(g x hx).1) λx hx=>(g x hx).2.2) λx hx=>(g x hx).2.1) λx hx=>(g x hx).2.2
  ·refine h_6 (h_6 n6 l.symm (λz=>(d _ z).2.1 rfl) λz=>(g _ z).2.1 rfl) p.symm (λz=>(d _ z).1 rfl) λz=> ?_
   rcases o_Z.mp z with z | z
   ·exact G z
   ·exact (g _ z).1 rfl
  ·have c1:c≠bl:=λe=>hn (by rw[e];exact o_S ..)
   rw[a_i c1,a_i (a_h hc k),a_i c1,a_i (a_h hc f1)];exact hc
  ·simp only[o_Z,o_6] at hc ⊢
   rcases hc with e | e | e | e | e
   ·exact .inl (.inl e)
   ·exact .inl (.inr (.inl e))
   ·exact .inr (by rw[e];exact f1)
   ·exact .inr (by rw[e];exact k)
   ·exact .inl (.inr (.inr (.inr e)))
end
structure Mf (K:PySem.W.Frag) (C:Addr) (m:Str) (f:Addr) (fd:FuncData) (ps:List Str):Prop where
 m:m_a K C m f
 b:Binds K fd ps []
structure GoodB (w:Bool) (B:List (List Row)):Prop where
 adj:Adj 8 (B.map List.length)
 srt:Srt (ltR w) B.flatten
theorem e_c:∀{l:List Nat} {p:Nat},Adj p l->∀n∈l,1<=n/\n<=8
 | m::r,p,⟨a,b,c,d⟩,n,hn=>by
   rcases o_Z.mp hn with e | e
   ·subst e;exact⟨a,b⟩
   ·exact e_c d n e
theorem GoodB.ne {w:Bool} {B:List (List Row)} (g:GoodB w B):∀b∈B,b≠ []:=λb hb e=>by
 have:=e_c g.adj b.length (p_j.mpr ⟨b,hb,rfl⟩);rw[e] at this;simp at this
theorem GoodB.len {w:Bool} {B:List (List Row)} (g:GoodB w B):B.length<=B.flatten.length:=by
 have h:=g.ne;clear g;induction B with
 | nil=>simp
 | cons b r ih=>
   have:=ih λc hc=>h c (o_R _ hc);have h1:b≠ []:=h b (o_S ..);have h2:0 < b.length:=List.length_pos_iff.mpr h1;simp only[o_U,p_h,o_Q];omega
theorem Stp.trans {H H1 H2:Hp} {f f1 f2:List Addr} (a:Stp H H1 f f1) (b:Stp H1 H2 f1 f2):Stp H H2 f f2 where
 keep:=λc u hc hn=>b.keep c u (a.keep c u hc hn) λz=>by
  rcases a.new c z with q | q
  ·exact hn q
  ·rw[q] at hc;cases hc
 new:=λc hc=>by
  rcases b.new c hc with q | q
  ·exact a.new c q
  ·cases e:H c with
   | none=>exact .inr rfl
   | some u=>
     by_cases hn:c∈f
     ·exact .inl hn
     ·rw[a.keep c u e hn] at q;cases q
theorem d_s {w:Bool} {q:List V} {b:List Row} (h:a_8 w q b=true):∃x,b.getLast? =some x/\b_e (a_T w x) q=true:=by
 unfold a_8 at h;cases e:b.getLast? with
 | none=>rw[e] at h;cases h
 | some x=>rw[e] at h;exact⟨x,rfl,h⟩
theorem f_b {w:Bool} {q:List V} {b:List Row} (h:a_8 w q b=false) (hb:b≠ []):∃x,b.getLast? =some x/\b_e (a_T w x) q=false:=by
 unfold a_8 at h;cases e:b.getLast? with
 | none=>rw[List.getLast?_eq_none_iff] at e;exact absurd e hb
 | some x=>rw[e] at h;exact⟨x,rfl,h⟩
theorem j_H {w:Bool} {q:List V} {B₁ B₂:List (List Row)} {b:List Row} (hs:Srt (ltR w) (B₁++b::B₂).flatten) (h1:∀c∈B₁,a_8 w q c=true) (h2:a_8 w q b=false) (hb:b≠ []):
 (∀y∈B₁.flatten,b_e (a_T w y) q=true)/\∀y∈B₂.flatten,b_e (a_T w y) q=false:=by
 rw[p_b,p_h,Srt.app] at hs;refine⟨c_q (P:=λy=>b_e (a_T w y) q) (c_i w q) hs.1 λc hc=>d_s (h1 c hc),?_⟩;obtain⟨z,e,pz⟩:=f_b h2 hb;exact f_N (P:=λy=>b_e (a_T w y) q) (c_i w q) hs.2.1 e pz
theorem g_W {w:Bool} {ρ:Row} {B B₁ B₂:List (List Row)} (hB:B=B₁++B₂) (hn:B≠ []) (hs:Srt (ltR w) B.flatten) (hb:∀b∈B,b≠ []) (h1:∀c∈B₁,a_8 w (a_T w ρ) c=true) (h2:∀c∈B₂,a_8 w (a_T w ρ) c=false):
 ∃L b R,B=L++b::R/\(if ((B.length:Int) - 1) < (B₁.length:Int) then ((B.length:Int) - 1) else (B₁.length:Int))=(L.length:Int)/\(∀y∈L.flatten,ltR w y ρ=true)/\∀y∈R.flatten,ltR w y ρ=false:=by
 cases B₂ with
 | nil=>
   rw[p_l] at hB;subst hB;refine⟨B.dropLast,B.getLast hn, [],(List.dropLast_concat_getLast hn).symm,?_, λy hy=> ?_, λy hy=>by cases hy⟩
   ·have:0 < B.length:=List.length_pos_iff.mpr hn
    rw[if_pos (by omega),List.length_dropLast];omega
   ·refine c_q (lt:=ltR w) (P:=λy=>ltR w y ρ) (c_i w (a_T w ρ)) hs (λc hc=>d_s (h1 c hc)) y ?_
    have e:=List.dropLast_concat_getLast hn;rw[<-e,p_b];exact p_n _ hy
 | cons b R=>
   subst hB;have:=j_H hs h1 (h2 b (o_S ..)) (hb b (by simp));refine⟨B₁,b,R,rfl,?_, this.1,this.2⟩;rw[if_neg (by simp only[o_Q,o_U];omega)]
theorem m_m {α:Type} {t d l:List α} (e:t++d=l):l.take t.length=t/\l.drop t.length=d:=by
 subst e;exact⟨by simp,by simp⟩
theorem l_l {α:Type} {P:α->Bool} {l:List α}:l.take (l.takeWhile P).length=l.takeWhile P/\l.drop (l.takeWhile P).length=l.dropWhile P:=m_m (List.takeWhile_append_dropWhile)
theorem n_R {α:Type} {P:α->Bool} {l:List α}:(l.takeWhile P).length<=l.length:=by
 have:=congrArg List.length (List.takeWhile_append_dropWhile (p:=P) (l:=l));rw[o_Q] at this;omega
section
variable {P:Program} {w:World} {K:PySem.W.Frag} {mg:Str->Option Value} {base:Heap}
def k_a (C:Addr):Sp:=λvs H Q _=>∃(w:Bool) (o bl a:Addr) (bas:List Addr) (B:List (List Row)) (ρ:Row),vs= [.ref o,.ref a]/\OrdAt C w H o bl bas B/\RowAt H a ρ/\GoodB w B/\(∀x∈B.flatten,x.n≠ρ.n)/\B.flatten.length < 10000/\
 ∀(bas':List Addr) (B':List (List Row)) (H':Hp),OrdAt C w H' o bl bas' B'->GoodB w B'->B'.flatten.Perm (ρ::B.flatten)->Stp H H' (bl::bas) (bl::bas')->Q .non H'
theorem g_j:a_s ["self","row","key","place","block"] ["self","row"] (a_m k_K):=⟨rfl,rfl,rfl,by decide+kernel,rfl,by decide+kernel,by decide+kernel⟩
theorem l_b {f fK fBA fRA fSp C:Addr} {fd fdK fdBA fdRA fdSp:FuncData} (F:Fun K "take_in" "Order.take_in" k_K f fd) (T:Txt K mg C) (gK:Gf K mg "key_of" fK fdK ["word","row"]) (GK:FnOk P w K mg base CX0 2 fK fdK ["word","row"] i_K)
 (mBA:Mf K C "blocks_ahead" fBA fdBA ["self","key"]) (GBA:FnOk P w K mg base CX0 3 fBA fdBA ["self","key"] (n_L C)) (mRA:Mf K C "rows_ahead" fRA fdRA ["self","block","key"]) (GRA:FnOk P w K mg base CX0 3 fRA fdRA ["self","block","key"] (o_h C))
 (mSp:Mf K C "split_block" fSp fdSp ["self","place"]) (GSp:FnOk P w K mg base CX0 1 fSp fdSp ["self","place"] (i_l C)):
 FnOk P w K mg base CX0 4 f fd ["self","row"] (k_a C):=by
 refine F.ok g_j (λvs H Q E h=> ?_) (λcdv A outer s H vs Q E hr h=> ?_)
 ·obtain⟨w,o,bl,a,bas,B,ρ,rfl,_⟩:=h
  rfl
 ·obtain⟨w,o,bl,a,bas,B,ρ,rfl,O,ha,G,a6,ak,fin⟩:=h
  obtain⟨⟨dx,ho⟩,d,W,a2⟩:=id O;have ah:Room 1 _:=hr.mono (by decide);have a8:Room 2 _:=hr.mono (by decide);obtain⟨t8,h8⟩:=T.most
  refine⟨_,a_d (a_B (a_k a_L (a_r a_x (by rfl) T.len p_x (a_a (a_E (pv 0) rfl) a_c)) a_e (a_o _))
   (a_d (a_y (b_Z p_y p_A p_z a_2 (a_E (pv 0) rfl) (a_a (a_R (a_a (pv 1) a_c)) a_c))) (a_f h_v)) a_p)
   (a_d (a_w (i:=2) g_j.nd rfl (Or.inl rfl) (a_l GK a8 rfl gK.mg gK.kp gK.b .nil a_u (a_a (a_E (pv 0) rfl) (a_a (pv 1) a_c))))
   (a_d (a_w (i:=3) g_j.nd rfl (Or.inl rfl) (a_r (i_k rfl) (by rfl) T.min PyProof.Rows.boot_min (a_a (a_Q (pv 0) T.cl mBA.m GBA hr mBA.b .nil a_u (a_a (pv 2) a_c)) (a_a (a_q b_N (a_r a_x (by rfl) T.len p_x (a_a (a_E (pv 0) rfl) a_c)) a_e) a_c))))
   (a_d (a_w (i:=4) g_j.nd rfl (Or.inl rfl) (a_v a_M (a_E (pv 0) rfl) (pv 3) (λ_ _=>rfl)))
   (a_d (a_y (b_Z p_y PySem.F.slot_list_insert PySem.F.type_list_insert f_d (pv 4) (a_a (a_Q (pv 0) T.cl mRA.m GRA hr mRA.b .nil a_u (a_a (pv 4) (a_a (pv 2) a_c))) (a_a (pv 1) a_c))))
   (a_f (a_B (a_k g_O (a_r a_x (by rfl) T.len p_x (a_a (pv 4) a_c)) (l_9 h8) (a_o _)) (a_f (a_y (a_Q (pv 0) T.cl mSp.m GSp ah mSp.b .nil a_u (a_a (pv 3) a_c)))) a_p)))))),?_⟩
  refine⟨_,rfl,o,C,dx,_,_,rfl,ho,T.cl,T.nB,a_C _ _,bl,_,rfl,.inl (SqL.of d),rfl,_,rfl,?_⟩;have J:bas.length=B.length:=Paired.length W;refine a_z (λc=> ?_) (λc=> ?_)
  ·-- no block yet
   have c':=p_w c
   have ac:bas= []:=by
    injection c' with c'
    rw[o_O] at c';exact List.eq_nil_of_length_eq_zero (by omega)
   subst ac;cases W;refine⟨_,rfl,o,C,dx,_,_,rfl,ho,T.cl,T.nB,a_C _ _,.inl ⟨rfl,_,SqL.of d⟩,_,rfl,by show 1<=sizeLine;decide,λl hl=> ?_⟩;have p:bl≠l:=a_h d hl;have ag:o≠l:=a_h ho hl;have a1:o≠bl:=d_5 ho d (by intro z;cases z);refine⟨bl,_,_,rfl,rfl,(by rw[a_i p];exact d),by show 0 < sizeLine;decide,?_⟩;have t1:NoTup H l:=NoTup.none hl;have t2:NoTup (upd H l (.lst [.ref a])) bl:=NoTup.lst (ys:= []) (by rw[a_i p];exact d);refine fin [l] [[ρ]] _ ⟨⟨dx,by rw[a_i a1,a_i ag];exact ho⟩,a_b,.cons ⟨[a],by rw[a_i p.symm,a_b];rfl,.cons (t2.keep _ _ (t1.keep _ _ ha)) .nil⟩ .nil,by simp[p]⟩ ⟨by simp[Adj],by simp⟩ (by simp) ⟨λb u hb hn=> ?_, λb hb=> ?_⟩
   ·have n1:b≠bl:=λe=>hn (by simp[e])
    rw[a_i n1,a_i (a_h hb hl)];exact hb
   ·simp at hb
    rcases hb with e | e
    ·exact .inl (by simp[e])
    ·exact .inr (by rw[e];exact hl)
  ·have a9:B≠ []:=fun e=>c (by
    subst e;have:bas= []:=List.eq_nil_of_length_eq_zero (by simpa using J);subst this;exact p_u rfl)
   refine⟨_,rfl,o,C,dx,_,_,rfl,ho,T.cl,T.nW,b_2 _ _,_,rfl,w,a,ρ,rfl,ha,λk hk=> ?_⟩;have s1:Same H (upd H k (.tup (a_T w ρ))):=Same.upd_new hk;refine⟨_,rfl,o,dx,_,rfl,s1 _ _ ho,b_h _ _ (by decide+kernel) (by decide+kernel),_,rfl,w,o,bl,k,bas,B,a_T w ρ,rfl,O.same s1,a_b,λρ'=>c_7 w ρ' ρ,G.srt,G.ne,λB₁ B₂ H2 s2 eB ad aa=> ?_⟩;have n:Same H H2:=s1.trans s2;refine⟨_,rfl,o,C,dx,_,_,rfl,n _ _ ho,T.cl,T.nB,a_C _ _,bl,_,rfl,.inl (SqL.of (n _ _ d)),_,_,rfl,rfl,_,_,rfl,?_⟩;obtain⟨L,b,R,rfl,ep,hL,ai⟩:=g_W eB a9 G.srt G.ne ad aa;obtain⟨l₁,ab,l₂,rfl,Z,X,ae⟩:=a_9 W;obtain⟨as,S,Y⟩:=id X;have aj:l₁.length=L.length:=Paired.length Z
   have ep':(if ((((l₁++ab::l₂).map V.ref).length:Int) - 1) < (B₁.length:Int) then ((((l₁++ab::l₂).map V.ref).length:Int) - 1) else (B₁.length:Int))=(L.length:Int):=by
    rw[o_O,J];exact ep
   obtain⟨n1,n2,n3,n4,n5,n6⟩:=c_h a2
   refine⟨_,rfl,o,C,dx,_,_,rfl,n _ _ ho,T.cl,T.nB,a_C _ _,_,rfl,bl,_,_,_,rfl,rfl,SqL.of (n _ _ d),(by
    show atI _ (if ((((l₁++ab::l₂).map V.ref).length:Int) - 1) < (B₁.length:Int) then ((((l₁++ab::l₂).map V.ref).length:Int) - 1) else (B₁.length:Int))=_;rw[ep'];exact a_g (j:=L.length) (v:=V.ref ab) (by rw[o_0,<-aj,c_G];rfl)),?_⟩
   refine⟨_,rfl,.inl ⟨rfl,_,SqL.of (n _ _ S)⟩,_,rfl,o,dx,_,rfl,n _ _ ho,b_h _ _ (by decide+kernel) (by decide+kernel),_,rfl,_,rfl,w,o,bl,dx,ab,k,b,a_T w ρ,rfl,n _ _ ho,X.sameS n,s2 _ _ a_b,λρ'=>c_7 w ρ' ρ,λH3 s3=> ?_⟩;have g:Same H H3:=n.trans s3;have a4:=Y.len;have al:(b.takeWhile λx=>b_e (a_T w x) (a_T w ρ)).length<=as.length:=by rw[a4];exact n_R
   have af:b∈L++b::R:=by simp
   have am:=e_c G.adj b.length (p_j.mpr ⟨b,af,rfl⟩);refine⟨_,rfl,ab,_,_,_,rfl,rfl,g _ _ S,?_, by omega,by rw[o_O];omega,?_⟩
   ·exact a_4 (by rw[o_O,a4];omega)
   rw[Int.toNat_natCast,<-List.map_take,<-List.map_drop,<-o_3 (f:=V.ref),<-o_W];have a5:=g _ _ S;have t4:NoTup H3 ab:=NoTup.lst a5;have a1:o≠bl:=d_5 ho d (by intro z;cases z);have a3:o≠ab:=d_5 ho S (by intro z;cases z)
   have t:RowsAt (upd H3 ab (.lst ((as.take (b.takeWhile λx=>b_e (a_T w x) (a_T w ρ)).length++a::as.drop (b.takeWhile λx=>b_e (a_T w x) (a_T w ρ)).length).map V.ref))) (as.take (b.takeWhile λx=>b_e (a_T w x) (a_T w ρ)).length++a::as.drop (b.takeWhile λx=>b_e (a_T w x) (a_T w ρ)).length)
    ((b.takeWhile λx=>b_e (a_T w x) (a_T w ρ))++ρ::b.dropWhile λx=>b_e (a_T w x) (a_T w ρ)):=by
    have e:=l_l (P:=λx=>b_e (a_T w x) (a_T w ρ)) (l:=b);have z:=RowsAt.app (Y.take (b.takeWhile λx=>b_e (a_T w x) (a_T w ρ)).length) (.cons ha (Y.drop (b.takeWhile λx=>b_e (a_T w x) (a_T w ρ)).length));rw[e.1,e.2] at z;exact RowsAt.same (t4.keep) (RowsAt.same (λb xs q=>g _ _ q) z)
   generalize N:upd H3 ab (.lst ((as.take (b.takeWhile λx=>b_e (a_T w x) (a_T w ρ)).length++a::as.drop (b.takeWhile λx=>b_e (a_T w x) (a_T w ρ)).length).map V.ref))=H4 at t ⊢;have e4:H4 ab=some (.lst ((as.take (b.takeWhile λx=>b_e (a_T w x) (a_T w ρ)).length++a::as.drop (b.takeWhile λx=>b_e (a_T w x) (a_T w ρ)).length).map V.ref)):=by rw[<-N];exact a_b
   have k4:∀c u,c≠ab->H3 c=some u->H4 c=some u:=λc u hc q=>by rw[<-N,a_i hc];exact q
   have a0:=h_c (P:=λx=>b_e (a_T w x) (a_T w ρ)) (x:=ρ) (b:=b) hL ai
   have M:Srt (ltR w) (L++((b.takeWhile λx=>b_e (a_T w x) (a_T w ρ))++ρ::b.dropWhile λx=>b_e (a_T w x) (a_T w ρ))::R).flatten:=by
    rw[a0];exact Srt.ins (λa b c=>i_w w a b c) G.srt λy hy=>k_P (a6 y hy)
   have r:((L++((b.takeWhile λx=>b_e (a_T w x) (a_T w ρ))++ρ::b.dropWhile λx=>b_e (a_T w x) (a_T w ρ))::R).flatten).Perm (ρ::(L++b::R).flatten):=by
    rw[a0];exact g_F
   have a7:((b.takeWhile λx=>b_e (a_T w x) (a_T w ρ))++ρ::b.dropWhile λx=>b_e (a_T w x) (a_T w ρ)).length=b.length+1:=(g_F (P:=λx=>b_e (a_T w x) (a_T w ρ)) (l:=b) (x:=ρ)).length_eq;have U:=t.len;generalize (b.takeWhile λx=>b_e (a_T w x) (a_T w ρ))++ρ::b.dropWhile (λx=>b_e (a_T w x) (a_T w ρ))=b' at t M r a7 U;generalize as.take (b.takeWhile λx=>b_e (a_T w x) (a_T w ρ)).length++a::as.drop (b.takeWhile λx=>b_e (a_T w x) (a_T w ρ)).length=as' at t e4 U
   have O4:OrdAt C w H4 o bl (l₁++ab::l₂) (L++b'::R):=by
    refine⟨⟨dx,k4 _ _ a3 (g _ _ ho)⟩,k4 _ _ n2 (g _ _ d),a_N ?_ (.cons ⟨as',e4,t⟩ ?_),a2⟩
    ·rw[<-N]
     exact a_H t4 (Paired.mapP Z λ_ _ q=>q.sameS g) λx hx e=>n4 (e ▸ hx)
    ·rw[<-N]
     exact a_H t4 (Paired.mapP ae λ_ _ q=>q.sameS g) λx hx e=>n5 (e ▸ hx)
   have S4:Stp H H4 (bl::(l₁++ab::l₂)) (bl::(l₁++ab::l₂)):=⟨λc u hc hn=>k4 c u (λe=>hn (by simp[e])) (g c u hc),λc hc=> .inl hc⟩;refine⟨_,rfl,ab,_,rfl,.inl (SqL.of e4),_,_,rfl,rfl,_,rfl,?_⟩;have I:=G.adj;rw[o_W,o_3] at I;refine a_z (λc9=> ?_) (λc9=> ?_)
   ·have h9:b'.length=9:=by
     have:=p_w c9;rw[o_O] at this;omega
    refine⟨_,rfl,o,dx,_,rfl,k4 _ _ a3 (g _ _ ho),b_h _ _ (by decide+kernel) (by decide+kernel),_,rfl,w,o,bl,_,L,b',R,?_, O4,?_, λbas' H5 O5 S5=> ?_⟩
    ·show [V.ref o,V.int _]=_
     rw[ep']
    ·have:=G.len
     rw[J];omega
    ·rw[h9] at O5
     refine fin bas' _ H5 O5 ⟨?_, ?_⟩ ?_ (S4.trans S5)
     ·rw[o_W,o_3,o_3,p_a,List.length_drop,h9]
      exact Adj.split (by decide) I
     ·have e:(L++b'.take (9 / 2)::b'.drop (9 / 2)::R).flatten=(L++b'::R).flatten:=by simp[<-List.append_assoc (b'.take 4),p_r]
      rw[e];exact M
     ·have e:(L++b'.take (9 / 2)::b'.drop (9 / 2)::R).flatten=(L++b'::R).flatten:=by simp[<-List.append_assoc (b'.take 4),p_r]
      rw[e];exact r
   ·refine fin _ _ H4 O4 ⟨?_, M⟩ r S4
    have h9:b'.length<=8:=by
     have:¬ ((8:Int) < _):=λz=>c9 (p_u z);rw[o_O] at this;omega
    rw[o_W,o_3];exact I.put (by omega) h9
def d_x (B:List (List Row)) (p:Int) (B':List (List Row)):Prop:=
 ((p < 0\/(B.length:Int)<=p+1)/\B'=B)\/∃(B₁:List (List Row)) (x y:List Row) (B₂:List (List Row)),p=B₁.length/\B=B₁++x::y::B₂/\B'=if x.length+y.length < 5 then B₁++(x++y)::B₂ else B
def k_e (C:Addr):Sp:=λvs H Q _=>∃(w:Bool) (o bl:Addr) (bas:List Addr) (B:List (List Row)) (p:Int),vs= [.ref o,.int p]/\OrdAt C w H o bl bas B/\(∀b∈B,b.length<=8)/\bas.length < 100000/\
 ∀(bas':List Addr) (B':List (List Row)) (H':Hp),OrdAt C w H' o bl bas' B'->Stp H H' (bl::bas) (bl::bas')->d_x B p B'->Q .non H'
theorem k_f:a_s ["self","place","joined"] ["self","place"] (a_m l_O):=⟨rfl,rfl,rfl,by decide+kernel,rfl,by decide+kernel,by decide+kernel⟩
theorem m_x {α:Type} {l:List α} {i:Nat} (h:i+1 < l.length):∃l₁ x y l₂,l=l₁++x::y::l₂/\l₁.length=i:=by
 obtain⟨l₁,l₂,e,e2⟩:=f_8 (o_P (show i < l.length by omega));cases l₂ with
 | nil=>rw[e] at h;simp at h;omega
 | cons y l₂=>exact⟨l₁,_,y,l₂,e,e2⟩
theorem l_H {f C:Addr} {fd:FuncData} (F:Fun K "join_if_few" "Order.join_if_few" l_O f fd) (T:Txt K mg C):FnOk P w K mg base CX0 1 f fd ["self","place"] (k_e C):=by
 refine F.ok k_f (λvs H Q E h=> ?_) (λcdv A outer s H vs Q E hr h=> ?_)
 ·obtain⟨w,o,bl,bas,B,p,rfl,_⟩:=h
  rfl
 ·obtain⟨w,o,bl,bas,B,p,rfl,O,h8,L,fin⟩:=h
  obtain⟨⟨dx,ho⟩,d,I,R⟩:=id O;obtain⟨t5,h5⟩:=T.least;have q:bas.length=B.length:=Paired.length I
  refine⟨_,a_d (a_B (PW.pt (d_I (a_k f_a (pv 1) a_e (a_o _)) (b_9 (a_k l_D (a_q a_J (pv 1) a_e) (a_r a_x (by rfl) T.len p_x (a_a (a_E (pv 0) rfl) a_c)) (a_o _))))) (a_f h_v) a_p)
   (a_d (a_w (i:=2) k_f.nd rfl (Or.inl rfl) (a_q j_9 (a_v a_M (a_E (pv 0) rfl) (pv 1) (λ_ _=>rfl)) (a_v a_M (a_E (pv 0) rfl) (a_q a_J (pv 1) a_e) (λ_ _=>rfl))))
   (a_f (a_B (a_k f_a (a_r a_x (by rfl) T.len p_x (a_a (pv 2) a_c)) (l_9 h5) (a_o _))
     (a_d (k_s (pv 2) (j_7 (a_E (pv 0) rfl) (pv 1) f_7)) (a_f (a_y (b_Z p_y PySem.F.slot_list_pop PySem.F.type_list_pop g_i (a_E (pv 0) rfl) (a_a (a_q a_J (pv 1) a_e) a_c))))) a_p))),?_⟩
  refine⟨_,rfl,_,_,rfl,rfl,_,rfl,?_⟩;refine a_z (λc=> ?_) (λc=> ?_)
  ·exact fin bas B H O (Stp.of_same (Same.refl _)) (.inl ⟨.inl (p_w c),rfl⟩)
  have X:0<=p:=by have:¬ p < 0:=λz=>c (p_u z);omega
  refine⟨_,rfl,_,_,rfl,rfl,_,rfl,o,C,dx,_,_,rfl,ho,T.cl,T.nB,a_C _ _,bl,_,rfl,.inl (SqL.of d),_,_,rfl,rfl,_,rfl,?_⟩;refine a_z (λc2=> ?_) (λc2=> ?_)
  ·refine fin bas B H O (Stp.of_same (Same.refl _)) (.inl ⟨.inr ?_, rfl⟩)
   have:=p_w c2;rw[o_O,q] at this;exact this
  have U:p+1 < B.length:=by
   have:¬ ((_:Int)<=p+1):=λz=>c2 (p_u z);rw[o_O,q] at this;omega
  obtain⟨B₁,x,y,B₂,rfl,eB⟩:=m_x (l:=B) (i:=p.toNat) (by omega);have ep:p=(B₁.length:Int):=by omega
  subst ep;obtain⟨l₁,ax,l₂',rfl,q1,M,q2⟩:=a_9 I;cases q2 with
  | @cons ay _ l₂ _ S q2=>
  obtain⟨xs,hx,J⟩:=id M;obtain⟨ys,hy,G⟩:=id S;have g:l₁.length=B₁.length:=Paired.length q1;have lx:=J.len;have ly:=G.len;have x8:=h8 x (by simp);have y8:=h8 y (by simp);have gx:((l₁++ax::ay::l₂).map V.ref)[B₁.length]? =some (V.ref ax):=by rw[o_0,<-g,c_G];rfl
  have gy:((l₁++ax::ay::l₂).map V.ref)[B₁.length+1]? =some (V.ref ay):=by
   rw[o_0,<-g,show l₁++ax::ay::l₂=(l₁++ [ax])++ay::l₂ by simp,show l₁.length+1=(l₁++ [ax]).length by simp,c_G];rfl
  refine⟨_,rfl,o,C,dx,_,_,rfl,ho,T.cl,T.nB,a_C _ _,_,rfl,bl,_,_,_,rfl,rfl,SqL.of d,a_g gx,_,rfl,o,C,dx,_,_,rfl,ho,T.cl,T.nB,a_C _ _,_,rfl,_,_,rfl,rfl,bl,_,_,_,rfl,rfl,SqL.of d,(a_g (j:=B₁.length+1) gy),
   ax,ay,_,_,rfl,rfl,hx,hy,?_, λp1 f1=> ?_⟩
  ·rw[o_O,o_O]
   exact Nat.le_of_lt (a_4 (by omega))
  rw[<-o_W];obtain⟨n1,n2,n3,n4,n5,n6⟩:=c_h R;have t:o≠p1:=a_h ho f1;have k:bl≠p1:=a_h d f1;have v:o≠bl:=d_5 ho d (by intro z;cases z);refine⟨_,rfl,p1,_,rfl,.inl (SqL.of a_b),_,_,rfl,rfl,_,rfl,?_⟩;refine a_z (λc5=> ?_) (λc5=> ?_)
  ·have r:x.length+y.length < 5:=by
    have:=p_w c5;rw[o_O,o_Q] at this;omega
   have eset:((l₁++ax::ay::l₂).map V.ref).set B₁.length (.ref p1)=(l₁++p1::ay::l₂).map V.ref:=by
    rw[<-g,o_W,o_3,o_W,o_3];have:=h_W (l₁:=l₁.map V.ref) (l₂:=(ay::l₂).map V.ref) (a:=V.ref ax) (b:=V.ref p1);rw[o_O] at this;exact this
   refine⟨_,rfl,_,rfl,o,C,dx,_,_,rfl,(by rw[a_i t];exact ho),T.cl,T.nB,a_C _ _,_,rfl,bl,_,_,B₁.length,rfl,rfl,(by rw[a_i k];exact d),(by rw[o_O];exact i_n (by simp[g])),?_⟩;rw[eset]
   have ge:((l₁++p1::ay::l₂).map V.ref)[B₁.length+1]? =some (V.ref ay):=by
    rw[o_0,<-g,show l₁++p1::ay::l₂=(l₁++ [p1])++ay::l₂ by simp,show l₁.length+1=(l₁++ [p1]).length by simp,c_G];rfl
   have er:((l₁++p1::ay::l₂).map V.ref).eraseIdx (B₁.length+1)=(l₁++p1::l₂).map V.ref:=by
    rw[<-g,c_x,show l₁++p1::ay::l₂=(l₁++ [p1])++ay::l₂ by simp,show l₁.length+1=(l₁++ [p1]).length by simp,e_V];simp
   have W:B₁.length+1 < ((l₁++p1::ay::l₂).map V.ref).length:=by
    simp only[o_O,o_Q,o_U];omega
   have N:((B₁.length:Int)+1) < 2 ^ 63:=by
    have:B₁.length < 100000:=by simp only[o_Q,o_U] at L;omega
    omega
   refine⟨_,rfl,o,C,dx,_,_,rfl,(by rw[a_i v,a_i t];exact ho),T.cl,T.nB,a_C _ _,.inl ⟨rfl,_,SqL.of a_b⟩,_,rfl,_,_,rfl,rfl,bl,_,_,B₁.length+1,_,rfl,rfl,a_b,by omega,N,?_, ge,?_⟩
   ·rw[PySem.seqIndex_of (by omega) (by omega)]
    rfl
   rw[er];have nay:bl≠ay:=λe=>n3 (by simp[e]);have m:∀z∈l₁,z≠p1/\z≠bl:=λz hz=>⟨b_A q1 f1 z hz,λe=>n1 (e ▸ hz)⟩;have n:∀z∈l₂,z≠p1/\z≠bl:=λz hz=>⟨b_A q2 f1 z hz,λe=>n3 (by rw[<-e];simp[hz])⟩;have t1:NoTup H p1:=NoTup.none f1;have t2:NoTup (upd H p1 (.lst ((xs++ys).map V.ref))) bl:=NoTup.lst (ys:=(l₁++ax::ay::l₂).map V.ref) (by rw[a_i k];exact d);have t3:NoTup (upd (upd H p1 (.lst ((xs++ys).map V.ref))) bl (.lst ((l₁++p1::ay::l₂).map V.ref))) bl:=NoTup.lst a_b
   have nd':(bl::(l₁++l₂)).Nodup:=by
    have:=c_h (bl:=bl) (a:=ay) (l₁:=l₁) (l₂:=l₂) n6;exact this.2.2.2.2.2
   refine fin (l₁++p1::l₂) (B₁++(x++y)::B₂) _ ⟨⟨dx,?_⟩,a_b,?_, ?_⟩ ⟨λc u hc hn=> ?_, λc hc=> ?_⟩ (.inr ⟨B₁,x,y,B₂,rfl,rfl,by rw[if_pos r]⟩)
   ·rw[a_i v,a_i v,a_i t];exact ho
   ·refine a_N ?_ (.cons ⟨xs++ys,?_, ?_⟩ ?_)
    ·exact a_H t3 (a_H t2 (a_H t1 q1 λz hz=>(m z hz).1) λz hz=>(m z hz).2) λz hz=>(m z hz).2
    ·rw[a_i k.symm,a_i k.symm,a_b]
    ·exact (RowsAt.app J G).same λb zs h=>t3.keep _ _ (t2.keep _ _ (t1.keep _ _ h))
    ·exact a_H t3 (a_H t2 (a_H t1 q2 λz hz=>(n z hz).1) λz hz=>(n z hz).2) λz hz=>(n z hz).2
   ·exact h_6 nd' k.symm (λz=>(m _ z).1 rfl) λz=>(n _ z).1 rfl
   ·have c1:c≠bl:=λe=>hn (by rw[e];exact o_S ..)
    rw[a_i c1,a_i c1,a_i (a_h hc f1)];exact hc
   ·simp only[o_Z,o_6] at hc ⊢
    rcases hc with e | e | e | e
    ·exact .inl (.inl e)
    ·exact .inl (.inr (.inl e))
    ·exact .inr (by rw[e];exact f1)
    ·exact .inl (.inr (.inr (.inr (.inr e))))
  ·have r:¬ (x.length+y.length < 5):=λz=>c5 (p_u (by rw[o_O,o_Q];omega))
   exact fin _ _ _ (O.same (Same.upd_new f1)) (Stp.of_same (Same.upd_new f1)) (.inr ⟨B₁,x,y,B₂,rfl,rfl,by rw[if_neg r]⟩)
end
theorem e_J {B₁ B₂ B':List (List Row)} {x y:List Row} (h:d_x (B₁++x::y::B₂) (B₁.length:Int) B'):B'=if x.length+y.length < 5 then B₁++(x++y)::B₂ else B₁++x::y::B₂:=by
 rcases h with⟨h,e⟩ | ⟨C₁,u,v,C₂,h1,h2,h3⟩
 ·simp only[o_Q,o_U] at h
  omega
 ·have hl:B₁.length=C₁.length:=by omega
  obtain⟨e1,e2⟩:=List.append_inj h2 hl;subst e1;injection e2 with e3 e4
  injection e4 with e5 e6
  subst e3 e5 e6;exact h3
theorem g_K {B₁ B':List (List Row)} {x:List Row} (h:d_x (B₁++ [x]) (B₁.length:Int) B'):B'=B₁++ [x]:=by
 rcases h with⟨h,e⟩ | ⟨C₁,u,v,C₂,h1,h2,h3⟩
 ·exact e
 ·have:=congrArg List.length h2
  simp only[o_Q,o_U,p_o] at this;omega
theorem g_4 {B B':List (List Row)} {p:Int} (hp:p < 0) (h:d_x B p B'):B'=B:=by
 rcases h with⟨h,e⟩ | ⟨C₁,u,v,C₂,h1,h2,h3⟩
 ·exact e
 ·omega
theorem f_r {B B':List (List Row)} {p:Int} (g:Adj 8 (B.map List.length)) (h:d_x B p B'):B'=B:=by
 rcases h with⟨h,e⟩ | ⟨C₁,u,v,C₂,h1,h2,h3⟩
 ·exact e
 ·subst h2
  rw[o_W,o_3,o_3,Adj.app] at g;obtain⟨_,_,_,_,_,_,g,_⟩:=g;rw[if_neg (by omega)] at h3;exact h3
theorem j_F {B₁ B₂ By Bz:List (List Row)} {b b':List Row} (g:Adj 8 ((B₁++b::B₂).map List.length)) (hb:b.length=b'.length+1) (h1:1<=b'.length)
 (j1:d_x (B₁++b'::B₂) (B₁.length:Int) By) (j2:d_x By ((B₁.length:Int) - 1) Bz):Adj 8 (Bz.map List.length)/\Bz.flatten=(B₁++b'::B₂).flatten:=by
 rw[o_W,o_3,hb] at g
 -- where the block's right neighbour is not joined
 have right:By=B₁++b'::B₂->(∀c r,B₂.map List.length=c::r->5<=b'.length+c)->Adj 8 (Bz.map List.length)/\Bz.flatten=(B₁++b'::B₂).flatten:=by
  intro e hr;subst e;rcases List.eq_nil_or_concat B₁ with e | ⟨A,e0,e⟩
  ·subst e
   have z:=g_4 (by simp) j2;subst z;exact⟨by simpa using Adj.less (l₁:= []) g h1 (by simp[e_g];omega) hr,rfl⟩
  ·rw[List.concat_eq_append] at e
   subst e;have ep:((A++ [e0]).length:Int) - 1=(A.length:Int):=by simp
   rw[ep,List.append_assoc] at j2;have z:=e_J (B₁:=A) (x:=e0) (y:=b') (B₂:=B₂) j2;by_cases c:e0.length+b'.length < 5
   ·rw[if_pos c] at z
    subst z;refine⟨?_, by simp⟩;rw[o_W,o_3,o_Q];rw[o_W,List.append_assoc] at g;exact Adj.less_join_l g c
   ·rw[if_neg c] at z
    subst z;refine⟨?_, by simp⟩;have q:=Adj.less (l₁:=(A++ [e0]).map List.length) g h1 (by rw[o_W];simp only[o_3,List.map_nil];rw[d_M];omega) hr;simpa using q
 cases B₂ with
 | nil=>exact right (g_K j1) (λc r h=>by cases h)
 | cons y R=>
   have z:=e_J j1;by_cases c:b'.length+y.length < 5
   ·rw[if_pos c] at z
    subst z
    have g':Adj 8 ((B₁++(b'++y)::R).map List.length):=by
     rw[o_W,o_3,o_Q];exact Adj.less_join g h1 c
    have z2:=f_r g' j2;subst z2;exact⟨g',by simp⟩
   ·rw[if_neg c] at z
    exact right z λd r h=>by
     injection h with h _
     omega
theorem g_p {α:Type} [DecidableEq α] {a:α}:∀{l:List α},a∈l->l.eraseIdx (l.idxOf a)=l.erase a
 | x::r,h=>by
   rw[List.idxOf_cons,List.erase_cons];cases e:x == a with
   | true=>simp
   | false=>
     have:a∈r:=by
      rcases o_Z.mp h with q | q
      ·subst q;simp at e
      ·exact q
     simp only[cond_false,List.eraseIdx_cons_succ];rw[g_p this];simp
section
variable {P:Program} {w:World} {K:PySem.W.Frag} {mg:Str->Option Value} {base:Heap}
def m_d (C:Addr):Sp:=λvs H Q _=>∃(w:Bool) (o bl a:Addr) (bas:List Addr) (B:List (List Row)) (ρ:Row),vs= [.ref o,.ref a]/\OrdAt C w H o bl bas B/\RowAt H a ρ/\GoodB w B/\ρ∈B.flatten/\B.flatten.length < 10000/\
 ∀(bas':List Addr) (B':List (List Row)) (H':Hp),OrdAt C w H' o bl bas' B'->GoodB w B'->(ρ::B'.flatten).Perm B.flatten->Stp H H' (bl::bas) (bl::bas')->Q .non H'
theorem k_S:a_s ["self","row","place","block"] ["self","row"] (a_m n_a):=⟨rfl,rfl,rfl,by decide+kernel,rfl,by decide+kernel,by decide+kernel⟩
theorem l_Y {f fK fBA fJ C:Addr} {fd fdK fdBA fdJ:FuncData} (F:Fun K "let_out" "Order.let_out" n_a f fd) (T:Txt K mg C) (gK:Gf K mg "key_of" fK fdK ["word","row"]) (GK:FnOk P w K mg base CX0 2 fK fdK ["word","row"] i_K)
 (mBA:Mf K C "blocks_ahead" fBA fdBA ["self","key"]) (GBA:FnOk P w K mg base CX0 3 fBA fdBA ["self","key"] (n_L C)) (mJ:Mf K C "join_if_few" fJ fdJ ["self","place"]) (GJ:FnOk P w K mg base CX0 1 fJ fdJ ["self","place"] (k_e C)):
 FnOk P w K mg base CX0 4 f fd ["self","row"] (m_d C):=by
 refine F.ok k_S (λvs H Q E h=> ?_) (λcdv A outer s H vs Q E hr h=> ?_)
 ·obtain⟨w,o,bl,a,bas,B,ρ,rfl,_⟩:=h
  rfl
 ·obtain⟨w,o,bl,a,bas,B,ρ,rfl,O,ha,G,hm,af,fin⟩:=h
  obtain⟨⟨dx,ho⟩,j,S,X⟩:=id O;have U:Room 1 _:=hr.mono (by decide);have a4:Room 2 _:=hr.mono (by decide);have ad:bas.length=B.length:=Paired.length S
  refine⟨_,a_d (a_w (i:=2) k_S.nd rfl (Or.inl rfl) (a_Q (pv 0) T.cl mBA.m GBA hr mBA.b .nil a_u (a_a (a_l GK a4 rfl gK.mg gK.kp gK.b .nil a_u (a_a (a_E (pv 0) rfl) (a_a (pv 1) a_c))) a_c)))
   (a_d (a_w (i:=3) k_S.nd rfl (Or.inl rfl) (a_v a_M (a_E (pv 0) rfl) (pv 2) (λ_ _=>rfl)))
   (a_d (a_y (b_Z p_y PySem.F.slot_list_remove PySem.F.type_list_remove (h_Q (e_u hr)) (pv 3) (a_a (pv 1) a_c)))
   (a_f (a_B (a_k g_O (a_r a_x (by rfl) T.len p_x (a_a (pv 3) a_c)) a_e (a_o _))
     (a_d (a_y (a_Q (pv 0) T.cl mJ.m GJ U mJ.b .nil a_u (a_a (pv 2) a_c))) (a_f (a_y (a_Q (pv 0) T.cl mJ.m GJ U mJ.b .nil a_u (a_a (a_q b_N (pv 2) a_e) a_c)))))
     (a_f (a_y (b_Z p_y PySem.F.slot_list_pop PySem.F.type_list_pop g_i (a_E (pv 0) rfl) (a_a (pv 2) a_c)))))))),?_⟩
  refine⟨_,rfl,o,dx,_,rfl,ho,b_h _ _ (by decide+kernel) (by decide+kernel),_,rfl,o,C,dx,_,_,rfl,ho,T.cl,T.nW,b_2 _ _,_,rfl,w,a,ρ,rfl,ha,λk hk=> ?_⟩;have s1:Same H (upd H k (.tup (a_T w ρ))):=Same.upd_new hk;refine⟨w,o,bl,k,bas,B,a_T w ρ,rfl,O.same s1,a_b,λρ'=>c_7 w ρ' ρ,G.srt,G.ne,λB₁ B₂ H2 s2 eB a7 a6=> ?_⟩;have d:Same H H2:=s1.trans s2
  have L:∀y∈B₁.flatten,ltR w y ρ=true:=by
   have:=G.srt;rw[eB,p_b,Srt.app] at this;exact c_q (P:=λy=>ltR w y ρ) (c_i w (a_T w ρ)) this.1 λc hc=>d_s (a7 c hc)
  cases B₂ with
  | nil=>
    rw[p_l] at eB;subst eB;exact (m_A (d_P w) hm L).elim
  | cons b B₂=>
  subst eB;obtain⟨z,ez,pz⟩:=f_b (a6 b (o_S ..)) (G.ne b (by simp));have hρb:ρ∈b:=f_V (d_P w) G.srt hm L ez pz;obtain⟨l₁,ab,l₂,rfl,N,a3,a8⟩:=a_9 S;obtain⟨as,l,Z⟩:=id a3;have Y:l₁.length=B₁.length:=Paired.length N;obtain⟨n1,n2,n3,n4,n5,n6⟩:=c_h X;have gb:((l₁++ab::l₂).map V.ref)[B₁.length]? =some (V.ref ab):=by rw[o_0,<-Y,c_G];rfl
  refine⟨_,rfl,o,C,dx,_,_,rfl,d _ _ ho,T.cl,T.nB,a_C _ _,_,rfl,bl,_,_,_,rfl,rfl,SqL.of (d _ _ j),a_g gb,?_⟩;refine⟨_,rfl,.inl ⟨rfl,_,SqL.of (d _ _ l)⟩,_,rfl,ab,as,a,b,ρ,rfl,rfl,d _ _ l,Z.same (λb xs q=>d _ _ q),d _ _ ha,hρb,?_⟩;have n:=((Z.eraseIdx (b.idxOf ρ)).same λb xs q=>d _ _ q).same (NoTup.keep (o:= .lst ((as.eraseIdx (b.idxOf ρ)).map V.ref)) (NoTup.lst (d _ _ l)));rw[g_p hρb] at n;have r:o≠ab:=d_5 ho l (by intro z;cases z);have aa:o≠bl:=d_5 ho j (by intro z;cases z);have t4:NoTup H2 ab:=NoTup.lst (d _ _ l)
  have M:b.length=(b.erase ρ).length+1:=by
   have:=List.length_erase_of_mem hρb;have:0 < b.length:=List.length_pos_of_mem hρb;omega
  have hE:=e_R G.srt hρb;generalize as.eraseIdx (b.idxOf ρ)=as' at n ⊢;generalize p:upd H2 ab (.lst (as'.map V.ref))=H4 at n ⊢;have e4:H4 ab=some (.lst (as'.map V.ref)):=by rw[<-p];exact a_b
  have k4:∀c u,c≠ab->H2 c=some u->H4 c=some u:=λc u hc q=>by rw[<-p,a_i hc];exact q
  have ah:=n.len
  have J:Paired (LstAt H4) l₁ B₁:=by
   rw[<-p];exact a_H t4 (Paired.mapP N λ_ _ q=>q.sameS d) λx hx e=>n4 (e ▸ hx)
  have t:Paired (LstAt H4) l₂ B₂:=by
   rw[<-p];exact a_H t4 (Paired.mapP a8 λ_ _ q=>q.sameS d) λx hx e=>n5 (e ▸ hx)
  have O4:OrdAt C w H4 o bl (l₁++ab::l₂) (B₁++b.erase ρ::B₂):=⟨⟨dx,k4 _ _ r (d _ _ ho)⟩,k4 _ _ n2 (d _ _ j),a_N J (.cons ⟨as',e4,n⟩ t),X⟩;have S4:Stp H H4 (bl::(l₁++ab::l₂)) (bl::(l₁++ab::l₂)):=⟨λc u hc hn=>k4 c u (λe=>hn (by simp[e])) (d c u hc),λc hc=> .inl hc⟩;refine⟨_,rfl,ab,_,rfl,.inl (SqL.of e4),_,_,rfl,rfl,_,rfl,?_⟩;have I:∀c∈B₁++b::B₂,c.length<=8:=λc hc=>(e_c G.adj c.length (p_j.mpr ⟨c,hc,rfl⟩)).2;have W:=G.len;refine a_z (λc0=> ?_) (λc0=> ?_)
  ·have h0:1≤(b.erase ρ).length:=by
    have:=p_w c0;rw[o_O] at this;omega
   have h8:∀c∈B₁++b.erase ρ::B₂,c.length<=8:=λc hc=>by
    simp only[o_6,o_Z] at hc;rcases hc with q | q | q
    ·exact I c (by simp[q])
    ·have:=I b (by simp);subst q;omega
    ·exact I c (by simp[q])
   refine⟨_,rfl,o,dx,_,rfl,k4 _ _ r (d _ _ ho),b_h _ _ (by decide+kernel) (by decide+kernel),_,rfl,w,o,bl,_,_,_,rfl,O4,h8,by omega,λa2 B5 H5 O5 S5 j5=> ?_⟩;obtain⟨⟨a9,a5⟩,ae,a1,_⟩:=id O5
   have R:(∀c∈B5,c.length<=8)/\B5.length<=(B₁++b.erase ρ::B₂).length:=by
    rcases j5 with⟨_,e⟩ | ⟨C₁,u,v,C₂,h1,h2,h3⟩
    ·subst e;exact⟨h8,o_X _⟩
    ·by_cases q:u.length+v.length < 5
     ·rw[if_pos q] at h3
      subst h3;rw[h2] at h8 ⊢;refine⟨λc hc=> ?_, by simp⟩;simp only[o_6,o_Z] at hc;rcases hc with z | z | z
      ·exact h8 c (by simp[z])
      ·subst z;rw[o_Q];omega
      ·exact h8 c (by simp[z])
     ·rw[if_neg q] at h3
      subst h3;exact⟨h8,o_X _⟩
   have ag:a2.length=B5.length:=Paired.length a1;refine⟨_,rfl,o,a9,_,rfl,a5,b_h _ _ (by decide+kernel) (by decide+kernel),_,rfl,_,_,rfl,rfl,w,o,bl,_,_,_,rfl,O5,R.1,?_, λa0 B6 H6 O6 S6 j6=> ?_⟩
   ·have:=R.2
    simp only[o_Q,o_U] at this W;omega
   ·have LG:=j_F G.adj M h0 j5 j6
    refine fin a0 B6 H6 O6 ⟨LG.1,?_⟩ ?_ ((S4.trans S5).trans S6)
    ·rw[LG.2];exact hE.1
    ·rw[LG.2];exact hE.2
  ·have h0:(b.erase ρ).length=0:=by
    have:¬ ((0:Int) < _):=λz=>c0 (p_u z);rw[o_O] at this;omega
   have he:b.erase ρ= []:=List.eq_nil_of_length_eq_zero h0
   have er:((l₁++ab::l₂).map V.ref).eraseIdx B₁.length=(l₁++l₂).map V.ref:=by
    rw[<-Y,c_x,e_V]
   have ac:(B₁.length:Int) < 2 ^ 63:=by
    simp only[o_Q,o_U] at W;omega
   refine⟨_,rfl,o,C,dx,_,_,rfl,k4 _ _ r (d _ _ ho),T.cl,T.nB,a_C _ _,.inl ⟨rfl,_,SqL.of (k4 _ _ n2 (d _ _ j))⟩,_,rfl,bl,_,_,B₁.length,_,rfl,rfl,k4 _ _ n2 (d _ _ j),by omega,ac,?_, gb,?_⟩
   ·rw[PySem.seqIndex_of (by omega) (by simp;omega)]
    rfl
   rw[er];have t5:NoTup H4 bl:=NoTup.lst (k4 _ _ n2 (d _ _ j));refine fin (l₁++l₂) (B₁++B₂) _ ⟨⟨dx,by rw[a_i aa];exact k4 _ _ r (d _ _ ho)⟩,a_b,a_N (a_H t5 J λx hx e=>n1 (e ▸ hx)) (a_H t5 t λx hx e=>n3 (e ▸ hx)),n6⟩ ⟨?_, ?_⟩ ?_ ?_
   ·have g:=G.adj
    rw[o_W,o_3,M,h0] at g;rw[o_W];exact Adj.gone g
   ·have:=hE.1
    rw[he] at this;simpa using this
   ·have:=hE.2
    rw[he] at this;simpa using this
   ·refine⟨λc u hc hn=> ?_, λc hc=> .inl ?_⟩
    ·rw[a_i (λe=>hn (by simp[e]))]
     exact S4.keep c u hc hn
    ·simp only[o_Z,o_6] at hc ⊢
     rcases hc with q | q | q
     ·exact .inl q
     ·exact .inr (.inl q)
     ·exact .inr (.inr (.inr q))
end
theorem l_g {X:Cx} (K:PySem.W.Frag) (hK:X.K=K:=by rfl):IxR X (n_3 K):=by subst hK;exact a_t
section
variable {P:Program} {w:World} {K:PySem.W.Frag} {mg:Str->Option Value} {base:Heap}
end
section
variable {P:Program} {w:World} {K:PySem.W.Frag} {mg:Str->Option Value} {base:Heap}
def k_x (C:Addr):Sp:=λvs H Q _=>∃(w:Bool) (p dx:Addr),vs= [.ref p,.str (g_T w)]/\H p=some (.ins C dx [])/\∀(bl:Addr) (H':Hp),H bl=none->OrdAt C w H' p bl [] []->(∀b u,H b=some u->b≠p->H' b=some u)->Q .non H'
theorem k_h:a_s ["self","word"] ["self","word"] (a_m j_x):=⟨rfl,rfl,rfl,by decide+kernel,rfl,by decide+kernel,by decide+kernel⟩
theorem l_m {f fCW C:Addr} {fd fdCW:FuncData} (F:Fun K "__init__" "Order.__init__" j_x f fd) (T:Txt K mg C) (gCW:Gf K mg "check_word" fCW fdCW ["word"]) (GCW:FnOk P w K mg base CX0 1 fCW fdCW ["word"] n_5):FnOk P w K mg base CX0 2 f fd ["self","word"] (k_x C):=by
 refine F.ok k_h (λvs H Q E h=> ?_) (λcdv A outer s H vs Q E hr h=> ?_)
 ·obtain⟨w,p,dx,rfl,_⟩:=h
  rfl
 ·obtain⟨w,p,dx,rfl,hp,fin⟩:=h
  refine⟨_,a_d (a_y (a_l GCW hr rfl gCW.mg gCW.kp gCW.b .nil a_u (a_a (pv 1) a_c)))
   (a_d (b_T (pv 0) (pv 1) rfl) (a_f (b_T (pv 0) (a_R a_c) rfl))),?_⟩
  refine⟨_,rfl,w,rfl,?_⟩;refine⟨_,rfl,_,rfl,p,C,dx,_,rfl,hp,T.cl,T.nW,(by show 0 < 1000;decide),?_⟩;refine⟨by show 0<=sizeLine;decide,λbl c=> ?_⟩;have n1:p≠bl:=a_h a_b c;have a:H bl=none:=by rw[a_i n1.symm] at c;exact c
  refine⟨_,rfl,p,C,dx,_,rfl,(by rw[a_i n1];exact a_b),T.cl,T.nB,(by show 1 < 1000;decide),?_⟩;refine fin bl _ a ⟨⟨dx,a_b⟩,by rw[a_i n1.symm];exact a_b,.nil,by simp⟩ λb u hb hn=> ?_;rw[a_i hn,a_i (a_h hb a),a_i hn];exact hb
end
end K1
namespace TO
open PySem L2
inductive D where
 | int (i:Int)
 | str (x:Str)
 | lst (ds:List D)
 | tup (ds:List D)
mutual
inductive Bears (H:Hp):D->V->Prop
 | int (i:Int):Bears H (.int i) (.int i)
 | str (x:Str):Bears H (.str x) (.str x)
 | lst {a:Addr} {ds:List D} {vs:List V}:H a=some (.lst vs)->BearsL H ds vs->Bears H (.lst ds) (.ref a)
 | tup {a:Addr} {ds:List D} {vs:List V}:H a=some (.tup vs)->BearsL H ds vs->Bears H (.tup ds) (.ref a)
inductive BearsL (H:Hp):List D->List V->Prop
 | nil:BearsL H [] []
 | cons {d:D} {v:V} {ds:List D} {vs:List V}:Bears H d v->BearsL H ds vs->BearsL H (d::ds) (v::vs)
end
mutual
def D.wt:D->Nat
 | .int _=>1
 | .str _=>1
 | .lst ds=>1+D.wts ds
 | .tup ds=>1+D.wts ds
def D.wts:List D->Nat
 | []=>0
 | d::r=>D.wt d+D.wts r
end
theorem D.wt_pos:∀d:D,1<=d.wt
 | .int _=>o_X _
 | .str _=>o_X _
 | .lst ds=>by simp only[D.wt];omega
 | .tup ds=>by simp only[D.wt];omega
theorem D.wts_app:∀a b:List D,D.wts (a++b)=D.wts a+D.wts b
 | [],b=>by simp[D.wts]
 | d::r,b=>by simp only[List.cons_append,D.wts,D.wts_app r b];omega
theorem D.wts_len:∀a:List D,a.length<=D.wts a
 | []=>p_g _
 | d::r=>by
   have h1:=D.wt_pos d;have h2:=D.wts_len r;simp only[o_U,D.wts];omega
theorem BearsL.len {H:Hp}:∀{ds:List D} {vs:List V},BearsL H ds vs->ds.length=vs.length
 | _,_,.nil=>rfl
 | _,_,.cons _ t=>by simp[BearsL.len t]
theorem BearsL.app {H:Hp}:∀{ds es:List D} {vs us:List V},BearsL H ds vs->BearsL H es us->BearsL H (ds++es) (vs++us)
 | _,_,_,_,.nil,h=>h
 | _,_,_,_,.cons a t,h=> .cons a (BearsL.app t h)
theorem BearsL.snoc {H:Hp}:∀{ds:List D} {d:D} {vs:List V},BearsL H (ds++ [d]) vs->∃us v,vs=us++ [v]/\BearsL H ds us/\Bears H d v
 | [],d,_,.cons h .nil=>⟨[],_,rfl,.nil,h⟩
 | e::ds,d,_,.cons h t=>by
   obtain⟨us,v,rfl,h1,h2⟩:=BearsL.snoc (ds:=ds) t;exact⟨_::us,v,rfl,.cons h h1,h2⟩
def j_k (ρ:Row):D:= .tup [.int ρ.n,.int ρ.r,.str ρ.t]
theorem RowAt.bears {H:Hp} {a:Addr} {ρ:Row} (h:RowAt H a ρ):Bears H (j_k ρ) (.ref a):= .tup h (.cons (.int _) (.cons (.int _) (.cons (.str _) .nil)))
end TO
namespace K1
open PySem L2 TO
structure Bt (mg:Str->Option Value):Prop where
 len:mg "len"=none
 min:mg "min"=none
 isi:mg "isinstance"=none
 int:mg "int"=none
 bool:mg "bool"=none
 list:mg "list"=none
 tuple:mg "tuple"=none
 str:mg "str"=none
 sorted:mg "sorted"=none
 range:mg "range"=none
theorem b_M {X:Cx} {x:Str} {n:String} {pos:Pos} (hm:X.mg x=none) (hv:bootBuiltins x=some (.type n)) (hg:Gl X x:=by rfl) (hn:x≠"__name__":=by decide) (hd:(x == ("__debug__":Str))=false:=by decide):PE X (.Name x pos) (tC (.ty n)):=k_W hg hm hv rfl hn hd
theorem b_8:bootBuiltins "int"=some (.type "int"):=by decide+kernel
theorem m_Z:bootBuiltins "bool"=some (.type "bool"):=by decide+kernel
theorem g_g:bootBuiltins "list"=some (.type "list"):=by decide+kernel
theorem f_y:bootBuiltins "tuple"=some (.type "tuple"):=by decide+kernel
theorem l_4:bootBuiltins "str"=some (.type "str"):=by decide+kernel
theorem b_F:bootBuiltins "isinstance"=some (.builtin "isinstance"):=by decide+kernel
section
variable {P:Program} {w:World} {K:PySem.W.Frag} {mg:Str->Option Value} {base:Heap}
def i_t:Sp:=λvs H Q _=>∃i,vs= [.int i]/\Q (.bl true) H
theorem k_3:a_s ["_law_found"] ["_law_found"] (a_m h_s):=⟨rfl,rfl,rfl,by decide+kernel,rfl,by decide+kernel,by decide+kernel⟩
theorem j_E {f:Addr} {fd:FuncData} (F:Fun K "_law_whole" "_law_whole" h_s f fd) (B:Bt mg):FnOk P w K mg base CX0 1 f fd ["_law_found"] i_t:=by
 refine F.ok k_3 (λvs H Q E h=> ?_) (λcdv A outer s H vs Q E hr h=> ?_)
 ·obtain⟨i,rfl,_⟩:=h
  rfl
 ·obtain⟨i,rfl,k⟩:=h
  refine⟨_,a_f (a_n (h_U (a_r b_w (by rfl) B.isi b_F (a_a (pv 0) (a_a (b_M B.int b_8) a_c))) (h_3 (m_X (a_r b_w (by rfl) B.isi b_F (a_a (pv 0) (a_a (b_M B.bool m_Z) a_c))))))),?_⟩;refine⟨_,rfl,_,_,_,_,rfl,.int i,rfl,_,rfl,?_⟩;exact⟨_,rfl,_,_,_,_,rfl,.int i,rfl,_,rfl,k⟩
theorem o_o:a_s ["_law_script","_law_k"] ["_law_script","_law_k"] (a_m sAt):=⟨rfl,rfl,rfl,by decide+kernel,rfl,by decide+kernel,by decide+kernel⟩
theorem i_v {α:Type} (us:List α) (v:α):(us++ [v])[(us++ [v]).length - 1]? =some v:=by simp
def i_L:Sp:=λvs H Q _=>∃(t:D) (f d:V),vs= [f,d]/\Bears H t f/\Bears H t d/\t.wt < 100000/\∀H',Same H H'->Q (.bl true) H'
theorem e_B:a_s ["_law_found","_law_due","_law_left","_law_right","_law_one","_law_two"] ["_law_found","_law_due"] (a_m k_7):=⟨rfl,rfl,rfl,by decide+kernel,rfl,by decide+kernel,by decide+kernel⟩
theorem k_4 {f fW:Addr} {fd fdW:FuncData} (F:Fun K "_law_same" "_law_same" k_7 f fd) (B:Bt mg) (gW:Gf K mg "_law_whole" fW fdW ["_law_found"]) (GW:FnOk P w K mg base CX0 1 fW fdW ["_law_found"] i_t):
 FnOk P w K mg base CX0 2 f fd ["_law_found","_law_due"] i_L:=by
 refine F.ok e_B (λvs H Q E h=> ?_) (λcdv A outer s H vs Q E hr h=> ?_)
 ·obtain⟨t,f,d,rfl,_⟩:=h
  rfl
 ·obtain⟨t,x,y,rfl,hx,hy,hw,fin⟩:=h
  refine⟨_,a_d (a_w (i:=2) e_B.nd rfl (Or.inl rfl) (a_R (a_a (pv 0) a_c)))
   (a_d (a_w (i:=3) e_B.nd rfl (Or.inl rfl) (a_R (a_a (pv 1) a_c)))
   (a_d (c_R PassesOwn.never (a_k (i_5 hr.units0) (pv 3) (a_R a_c) (a_o _))
     (a_d (a_w (i:=4) e_B.nd rfl (Or.inl rfl) (d_a p_y PySem.F.slot_list_pop PySem.F.type_list_pop e_5 (pv 2)))
     (a_d (a_w (i:=5) e_B.nd rfl (Or.inl rfl) (d_a p_y PySem.F.slot_list_pop PySem.F.type_list_pop e_5 (pv 3)))
     (a_f (a_B (c_a (a_r h_L (by rfl) B.isi b_F (a_a (pv 5) (a_a (a_A (a_a (b_M B.list g_g) (a_a (b_M B.tuple f_y) a_c))) a_c))))
       (a_d (a_B (a_k c_O (a_r b_w (by rfl) B.isi b_F (a_a (pv 4) (a_a (b_M B.list g_g) a_c))) (a_r b_w (by rfl) B.isi b_F (a_a (pv 5) (a_a (b_M B.list g_g) a_c))) (a_o _)) (a_f (a_n b_6)) a_p)
       (a_d (a_B (PW.pt (d_I (a_k c_O (a_r b_w (by rfl) B.isi b_F (a_a (pv 4) (a_a (b_M B.tuple f_y) a_c))) (a_r b_w (by rfl) B.isi b_F (a_a (pv 5) (a_a (b_M B.tuple f_y) a_c))) (a_o _))
         (b_9 (a_k c_O (a_r a_x (by rfl) B.len p_x (a_a (pv 4) a_c)) (a_r a_x (by rfl) B.len p_x (a_a (pv 5) a_c)) (a_o _))))) (a_f (a_n b_6)) a_p)
       (a_d (a_y (b_Z p_y PySem.F.slot_list_extend PySem.F.type_list_extend (MtR.or e_W d_X) (pv 2) (a_a (pv 4) a_c)))
       (a_f (a_y (b_Z p_y PySem.F.slot_list_extend PySem.F.type_list_extend (MtR.or e_W d_X) (pv 3) (a_a (pv 5) a_c)))))))
       (a_f (a_B (c_a (a_r b_w (by rfl) B.isi b_F (a_a (pv 5) (a_a (b_M B.str l_4) a_c))))
         (a_f (a_B (PW.pt (d_I (c_L (c_a (a_r b_w (by rfl) B.isi b_F (a_a (pv 4) (a_a (b_M B.str l_4) a_c))))) (b_9 (a_k c_O (pv 4) (pv 5) (a_o _))))) (a_f (a_n b_6)) a_p))
         (a_f (a_B (PW.pt (d_I (c_L (c_a (a_l GW hr rfl gW.mg gW.kp gW.b .nil a_u (a_a (pv 4) a_c)))) (b_9 (a_k c_O (pv 4) (pv 5) (a_o _))))) (a_f (a_n b_6)) a_p)))))))))
   (a_f (a_n b_6)))),?_⟩
  refine⟨_,rfl,by show 1<=sizeLine;decide,λl hl=> ?_⟩;refine⟨_,rfl,by show 1<=sizeLine;decide,λr L=> ?_⟩;have o:l≠r:=a_h a_b L;have C:H r=none:=by rw[a_i o.symm] at L;exact L
  refine⟨λm σ H2=>∃(ts:List D) (ls rs:List V) (v1 v2:Option V),σ= [some x,some y,some (.ref l),some (.ref r),v1,v2]/\Same H H2/\H2 l=some (.lst ls)/\H2 r=some (.lst rs)/\BearsL H ts ls/\BearsL H ts rs/\m=D.wts ts/\D.wts ts < 100000,
   ⟨_, [t], [x], [y],none,none,rfl,(Same.upd_new hl).trans (Same.upd_new L),by rw[a_i o];exact a_b,a_b,.cons hx .nil,.cons hy .nil,rfl,by simp only[D.wts];omega⟩,?_⟩
  rintro m σ H2 ⟨ts,ls,rs,v1,v2,rfl,s2,R,J,b1,b2,rfl,T⟩;refine⟨_,rfl,by show 0<=sizeLine;decide,λn hn=> ?_⟩;have s3:Same H2 (upd H2 n (.lst [])):=Same.upd_new hn;refine⟨r,n,rs,rfl,rfl,SqL.of (s3 _ _ J),a_b,_,rfl,?_⟩;rcases List.eq_nil_or_concat ts with e | ⟨ts',t',e⟩
  ·subst e
   cases b2;exact fin _ (s2.trans s3)
  ·rw[List.concat_eq_append] at e
   subst e;obtain⟨ls',one,rfl,c1,c2⟩:=b1.snoc;obtain⟨rs',two,rfl,d1,d2⟩:=b2.snoc;have W:(!(rs'++ [two]).isEmpty)=true:=by simp
   rw[show (if true=true then !(rs'++ [two]).isEmpty else (rs'++ [two]).isEmpty)=true from W];refine k_v ?_;have a3:l≠n:=a_h R hn;have a4:r≠n:=a_h J hn;rw[D.wts_app] at T;have q:D.wts [t']=t'.wt:=by simp[D.wts]
   rw[q] at T;have a6:=t'.wt_pos
   -- what a turn has to reach
   refine⟨λσ' H'=>∃(ts:List D) (ls rs:List V) (v1 v2:Option V),σ'= [some x,some y,some (.ref l),some (.ref r),v1,v2]/\Same H H'/\H' l=some (.lst ls)/\H' r=some (.lst rs)/\BearsL H ts ls/\BearsL H ts rs/\D.wts ts < D.wts (ts'++ [t']),?_, ?_⟩
   ·rintro σ' H' ⟨us,ls,rs,v1,v2,e1,e2,e3,e4,e5,e6,e7⟩
    have:=e7;rw[D.wts_app,q] at this;exact⟨D.wts us,e7,us,ls,rs,v1,v2,e1,e2,e3,e4,e5,e6,rfl,by omega⟩
   refine⟨_,rfl,.inl ⟨rfl,_,SqL.of (s3 _ _ R)⟩,l,_,_,rfl,rfl,s3 _ _ R,i_v _ _,?_⟩;rw[List.dropLast_concat];refine⟨_,rfl,.inl ⟨rfl,_,SqL.of (by rw[a_i o.symm];exact s3 _ _ J)⟩,r,_,_,rfl,rfl,(by rw[a_i o.symm];exact s3 _ _ J),i_v _ _,?_⟩;rw[List.dropLast_concat];generalize O:upd (upd (upd H2 n (.lst [])) l (.lst ls')) r (.lst rs')=H4
   have s4:Same H H4:=λb u hb=>by
    rw[<-O,a_i (a_h hb C),a_i (a_h hb hl)];exact s3 _ _ (s2 _ _ hb)
   have Y:H4 l=some (.lst ls'):=by rw[<-O,a_i o];exact a_b
   have Z:H4 r=some (.lst rs'):=by rw[<-O];exact a_b
   have a5:ls'.length < 100000:=by have:=D.wts_len ts';rw[<-c1.len];omega
   have a0:rs'.length < 100000:=by have:=D.wts_len ts';rw[<-d1.len];omega
   refine⟨_,rfl,by show 2<=sizeLine;decide,λk hk=> ?_⟩;have s5:Same H4 (upd H4 k (.tup [.ty "list",.ty "tuple"])):=Same.upd_new hk;generalize X:upd H4 k (.tup [.ty "list",.ty "tuple"])=H5 at s5;have M:H5 k=some (.tup [.ty "list",.ty "tuple"]):=by rw[<-X];exact a_b
   have g:Same H H5:=s4.trans s5;have v:=s5 _ _ Y;have N:=s5 _ _ Z;cases c2 with
   | int i=>
     cases d2;refine⟨_,k, ["list","tuple"],"int",false,rfl,.int i,.inl rfl,M,rfl,_,rfl,?_⟩;refine⟨_,rfl,_,_,_,_,rfl,.int i,rfl,_,rfl,?_⟩;refine⟨_,rfl,i,rfl,_,rfl,?_⟩;refine⟨_,rfl,_,rfl,rfl,_,rfl,?_⟩;refine a_z (λc=>absurd c (by simp)) (λc=> ?_);exact⟨ts',ls',rs',_,_,rfl,g,v,N,c1,d1,by rw[D.wts_app,q];omega⟩
   | str z=>
     cases d2;refine⟨_,k, ["list","tuple"],"str",false,rfl,.str z,.inr (.inl rfl),M,rfl,_,rfl,?_⟩;refine⟨_,rfl,_,_,_,_,rfl,.str z,rfl,_,rfl,?_⟩;refine⟨_,rfl,_,_,_,_,rfl,.str z,rfl,_,rfl,?_⟩;refine⟨_,rfl,_,rfl,rfl,_,rfl,?_⟩;refine a_z (λc=>absurd c (by simp)) (λc=> ?_);exact⟨ts',ls',rs',_,_,rfl,g,v,N,c1,d1,by rw[D.wts_app,q];omega⟩
   | @lst a1 ds vs1 ha1 hv1=>
     cases d2 with
     | @lst a2 _ p j G=>
     have e1:=hv1.len;have e2:=G.len;have S:(D.lst ds).wt=1+D.wts ds:=rfl;have U:=D.wts_len ds;have n1:a1≠l:=a_h ha1 hl;have n2:a2≠l:=a_h j hl;have n3:a1≠r:=a_h ha1 C;refine⟨_,k, ["list","tuple"],"list",true,rfl,.lst (g _ _ j),.inr (.inr (.inl rfl)),M,rfl,_,rfl,?_⟩;refine⟨_,rfl,_,_,_,_,rfl,.lst (g _ _ ha1),rfl,_,rfl,_,_,_,_,rfl,.lst (g _ _ j),rfl,rfl,_,rfl,?_⟩;refine a_z (λc=>absurd c (by simp)) (λ_=> ?_);refine⟨_,rfl,_,_,_,_,rfl,.lst (g _ _ ha1),rfl,_,rfl,_,_,_,_,rfl,.lst (g _ _ j),rfl,rfl,_,rfl,?_⟩;refine a_z (λc=>absurd c (by simp)) (λ_=> ?_);refine⟨_,rfl,a1,_,rfl,.inl (SqL.of (g _ _ ha1)),_,rfl,a2,_,rfl,.inl (SqL.of (g _ _ j)),rfl,_,rfl,?_⟩;refine a_z (λc=>absurd c (by simp[<-e1,<-e2])) (λ_=> ?_);have z1:ls'.length+vs1.length<=sizeLine:=o_9 (m:=200000) (by omega) (by decide);have z2:rs'.length+p.length<=sizeLine:=o_9 (m:=200000) (by omega) (by decide);refine⟨_,rfl,.inl ⟨rfl,_,SqL.of v⟩,_,rfl,.inl ⟨l,a1,ls',vs1,rfl,rfl,v,g _ _ ha1,z1,?_⟩⟩;have I:(upd H5 l (.lst (ls'++vs1))) r=some (.lst rs'):=by rw[a_i o.symm];exact N
     refine⟨_,rfl,.inl ⟨rfl,_,SqL.of I⟩,_,rfl,.inl ⟨r,a2,rs',p,rfl,rfl,I,by rw[a_i n2];exact g _ _ j,z2,?_⟩⟩;refine⟨ts'++ds,ls'++vs1,rs'++p,_,_,rfl,λb u hb=> ?_, by rw[a_i o];exact a_b,a_b,c1.app hv1,d1.app G,?_⟩
     ·rw[a_i (a_h hb C),a_i (a_h hb hl)]
      exact g _ _ hb
     ·rw[D.wts_app,D.wts_app,q,S]
      omega
   | @tup a1 ds vs1 ha1 hv1=>
     cases d2 with
     | @tup a2 _ p j G=>
     have e1:=hv1.len;have e2:=G.len;have S:(D.tup ds).wt=1+D.wts ds:=rfl;have U:=D.wts_len ds;have n1:a1≠l:=a_h ha1 hl;have n2:a2≠l:=a_h j hl;have n3:a1≠r:=a_h ha1 C;refine⟨_,k, ["list","tuple"],"tuple",true,rfl,.tup (g _ _ j),.inr (.inr (.inr rfl)),M,rfl,_,rfl,?_⟩;refine⟨_,rfl,_,_,_,_,rfl,.tup (g _ _ ha1),rfl,_,rfl,_,_,_,_,rfl,.tup (g _ _ j),rfl,rfl,_,rfl,?_⟩;refine a_z (λc=>absurd c (by simp)) (λ_=> ?_);refine⟨_,rfl,_,_,_,_,rfl,.tup (g _ _ ha1),rfl,_,rfl,_,_,_,_,rfl,.tup (g _ _ j),rfl,rfl,_,rfl,?_⟩;refine a_z (λc=>absurd c (by simp)) (λ_=> ?_);refine⟨_,rfl,a1,_,rfl,.inr (SqT.of (g _ _ ha1)),_,rfl,a2,_,rfl,.inr (SqT.of (g _ _ j)),rfl,_,rfl,?_⟩;refine a_z (λc=>absurd c (by simp[<-e1,<-e2])) (λ_=> ?_);have z1:ls'.length+vs1.length<=sizeLine:=o_9 (m:=200000) (by omega) (by decide);have z2:rs'.length+p.length<=sizeLine:=o_9 (m:=200000) (by omega) (by decide);refine⟨_,rfl,.inl ⟨rfl,_,SqL.of v⟩,_,rfl,.inr ⟨l,a1,ls',vs1,rfl,rfl,v,g _ _ ha1,z1,?_⟩⟩;have I:(upd H5 l (.lst (ls'++vs1))) r=some (.lst rs'):=by rw[a_i o.symm];exact N
     refine⟨_,rfl,.inl ⟨rfl,_,SqL.of I⟩,_,rfl,.inr ⟨r,a2,rs',p,rfl,rfl,I,by rw[a_i n2];exact g _ _ j,z2,?_⟩⟩;refine⟨ts'++ds,ls'++vs1,rs'++p,_,_,rfl,λb u hb=> ?_, by rw[a_i o];exact a_b,a_b,c1.app hv1,d1.app G,?_⟩
     ·rw[a_i (a_h hb C),a_i (a_h hb hl)]
      exact g _ _ hb
     ·rw[D.wts_app,D.wts_app,q,S]
      omega
end
def l_T:List Str:= ["","a","ab","b","B","~"]
theorem h_y:∀{i:Nat} {t:Str},l_T[i]? =some t->t.length<=2
 | 0,t,h=>by obtain rfl:=o_V h;decide
 | 1,t,h=>by obtain rfl:=o_V h;decide
 | 2,t,h=>by obtain rfl:=o_V h;decide
 | 3,t,h=>by obtain rfl:=o_V h;decide
 | 4,t,h=>by obtain rfl:=o_V h;decide
 | 5,t,h=>by obtain rfl:=o_V h;decide
 | n+6,t,h=>by simp[l_T] at h
theorem g_f (z:Int):∃t:Str,atI (l_T.map V.str) (z % 6)=some (.str t)/\t.length<=2:=by
 have h1:=Int.emod_nonneg z (show (6:Int)≠0 by decide);have h2:=Int.emod_lt_of_pos z (show (0:Int) < 6 by decide);obtain⟨j,hj⟩:∃j:Nat,z % 6=(j:Int):=⟨(z % 6).toNat,by omega⟩;have a:j < l_T.length:=by show _ < 6;omega
 refine⟨l_T[j],?_, h_y (o_P a)⟩;rw[hj];refine a_g ?_;rw[o_0,o_P a];rfl
def i1 (b:Bool):Int:=if b=true then 1 else 0
theorem g_B (b:Bool): -(2 ^ 64) < i1 b/\i1 b < 2 ^ 64:=by cases b <;> decide
def far (n:Int):Int:=if n=25 then 10 ^ 20 else if n=24 then 0 - 10 ^ 20 else n
def c_6 (s:Int):Int:=1000 * (s / 7 % 10 ^ 27) * i1 (decide (V.int (s % 3)=V.int 1))
def a_3 (n s:Int):Int:=n+c_6 s * i1 (decide (9 < n))
theorem l_Z (n:Int):atI [V.int n,V.int (10 ^ (20:Int).toNat),V.int (0 - 10 ^ (20:Int).toNat)] (i1 (decide (V.int n=V.int 25))+2 * i1 (decide (V.int n=V.int 24)))=some (V.int (far n)):=by
 unfold far;by_cases h1:n=25
 ·subst h1
  exact a_g (j:=1) rfl
 ·by_cases h2:n=24
  ·subst h2
   exact a_g (j:=2) rfl
  ·have e1:decide (V.int n=V.int 25)=false:=p_v λq=>h1 (by injection q)
   have e2:decide (V.int n=V.int 24)=false:=p_v λq=>h2 (by injection q);rw[e1,e2,if_neg h1,if_neg h2];exact a_g (j:=0) rfl
section
variable {P:Program} {w:World} {K:PySem.W.Frag} {mg:Str->Option Value} {base:Heap}
def f_K:Sp:=λvs H Q _=>vs= []/\∀(l:Addr) (H':Hp),H l=none->Same H H'->H' l=some (.lst (l_T.map V.str))->Q (.ref l) H'
theorem l_B:a_s [] [] (a_m i_B):=⟨rfl,rfl,rfl,by decide+kernel,rfl,by decide+kernel,by decide+kernel⟩
theorem i_V {f:Addr} {fd:FuncData} (F:Fun K "_law_texts" "_law_texts" i_B f fd):FnOk P w K mg base CX0 1 f fd [] f_K:=by
 refine F.ok l_B (λvs H Q E h=> ?_) (λcdv A outer s H vs Q E hr h=> ?_)
 ·obtain⟨rfl,_⟩:=h
  rfl
 ·obtain⟨rfl,k⟩:=h
  refine⟨_,a_f (a_n (a_R (a_a a_j (a_a a_j (a_a a_j (a_a a_j (a_a a_j (a_a a_j a_c)))))))),?_⟩;exact⟨by show 6<=sizeLine;decide,λl hl=>k l _ hl (Same.upd_new hl) a_b⟩
def f_s:Sp:=λvs H Q _=>∃(n c:Int),vs= [.int n,.int c]/\∀(a:Addr) (ρ:Row) (H':Hp),H a=none->Same H H'->RowAt H' a ρ->ρ.n=n->ρ.t.length<=2->Q (.ref a) H'
theorem f_Y:a_s ["_law_number","_law_cell","_law_rank"] ["_law_number","_law_cell"] (a_m h_X):=⟨rfl,rfl,rfl,by decide+kernel,rfl,by decide+kernel,by decide+kernel⟩
theorem j_B {f fT:Addr} {fd fdT:FuncData} (F:Fun K "_law_drawn_row" "_law_drawn_row" h_X f fd) (gT:Gf K mg "_law_texts" fT fdT []) (GT:FnOk P w K mg base CX0 1 fT fdT [] f_K):FnOk P w K mg base CX0 2 f fd ["_law_number","_law_cell"] f_s:=by
 refine F.ok f_Y (λvs H Q E h=> ?_) (λcdv A outer s H vs Q E hr h=> ?_)
 ·obtain⟨n,c,rfl,_⟩:=h
  rfl
 ·obtain⟨n,c,rfl,k⟩:=h
  refine⟨_,a_d (a_w (i:=2) f_Y.nd rfl (Or.inl rfl) (a_q b_N (a_q a_I (pv 1) a_e) a_e))
   (a_d (a_B (a_k a_L (pv 2) a_e (a_o _)) (a_f (a_w (i:=2) f_Y.nd rfl (Or.inl rfl) a_e)) a_p)
   (a_f (a_n (a_A (a_a (pv 0) (a_a (pv 2) (a_a (a_v a_M (c_Q GT hr rfl gT.mg gT.kp gT.b .nil a_u) (a_q a_I (a_q a_U (pv 1) a_e) a_e) (λ_ _=>rfl)) a_c))))))),?_⟩
  obtain⟨t,ht,e⟩:=g_f (c / 8);refine⟨_,rfl,_,_,rfl,rfl,(show (0:Int) < 8 by decide),_,_,rfl,rfl,_,rfl,rfl,_,rfl,?_⟩;refine a_z (λq=> ?_) (λq=> ?_)
  ·refine⟨_,rfl,_,rfl,rfl,λl H1 hl s1 d=>⟨_,rfl,_,_,rfl,rfl,⟨by decide,by decide⟩,_,_,rfl,rfl,(show (0:Int) < 6 by decide),l,_,_,_,rfl,rfl,SqL.of d,ht,by show 3<=sizeLine;decide,λa ha=> ?_⟩⟩
   exact k a ⟨n,1000000000000,t⟩ _ (s1.free ha) (s1.trans (Same.upd_new ha)) a_b rfl e
  ·refine⟨_,rfl,_,rfl,rfl,λl H1 hl s1 d=>⟨_,rfl,_,_,rfl,rfl,⟨by decide,by decide⟩,_,_,rfl,rfl,(show (0:Int) < 6 by decide),l,_,_,_,rfl,rfl,SqL.of d,ht,by show 3<=sizeLine;decide,λa ha=> ?_⟩⟩
   exact k a ⟨n,c % 8 - 3,t⟩ _ (s1.free ha) (s1.trans (Same.upd_new ha)) a_b rfl e
def h_M:Sp:=λvs H Q _=>∃n,vs= [.int n]/\∀H',Same H H'->Q (.int (far n)) H'
theorem n_A:a_s ["_law_number"] ["_law_number"] (a_m n_u):=⟨rfl,rfl,rfl,by decide+kernel,rfl,by decide+kernel,by decide+kernel⟩
theorem m_O {f:Addr} {fd:FuncData} (F:Fun K "_law_far" "_law_far" n_u f fd) (B:Bt mg):FnOk P w K mg base CX0 1 f fd ["_law_number"] h_M:=by
 refine F.ok n_A (λvs H Q E h=> ?_) (λcdv A outer s H vs Q E hr h=> ?_)
 ·obtain⟨n,rfl,_⟩:=h
  rfl
 ·obtain⟨n,rfl,k⟩:=h
  refine⟨_,a_f (a_n (a_v a_M (a_R (a_a (pv 0) (a_a (a_q g_a a_e a_e) (a_a (a_q b_N a_e (a_q g_a a_e a_e)) a_c))))
   (a_q a_J (a_K a_P (by rfl) B.int b_8 (a_a (b_J a_L (pv 0) a_e (a_o _)) a_c)) (a_q b_o a_e (a_K a_P (by rfl) B.int b_8 (a_a (b_J a_L (pv 0) a_e (a_o _)) a_c)))) (λ_ _=>rfl))),?_⟩
  refine⟨_,rfl,_,_,rfl,rfl,⟨by decide,by decide,by decide⟩,_,_,rfl,rfl,⟨by decide,by decide,by decide⟩,_,_,rfl,rfl,by show 3<=sizeLine;decide,λl hl=> ?_⟩;refine⟨_,rfl,rfl,.inr ⟨_,rfl,_,rfl,rfl,.inr ⟨_,rfl,_,_,rfl,rfl,.inr (g_B _),_,_,rfl,rfl,l,_,_,_,rfl,rfl,SqL.of a_b,l_Z n,k _ (Same.upd_new hl)⟩⟩⟩
def i_b:Sp:=λvs H Q _=>∃n,vs= [.int n]/\Q (.int (c_6 n)) H
theorem m_v:a_s ["_law_seed"] ["_law_seed"] (a_m l_J):=⟨rfl,rfl,rfl,by decide+kernel,rfl,by decide+kernel,by decide+kernel⟩
theorem l_G {f:Addr} {fd:FuncData} (F:Fun K "_law_step_by" "_law_step_by" l_J f fd) (B:Bt mg):FnOk P w K mg base CX0 1 f fd ["_law_seed"] i_b:=by
 refine F.ok m_v (λvs H Q E h=> ?_) (λcdv A outer s H vs Q E hr h=> ?_)
 ·obtain⟨n,rfl,_⟩:=h
  rfl
 ·obtain⟨n,rfl,k⟩:=h
  refine⟨_,a_f (a_n (a_q b_o (a_q b_o a_e (a_q a_I (a_q a_U (pv 0) a_e) (a_q g_a a_e a_e))) (a_K a_P (by rfl) B.int b_8 (a_a (b_J a_L (a_q a_I (pv 0) a_e) a_e (a_o _)) a_c)))),?_⟩;refine⟨_,rfl,_,_,rfl,rfl,⟨by decide,by decide⟩,_,_,rfl,rfl,⟨by decide,by decide,by decide⟩,_,_,rfl,rfl,(show (0:Int) < 10 ^ 27 by decide),_,_,rfl,rfl,.inl ⟨by decide,by decide⟩,?_⟩;exact⟨_,rfl,_,_,rfl,rfl,(show (0:Int) < 3 by decide),rfl,.inr ⟨_,rfl,_,_,rfl,rfl,.inr (g_B _),k⟩⟩
def c_p:Sp:=λvs H Q _=>∃n s,vs= [.int n,.int s]/\Q (.int (a_3 n s)) H
theorem j_b:a_s ["_law_number","_law_seed"] ["_law_number","_law_seed"] (a_m f_E):=⟨rfl,rfl,rfl,by decide+kernel,rfl,by decide+kernel,by decide+kernel⟩
theorem h_R {f fS:Addr} {fd fdS:FuncData} (F:Fun K "_law_raised" "_law_raised" f_E f fd) (B:Bt mg) (gS:Gf K mg "_law_step_by" fS fdS ["_law_seed"]) (GS:FnOk P w K mg base CX0 1 fS fdS ["_law_seed"] i_b):FnOk P w K mg base CX0 2 f fd ["_law_number","_law_seed"] c_p:=by
 refine F.ok j_b (λvs H Q E h=> ?_) (λcdv A outer s H vs Q E hr h=> ?_)
 ·obtain⟨n,s,rfl,_⟩:=h
  rfl
 ·obtain⟨n,sd,rfl,k⟩:=h
  refine⟨_,a_f (a_n (a_q a_J (pv 0) (a_q b_o (a_l GS hr rfl gS.mg gS.kp gS.b .nil a_u (a_a (pv 1) a_c)) (a_K a_P (by rfl) B.int b_8 (a_a (b_J g_O (pv 0) a_e (a_o _)) a_c))))),?_⟩;exact⟨_,rfl,_,rfl,_,rfl,_,rfl,_,_,rfl,rfl,.inr ⟨_,rfl,_,_,rfl,rfl,.inr (g_B _),_,_,rfl,rfl,k⟩⟩
def c_T:Sp:=λvs H Q _=>∃n s,vs= [.int n,.int s]/\∀r,Q (.int r) H
theorem i_T:a_s ["_law_rank","_law_seed"] ["_law_rank","_law_seed"] (a_m f_O):=⟨rfl,rfl,rfl,by decide+kernel,rfl,by decide+kernel,by decide+kernel⟩
theorem i_P {f fS:Addr} {fd fdS:FuncData} (F:Fun K "_law_ranked" "_law_ranked" f_O f fd) (B:Bt mg) (gS:Gf K mg "_law_step_by" fS fdS ["_law_seed"]) (GS:FnOk P w K mg base CX0 1 fS fdS ["_law_seed"] i_b):FnOk P w K mg base CX0 2 f fd ["_law_rank","_law_seed"] c_T:=by
 refine F.ok i_T (λvs H Q E h=> ?_) (λcdv A outer s H vs Q E hr h=> ?_)
 ·obtain⟨n,s,rfl,_⟩:=h
  rfl
 ·obtain⟨n,sd,rfl,k⟩:=h
  refine⟨_,a_f (a_n (a_q a_J (pv 0) (a_q b_o (a_l GS hr rfl gS.mg gS.kp gS.b .nil a_u (a_a (a_q a_U (pv 1) a_e) a_c)) (a_K a_P (by rfl) B.int b_8 (a_a (b_J g_O (pv 0) a_e (a_o _)) a_c))))),?_⟩;exact⟨_,rfl,_,rfl,_,_,rfl,rfl,⟨by decide,by decide⟩,_,rfl,_,rfl,_,_,rfl,rfl,.inr ⟨_,rfl,_,_,rfl,rfl,.inr (g_B _),_,_,rfl,rfl,k _⟩⟩
end
end K1
namespace L2
open PySem PySem.Spec PyProof.Rows
section
variable {X:Cx}
theorem tk {α:Type} {M:Model} {A:Around} {t:Sem α} {Q:α->Shared->Prop} {E:Value->Shared->Prop} {s:Shared} (h:wpAny M A t Q E s):wpAny M A t (λa s'=>s.toks<=s'.toks/\Q a s') E s:=wpAny_mono (wpAny_toks h) (λ_ _ x=>x) λ_ _ x=>x.2
def m_1 (X:Cx) (st:List Stmt) (t:TS):Prop:=∀(pins:List (Addr×Obj)) (s:Shared) (σ:St) (H:Hp) (D:e_y),Inv X pins σ H s->0 < s.toks->t D σ H->wpAny (model X.prog X.w) X.A (execs st X.env) (SP X pins D) X.xe s
def PS1 (X:Cx) (st:Stmt) (t:TS):Prop:=∀(pins:List (Addr×Obj)) (s:Shared) (σ:St) (H:Hp) (D:e_y),Inv X pins σ H s->0 < s.toks->t D σ H->wpAny (model X.prog X.w) X.A (exec st X.env) (SP X pins D) X.xe s
def PE1 (X:Cx) (e:Expr) (t:TE):Prop:=∀(pins:List (Addr×Obj)) (s:Shared) (σ:St) (H:Hp) (Q:VK),Inv X pins σ H s->0 < s.toks->t σ H Q->wpAny (model X.prog X.w) X.A (eval e X.env) (EP X pins σ Q) X.xe s
def f_6 (n:Nat) (u:Value):Prop:=∀x t,u= .str x t->n<=t
def PEF (X:Cx) (e:Expr) (t:TE):Prop:=∀(pins:List (Addr×Obj)) (s:Shared) (σ:St) (H:Hp) (Q:VK),Inv X pins σ H s->t σ H Q->wpAny (model X.prog X.w) X.A (eval e X.env) (λu s'=>f_6 s.toks u/\EP X pins σ Q u s') X.xe s
theorem PSs.one {st:List Stmt} {t:TS} (h:PSs X st t):m_1 X st t:=λpins s σ H D I _ q=>h pins s σ H D I q
theorem e_F {st:Stmt} {d_F:List Stmt} {t u:TS} (h1:PS1 X st t) (h2:m_1 X d_F u):m_1 X (st::d_F) (n_z t u):=by
 intro pins s σ H D I h0 h;refine wpAny_execs_cons (thn (tk (h1 pins s σ H { D with nx:=u D } I h0 h)) λf s1 ⟨le,q⟩=> ?_);cases f with
 | next=>
   obtain⟨σ',H',I',q⟩:=q;exact h2 pins s1 σ' H' D I' (o_4 h0 le) q
 | ret v=>exact q
 | brk=>exact q
 | cont=>exact q
theorem h_C {i:Nat} {x c:Str} {k:Nat} {pos pos' pc:Pos} {d_F:List Stmt} {u:TS} (hN:X.N.Nodup) (hi:X.N[i]? =some x) (hx:Loc X.env.scope x) (h2:m_1 X d_F u)
 (hs:swapsWith (.Constant (.str c) k pc) (some (.Name x pos')) pos.line X.env=pure false:=by rfl) (hf:X.fn x=true\/X.env.scope.names.lookup x=some .local:=by first | exact .inl rfl | exact .inr rfl | assumption):
 PSs X (.Assign [.Name x pos'] (.Constant (.str c) k pc) pos::d_F) (n_z (m_2 (tC (.str c)) (j_D i)) u):=by
 intro pins s σ H D I h;refine wpAny_execs_cons (wpAny_Assign_Name (Calls.Constant_str ?_) hs);refine thn (tk (c_S (v:= .str c) (Q:=λ_ s'=>∃σ' H',Inv X pins σ' H' s'/\u D σ' H') (I.tok (s.toks+1)) hN hi hx ⟨_,rfl⟩ (λs2 I2=>⟨_,H,I2,h⟩) hf)) λ_ s2 ⟨le,σ',H',I',q⟩=> ?_;exact h2 pins s2 σ' H' D I' (o_4 (Nat.succ_pos _) le) q
theorem h_5 {i:Nat} {x:Str} {e:Expr} {te:TE} {pos pos':Pos} (hN:X.N.Nodup) (hi:X.N[i]? =some x) (hx:Loc X.env.scope x) (he:PE1 X e te) (hs:swapsWith e (some (.Name x pos')) pos.line X.env=pure false:=by rfl) (hf:X.fn x=true\/X.env.scope.names.lookup x=some .local:=by first | exact .inl rfl | exact .inr rfl | assumption):
 PS1 X (.Assign [.Name x pos'] e pos) (m_2 te (j_D i)):=by
 intro pins s σ H D I h0 h;refine wpAny_Assign_Name (thn (he pins s σ H _ I h0 h) λv s1 ⟨y,H1,I1,r1,q1⟩=> ?_) hs;exact c_S I1 hN hi hx r1 (λs2 I2=>⟨_,H1,I2,q1⟩) hf
theorem k_G {a b:Expr} {ta tb:TE} {pos:Pos} (ha:PE X a ta) (hb:PE X b tb) (hs:f_A b):PEF X (.Subscript a b pos) (tOp o_w ta tb):=by
 intro pins s σ H Q I h;refine Subscript_ (thn (tk (ha pins s σ H _ I h)) λv s1 ⟨l1,x,H1,I1,r1,q1⟩=>thn (tk (hb pins s1 σ H1 _ I1 q1)) λu s2 ⟨l2,y,H2,I2,r2,q2⟩=> ?_);obtain⟨z,i,c,rfl,rfl,hz,he,q⟩:=q2;obtain⟨t,rfl⟩:=r1;obtain⟨t',rfl⟩:=r2;obtain⟨j,h1,h2,h3,h4,h5⟩:=f_Z he;have hl:z.cps.toList.length=z.length:=by simp[Str.length]
 rw[hl] at h1 h4 h5;have hn:=c_9
 exact tail_any (typeIs_str s2 z t) slot_str_getitem.lookup (getItem_str (c:=c) (by
  have e1:decide (i < -(2 ^ 63:Int))=false:=p_v (by omega);have e2:decide (i ≥ 2 ^ 63)=false:=p_v (by omega);rw[e1,e2,Bool.or_false]) (by rw[h1];simpa using h2) ⟨λx t e=>by cases e;omega,.str ⟨#[c]⟩,H2,I2.tok _,⟨_,rfl⟩,q⟩) (hs _ _)
theorem i_H (x:Str):∀(n:Nat) (acc:Array Nat),((List.replicate n x.cps).foldl (·++·) acc).size=acc.size+x.length * n
 | 0,acc=>by simp
 | n+1,acc=>by
   rw[List.replicate_succ,List.foldl_cons,i_H x n];have e:x.length=x.cps.size:=rfl;simp only[Array.size_append,Nat.mul_succ];omega
def n_C:R2:=λx y H Q=>∃z n,x= .str z/\y= .int n/\1<=n/\n<=1000/\z.length<=1000/\∀z':Str,z'.length<=z.length * n.toNat->Q (.str z') H
theorem k_9 {a b:Expr} {ta tb:TE} {pos:Pos} (ha:PEF X a ta) (hb:PE X b tb):PEF X (.BinOp a .Mult b pos) (tOp n_C ta tb):=by
 intro pins s σ H Q I h;refine wpAny_BinOp (thn (tk (ha pins s σ H _ I h)) λv s1 ⟨l1,n1,x,H1,I1,r1,q1⟩=>thn (tk (hb pins s1 σ H1 _ I1 q1)) λu s2 ⟨l2,y,H2,I2,r2,q2⟩=> ?_);obtain⟨z,n,rfl,rfl,d,f,hz,q⟩:=q2;obtain⟨t,rfl⟩:=r1;obtain⟨t',rfl⟩:=r2;have hm:z.length * n.toNat<=1000 * 1000:=Nat.mul_le_mul hz (by omega);refine PySem.P.mul_str ?_ (λ_ _=> ?_) (λ_ _=> ?_) ?_
 ·have e1:decide (n < -(2 ^ 63:Int))=false:=p_v (by omega)
  have e2:decide (n ≥ 2 ^ 63)=false:=p_v (by omega);rw[e1,e2,Bool.or_false]
 ·intro c
  have h1:(z.length:Int) * n < 2 ^ 63 - 1:=by
   have:((z.length * n.toNat:Nat):Int)<=1000 * 1000:=by exact_mod_cast hm
   rw[Int.natCast_mul] at this;have e:((n.toNat:Nat):Int)=n:=by omega
   rw[e] at this;omega
  have h2:(z.length:Int)<=(2 ^ 63 - 1) / n:=(Int.le_ediv_iff_mul_le (by omega)).mpr (by omega);omega
 ·unfold PySem.Builtin.Str.tooLong
  refine p_v ?_;have:(1000 * 1000:Nat) < sizeLine:=by decide
  omega
 ·rw[if_neg (by omega)]
  by_cases c:(n == 1||z.length == 0)=true
  ·rw[if_pos c]
   refine⟨λx t e=>by cases e;exact n1 _ _ rfl,.str z,H2,I2,⟨_,rfl⟩,q z ?_⟩;exact Nat.le_mul_of_pos_right _ (by omega)
  ·rw[if_neg c]
   have hl:(⟨(List.replicate n.toNat z.cps).foldl (·++·) #[]⟩:Str).length=z.length * n.toNat:=by
    show ((List.replicate n.toNat z.cps).foldl (·++·) #[]).size=_;rw[i_H];simp
   refine⟨?_, λx t e=>by cases e;omega,.str _,H2,I2.tok _,⟨_,rfl⟩,q _ (Nat.le_of_eq hl)⟩;rw[hl];exact o_9 hm (by decide)
def m_Q (z1 z2 z3:Str) (tb:TE):TE:=λσ H Q=>tb σ H λy H1=>∃i,y= .int i/\0<=i/\i < 3/\Q (.str z1) H1/\Q (.str z2) H1/\Q (.str z3) H1
theorem i_C {z1 z2 z3:Str} {k1 k2 k3:Nat} {p1 p2 p3 pl pos:Pos} {b:Expr} {tb:TE} (hb:PE X b tb) (hs:f_A b):
 PEF X (.Subscript (.List [.Constant (.str z1) k1 p1,.Constant (.str z2) k2 p2,.Constant (.str z3) k3 p3] pl) b pos) (m_Q z1 z2 z3 tb):=by
 intro pins s σ H Q I h;refine Subscript_ (wpAny_List_spliced ?_);refine Calls.spliced_cons (Calls.Constant_str (k:=k1) (pos:=p1) (Calls.spliced_cons (Calls.Constant_str (k:=k2) (pos:=p2) (Calls.spliced_cons (Calls.Constant_str (k:=k3) (pos:=p3) (Calls.spliced_nil ⟨by show 3<=sizeLine;decide,?_⟩))))));let o:Obj:={ cls:= .type "list",data:= .seq [Value.str z1 s.toks,Value.str z2 (s.toks+1),Value.str z3 (s.toks+1+1)].toArray };have I1:Inv X pins σ H { s with heap:=s.heap.push o,toks:=s.toks+1+1+1 }:=I.kept λb u e=>Heap.get?_push_of_some _ e;have hg:(s.heap.push o).get? s.heap.objs.size=some o:=Heap.get?_push_size _ rfl
 have I2:Inv X (pins++ [(s.heap.objs.size,o)]) σ H { s with heap:=s.heap.push o,toks:=s.toks+1+1+1 }:=I1.pins_of λp hp=>(o_6.mp hp).elim (λz=>I1.pin p (o_1 _ z)) λz=>by
  obtain rfl:p=(s.heap.objs.size,o):=by simpa using z
  exact⟨hg,I.hok.fresh (o_X _),Nat.ne_of_gt I.lt,I.nofs (o_X _),λv e=>nomatch e⟩
 refine thn (hb _ _ σ H _ I2 h) λu s2 ⟨y,H2,I3,r2,q2⟩=> ?_;obtain⟨i,rfl,h0,h3,qa,qb,qc⟩:=q2;obtain⟨t',rfl⟩:=r2;have pO:=(I3.pin (s.heap.objs.size,o) (by simp)).1;have hL:s2.heap.IsList s.heap.objs.size [Value.str z1 s.toks,Value.str z2 (s.toks+1),Value.str z3 (s.toks+1+1)].toArray:=⟨o,pO,rfl,_,rfl⟩;have I4:=I3.unpinned;rcases (show i=0\/i=1\/i=2 by omega) with rfl | rfl | rfl
 ·exact item_listR (Q:=λu s'=>f_6 s.toks u/\EP X pins σ Q u s') hL (by decide) (by decide) rfl ⟨λx t e=>by cases e;omega,.str z1,H2,I4,⟨_,rfl⟩,qa⟩ (hs _ _)
 ·exact item_listR (Q:=λu s'=>f_6 s.toks u/\EP X pins σ Q u s') hL (by decide) (by decide) rfl ⟨λx t e=>by cases e;omega,.str z2,H2,I4,⟨_,rfl⟩,qb⟩ (hs _ _)
 ·exact item_listR (Q:=λu s'=>f_6 s.toks u/\EP X pins σ Q u s') hL (by decide) (by decide) rfl ⟨λx t e=>by cases e;omega,.str z3,H2,I4,⟨_,rfl⟩,qc⟩ (hs _ _)
def n_f (m:Nat) (to te:TE):TE:=λσ H Q=>to σ H λx H1=>∃xs,x= .str xs/\te σ H1 λz H2=>∃zs,z= .str zs/\xs.length+(xs.length+1) * zs.length<=m/\m<=16777216/\∀r:Str,r.length<=m->Q (.str r) H2
theorem i_Z {x y z:Str} {m:Nat} (h:x.length+(x.length+1) * z.length<=m):(Txt.replace x y z).length<=m:=by
 unfold Txt.replace;split
 ·omega
 ·have h1:=StrLaws.occ_length_le x y 0 x.length (x.length+1)
  have hy:(Builtin.Str.glued y (Builtin.Str.partsBetween x (Builtin.Str.occurrences x y 0 x.length (x.length+1)) y.length)).length=x.length:=by rw[StrLaws.glued_between_self]
  rw[size_glued,length_partsBetween,Nat.add_sub_cancel] at hy;rw[size_glued,length_partsBetween,Nat.add_sub_cancel];have h2:(Builtin.Str.occurrences x y 0 x.length (x.length+1)).length * z.length<=(x.length+1) * z.length:=Nat.mul_le_mul_right _ h1;omega
theorem d_y {m:Nat} {o e:Expr} {to te:TE} {c:Str} {k:Nat} {apos cpos pc:Pos} (nb:PySem.W.nsIn X.K cStatics sharingNotToldKey=some none) (ho:PE X o to) (he:PEF X e te)
 (hbase:attributeBase o "replace" X.env (eval o X.env)=eval o X.env:=by rfl)
 (hfew:((backTo cpos (starEach [.Constant (.str c) k pc,e] X.env)).all (fun x=> !x.1)&&(backToKw cpos (keywordEach [] X.env)).all (fun x=>x.1.isSome)
   &&decide (([.Constant (.str c) k pc,e]:List Expr).length+([]:List Keyword).length+(if ([]:List Keyword).isEmpty then 0 else 1) < 30))=true:=by rfl)
 (hline:(apos.endLine == cpos.line)=true:=by rfl) (hs:starEach [.Constant (.str c) k pc,e] X.env= [(false,eval (.Constant (.str c) k pc) X.env),(false,eval e X.env)]:=by rfl):
 PE1 X (.Call (.Attribute o "replace" apos) [.Constant (.str c) k pc,e] [] cpos) (n_f m to te):=by
 intro pins s σ H Q I h0 h;refine wpAny_Call_method_late hbase hfew hline rfl (thn (tk (ho pins s σ H _ I h)) λv s1 ⟨l1,x,H1,I1,r1,xs,ex,q1⟩=> ?_);subst ex;obtain⟨t,rfl⟩:=r1;refine⟨"str",_,F.plainAttrs_str,F.slot_str_replace,F.type_str_replace,typeIs_str _ _ _,(λ_ e=>nomatch e),?_⟩;rw[hs];refine Calls.callWith_builtin rfl (Calls.evalArgs_plain (Calls.spliced_cons (Calls.Constant_str (k:=k) (pos:=pc) (Calls.spliced_cons ?_))));refine thn (he pins _ σ H1 _ (I1.tok _) q1) λu s2 ⟨n2,z,H2,I2,r2,zs,ez,hb,hm,q2⟩=> ?_;subst ez;obtain⟨t2,rfl⟩:=r2;have hn:=n2 _ _ rfl;refine Calls.spliced_nil ?_
 have NB:NoneBooked s2.heap:=by
  obtain⟨mc,h1,_⟩:=I2.nolimit;exact⟨mc,h1,PySem.W.ns_none_of I2.kIn h1 nb⟩
 have a1:0 < s1.toks:=o_4 h0 l1;have a2:s1.toks < t2:=hn;exact SC.replaceA (Nat.ne_of_gt a1) (Nat.ne_of_gt (Nat.lt_trans a1 a2)) (p_c a2) (o_9 hb hm) (λt' k=>⟨.str _,H2,I2.tok _,⟨_,rfl⟩,q2 _ (i_Z hb)⟩) NB
def o_t:V->Option Int->Option Int->Hp->VK->Prop:=λx lo hi H Q=>∃z j,x= .str z/\lo=none/\hi=some j/\z.length<=sizeLine/\∀r:Str,r.length<=z.length->Q (.str r) H
theorem k_t:SlR X o_t:=by
 intro pins s σ H x v vl vu lo hi sl Q I rx hs pl pu h;obtain⟨z,j,rfl,rfl,rfl,hz,q⟩:=h;obtain⟨t,rfl⟩:=rx;cases pl;cases pu with
 | int _ u=>
   obtain⟨o,ho,h1,h2⟩:=hs;refine⟨"str",_,F.slot_str_getitem.lookup,typeIs_str _ _ _,wpAny_getItem_str_slice (l:=none) (u:=some (j,u)) (st:=none) ⟨o,ho,h1,h2⟩ rfl (post_val_or_str ⟨o_9 (Txt.slice_le z _ _) hz,λt' k=> ?_⟩)⟩;exact⟨.str _,H,I.tok _,⟨_,rfl⟩,q _ (Txt.slice_le z _ _)⟩
end
end L2
namespace K1
open PySem L2 TO
theorem l_R (z:Str) (h:0 < z.length) (i:Int):∃c,atI z.cps.toList (i % (z.length:Int))=some c:=by
 have h1:=Int.emod_nonneg i (show (z.length:Int)≠0 by omega);have h2:=Int.emod_lt_of_pos i (show (0:Int) < (z.length:Int) by omega);obtain⟨j,hj⟩:∃j:Nat,i % (z.length:Int)=(j:Int):=⟨(i % (z.length:Int)).toNat,by omega⟩;have hl:z.cps.toList.length=z.length:=by simp[Str.length]
 rw[hj];exact⟨_,a_g (o_P (by omega))⟩
section
variable {P:Program} {w:World} {K:PySem.W.Frag} {mg:Str->Option Value} {base:Heap}
def c_Y:Sp:=λvs H Q _=>∃(t:Str) (s:Int),vs= [.str t,.int s]/\t.length<=2/\∀(t':Str) (H':Hp),Same H H'->Q (.str t') H'
theorem c_U:a_s ["_law_letters","_law_seed","_law_signs","_law_made"] ["_law_letters","_law_seed"] (a_m f_w):=⟨rfl,rfl,rfl,by decide+kernel,rfl,by decide+kernel,by decide+kernel⟩
theorem i_r {f:Addr} {fd:FuncData} (F:Fun K "_law_signed" "_law_signed" f_w f fd) (B:Bt mg) (nb:PySem.W.nsIn K cStatics sharingNotToldKey=some none):FnOk P w K mg base CX0 1 f fd ["_law_letters","_law_seed"] c_Y:=by
 refine F.ok c_U (λvs H Q E h=> ?_) (λcdv A outer s H vs Q E hr h=> ?_)
 ·obtain⟨t,s,rfl,_⟩:=h
  rfl
 ·obtain⟨t,sd,rfl,ht,k⟩:=h
  refine⟨_,h_C (i:=2) c_U.nd rfl (Or.inl rfl)
   (e_F (h_5 (i:=3) c_U.nd rfl (Or.inl rfl) (d_y (m:=29) nb (pv 0) (k_9 (k_G (pv 2) (a_q a_I (pv 1) (a_r f_i (by rfl) B.len p_x (a_a (pv 2) a_c))) (λ_ _=>rfl)) (a_q a_J a_e (a_q a_I (a_q a_U (pv 1) a_e) a_e)))))
   (e_F (h_5 (i:=3) c_U.nd rfl (Or.inl rfl) (d_y (m:=119) nb (pv 3) (i_C (a_q a_I (a_q a_U (pv 1) a_e) a_e) (λ_ _=>rfl))))
   (PSs.one (a_d (a_B (PW.pt (d_I (a_k a_L (pv 3) a_j (a_o _)) (b_9 (a_k a_L (a_q a_I (a_q a_U (pv 1) a_e) a_e) a_e (a_o _))))) (a_f (a_n (pv 3))) a_p)
   (a_f (a_n (a_q d_L (a_q d_L (c_u k_t a_j d_i (d_D (a_q a_I (a_q a_U (pv 1) a_e) a_e))) (pv 3)) (c_u k_t a_j d_i (d_D (a_q a_I (a_q a_U (pv 1) a_e) a_e)))))))))),?_⟩
  have e9:=Int.emod_nonneg (sd / 100) (show (9:Int)≠0 by decide);have l9:=Int.emod_lt_of_pos (sd / 100) (show (0:Int) < 9 by decide);have e3:=Int.emod_nonneg (sd / 900) (show (3:Int)≠0 by decide);have l3:=Int.emod_lt_of_pos (sd / 900) (show (0:Int) < 3 by decide);refine⟨_,rfl,t,rfl,_,rfl,_,rfl,_,rfl,_,rfl,by decide+kernel,_,_,rfl,rfl,(by show (0:Int) < _;decide+kernel),?_⟩;refine⟨_,_,_,rfl,rfl,by decide+kernel,Classical.choose_spec (l_R _ (by decide+kernel) sd),_,rfl,_,_,rfl,rfl,⟨by decide,by decide⟩,_,_,rfl,rfl,(show (0:Int) < 9 by decide),_,_,rfl,rfl,_,_,rfl,rfl,by omega,by omega,(show 1<=1000 by decide),λz' c=>⟨z',rfl,?_, by decide,λr g=> ?_⟩⟩
  ·have d:z'.length≤9:=by
    have:z'.length<=1 * (1+sd / 100 % 9).toNat:=c;omega
   have:(t.length+1) * z'.length<=3 * 9:=Nat.mul_le_mul (by omega) d;omega
  have a:∀z3:Str,z3.length<=3->r.length+(r.length+1) * z3.length<=119:=λz3 h3=>by
   have:(r.length+1) * z3.length<=30 * 3:=Nat.mul_le_mul (by omega) h3;omega
  have hm:∀m:Str,m.length<=119->m.length<=119:=λ_ h=>h;refine⟨_,rfl,r,rfl,_,rfl,_,_,rfl,rfl,⟨by decide,by decide⟩,_,_,rfl,rfl,(show (0:Int) < 3 by decide),_,rfl,e3,l3,⟨_,rfl,a _ (by decide+kernel),by decide,?_⟩,⟨_,rfl,a _ (by decide+kernel),by decide,?_⟩,⟨_,rfl,a _ (by decide+kernel),by decide,?_⟩⟩
  all_goals
   intro m hm;refine⟨_,rfl,rfl,_,rfl,?_⟩;refine a_z (λq=>⟨_,rfl,k m H (Same.refl H)⟩) (λq=> ?_);refine⟨_,rfl,_,_,rfl,rfl,⟨by decide,by decide⟩,_,_,rfl,rfl,(show (0:Int) < 2 by decide),rfl,_,rfl,?_⟩;refine a_z (λq=>⟨_,rfl,k m H (Same.refl H)⟩) (λq=> ?_);refine⟨_,rfl,_,_,rfl,rfl,⟨by decide,by decide⟩,_,_,rfl,rfl,(show (0:Int) < 5 by decide),_,rfl,_,_,rfl,rfl,rfl,by decide+kernel,λr1 h1=> ?_⟩;have e:r1.length<=1000:=o_9 h1 (by decide+kernel);refine⟨_,rfl,_,_,rfl,rfl,o_9 (Nat.add_le_add e hm) (by decide),?_⟩;refine⟨_,rfl,_,_,rfl,rfl,⟨by decide,by decide⟩,_,_,rfl,rfl,(show (0:Int) < 4 by decide),_,rfl,_,_,rfl,rfl,rfl,by decide+kernel,λr2 h2=>⟨_,_,rfl,rfl,?_, k _ H (Same.refl H)⟩⟩;have j:r2.length<=1000:=o_9 h2 (by decide+kernel)
   have b:(r1++m).length=r1.length+m.length:=by
    show (r1.cps++m.cps).size=_;rw[Array.size_append];rfl
   rw[b];have:(1000+119+1000:Nat)<=sizeLine:=by decide
   omega
def f_F:Sp:=λvs H Q _=>∃(a:Addr) (ρ:Row) (s:Int),vs= [.ref a,.int s]/\RowAt H a ρ/\ρ.t.length<=2/\∀(b:Addr) (ρ':Row) (H':Hp),H b=none->Same H H'->RowAt H' b ρ'->ρ'.n=a_3 ρ.n s->Q (.ref b) H'
theorem i_I:a_s ["_law_row","_law_seed","_law_number"] ["_law_row","_law_seed"] (a_m h_H):=⟨rfl,rfl,rfl,by decide+kernel,rfl,by decide+kernel,by decide+kernel⟩
theorem j_L {f fR fK fS:Addr} {fd fdR fdK fdS:FuncData} (F:Fun K "_law_row_moved" "_law_row_moved" h_H f fd) (gR:Gf K mg "_law_raised" fR fdR ["_law_number","_law_seed"]) (GR:FnOk P w K mg base CX0 2 fR fdR ["_law_number","_law_seed"] c_p)
 (gK:Gf K mg "_law_ranked" fK fdK ["_law_rank","_law_seed"]) (GK:FnOk P w K mg base CX0 2 fK fdK ["_law_rank","_law_seed"] c_T) (gS:Gf K mg "_law_signed" fS fdS ["_law_letters","_law_seed"]) (GS:FnOk P w K mg base CX0 1 fS fdS ["_law_letters","_law_seed"] c_Y):
 FnOk P w K mg base CX0 3 f fd ["_law_row","_law_seed"] f_F:=by
 refine F.ok i_I (λvs H Q E h=> ?_) (λcdv A outer s H vs Q E hr h=> ?_)
 ·obtain⟨a,ρ,s,rfl,_⟩:=h
  rfl
 ·obtain⟨a,ρ,sd,rfl,ha,ht,k⟩:=h
  have c:Room 1 _:=hr.mono (by decide)
  refine⟨_,a_d (a_w (i:=2) i_I.nd rfl (Or.inl rfl) (a_l GR hr rfl gR.mg gR.kp gR.b .nil a_u (a_a (a_v a_t (pv 0) a_e (λ_ _=>rfl)) (a_a (pv 1) a_c))))
   (a_f (a_n (a_A (a_a (pv 2) (a_a (a_l GK hr rfl gK.mg gK.kp gK.b .nil a_u (a_a (a_v a_t (pv 0) a_e (fun _ _=>rfl)) (a_a (pv 1) a_c)))
     (a_a (a_l GS c rfl gS.mg gS.kp gS.b .nil a_u (a_a (a_v a_t (pv 0) a_e (λ_ _=>rfl)) (a_a (pv 1) a_c))) a_c)))))),?_⟩
  refine⟨_,rfl,a,_,_,_,rfl,rfl,SqT.of ha,a_g (j:=0) rfl,_,rfl,_,_,rfl,?_⟩;refine⟨_,rfl,_,rfl,a,_,_,_,rfl,rfl,SqT.of ha,a_g (j:=1) rfl,_,rfl,_,_,rfl,λrk=> ?_⟩;refine⟨_,rfl,a,_,_,_,rfl,rfl,SqT.of ha,a_g (j:=2) rfl,_,rfl,_,_,rfl,ht,λt' H1 s1=> ?_⟩;refine⟨by show 3<=sizeLine;decide,λb hb=> ?_⟩;exact k b ⟨a_3 ρ.n sd,rk,t'⟩ _ (s1.free hb) (s1.trans (Same.upd_new hb)) a_b rfl
end
structure Mov (H H':Hp) (f:List Addr):Prop where
 keep:∀b u,H b=some u->b∉f->H' b=some u
 lst:∀b∈f,∀u,H b=some u->∃xs,u= .lst xs
theorem Mov.upd {H:Hp} {a:Addr} {xs ys:List V} (h:H a=some (.lst xs)):Mov H (upd H a (.lst ys)) [a]:=⟨λb u hb hn=>by
 rw[a_i (λe=>hn (by rw[e];exact o_T.mpr rfl))];exact hb,λb hb u hu=>by
 rw[o_T.mp hb,h] at hu;exact⟨xs,(o_V hu).symm⟩⟩
section
variable {H H' H0:Hp} {f:List Addr}
theorem Mov.tup (m:Mov H H' f) {b:Addr} {xs:List V} (h:H b=some (.tup xs)):H' b=some (.tup xs):=m.keep b _ h λhb=>by
 obtain⟨ys,e⟩:=m.lst b hb _ h;cases e
theorem Mov.same (m:Mov H H' f) (s:Same H0 H) (hf:∀b∈f,H0 b=none):Same H0 H':=λb u hb=>m.keep b u (s b u hb) λhm=>by
 rw[hf b hm] at hb;cases hb
end
section
variable {C:Addr} {w:Bool} {H0 H H':Hp} {o bl o2 bl2 th hf ol ke:Addr} {bas bas2 ls ks:List Addr} {B B2:List (List Row)} {ρs κs:List Row}
end
end K1
namespace TO
open PySem L2
inductive Chg where
 | bring (ρ:Row)
 | alter (ρ:Row)
 | cut (n:Int)
inductive Deed where
 | chg (c:Chg)
 | all (cs:List Chg)
 | begin
 | keep
 | brk
 | row (n:Int)
 | within (w:Str) (lo hi:V)
 | both (lo hi:Int) (t:Str)
 | from (w:Str) (k m:Int)
 | spot (w:Str) (n:Int)
def b_g (l:List Row) (n:Int):Bool:=l.any λx=>decide (x.n=n)
def b_Y (l:List Row) (n:Int):Option Row:=l.find? λx=>decide (x.n=n)
def b_P (l:List Row) (ρ:Row):List Row:=if b_g l ρ.n=true then l.map λx=>if x.n=ρ.n then ρ else x else l++ [ρ]
def a_Z (l:List Row) (n:Int):List Row:=l.filter λx=>decide (x.n≠n)
def b_p (room:Int) (l:List Row):Chg->List Row×Str
 | .bring ρ=>if b_g l ρ.n=true then (l,"taken") else if room<=(l.length:Int) then (l,"full") else (b_P l ρ,"done")
 | .alter ρ=>if b_g l ρ.n=true then (b_P l ρ,"done") else (l,"missing")
 | .cut n=>if b_g l n=true then (a_Z l n,"done") else (l,"missing")
def l_k (room:Int) (l0:List Row):Nat->List Row->List Chg->List Row×D
 | _,l, []=>(l,.str "done")
 | i,l,c::r=>let p:=b_p room l c;if p.2="done" then l_k room l0 (i+1) p.1 r else (l0,.tup [.int (i:Int),.str p.2])
def n_9 (w:Bool) (ρ:Row):List Row->List Row
 | []=> [ρ]
 | x::r=>if ltR w x ρ=true then x::n_9 w ρ r else ρ::x::r
def i_6 (w:Bool):List Row->List Row
 | []=> []
 | x::r=>n_9 w x (i_6 w r)
def d_d (x:Str):Option Bool:=if x="rank" then some false else if x="text" then some true else none
def n_1 (w:Bool) (lo hi:V) (x:Row):Bool:= !ltV (g_l w x) lo&& !ltV hi (g_l w x)
def i_U (l:List Row):D:= .lst (l.map j_k)
def o_N (l:List Row):Deed->D
 | .row n=>match b_Y l n with
   | some ρ=>j_k ρ
   | none=> .str "missing"
 | .both lo hi t=>i_U (((i_6 false l).filter λx=>decide (x.t=t)).filter (n_1 false (.int lo) (.int hi)))
 | .within x lo hi=>match d_d x with
   | some w=>i_U ((i_6 w l).filter (n_1 w lo hi))
   | none=> .str "no order"
 | .from x k m=>match d_d x with
   | some w=>i_U ((i_6 w l).zipIdx.filterMap λp=>if k<=(p.2:Int)/\(p.2:Int)<=k+m - 1 then some p.1 else none)
   | none=> .str "no order"
 | .spot x n=>match d_d x with
   | some w=>(match b_Y l n with
     | some ρ=> .int ((l.filter λy=>ltR w y ρ).length:Nat)
     | none=> .str "missing")
   | none=> .str "no order"
 | _=> .str "nothing"
structure Sto where
 kept:List Row
 marks:List (List Row)
def Sto.step (room:Int) (s:Sto):Deed->Sto×D
 | .chg c=>({ s with kept:=(b_p room s.kept c).1 },.str (b_p room s.kept c).2)
 | .all cs=>({ s with kept:=(l_k room s.kept 0 s.kept cs).1 },(l_k room s.kept 0 s.kept cs).2)
 | .begin=>({ s with marks:=s.kept::s.marks },.str "done")
 | .keep=>match s.marks with
   | []=>(s,.str "not begun")
   | _::r=>({ s with marks:=r },.str "done")
 | .brk=>match s.marks with
   | []=>(s,.str "not begun")
   | m::r=>(⟨m,r⟩,.str "done")
 | d=>(s,o_N s.kept d)
def Sto.run (room:Int) (s:Sto):List Deed->Sto×List D
 | []=>(s, [])
 | d::r=>let p:=s.step room d;let q:=p.1.run room r;(q.1,p.2::q.2)
theorem b_l {l:List Row} {n:Int}:b_g l n=true↔∃x∈l,x.n=n:=by simp[b_g]
theorem f_f {l:List Row} {ρ:Row} (h:(l.map (·.n)).Nodup):((b_P l ρ).map (·.n)).Nodup:=by
 unfold b_P;split
 ·have e:(l.map fun x=>if x.n=ρ.n then ρ else x).map (·.n)=l.map (·.n):=by
   rw[List.map_map];apply List.map_congr_left;intro x _;show (if x.n=ρ.n then ρ else x).n=x.n;split
   ·rename_i c;exact c.symm
   ·rfl
  rw[e];exact h
 ·rename_i c
  rw[o_W,List.nodup_append];refine⟨h,by simp,λa ha b hb e=>c ?_⟩;simp at hb;obtain⟨x,hx,ex⟩:=p_j.mp ha;exact b_l.mpr ⟨x,hx,ex.trans (e.trans hb)⟩
theorem d_K {l:List Row} {n:Int} (h:(l.map (·.n)).Nodup):((a_Z l n).map (·.n)).Nodup:=((List.filter_sublist.map _).nodup h)
theorem e_U {room:Int} {l:List Row} {c:Chg} (h:(l.map (·.n)).Nodup):((b_p room l c).1.map (·.n)).Nodup:=by
 cases c <;> unfold b_p <;> (repeat' split) <;> first | exact h | exact f_f h | exact d_K h
def ChgAt (H:Hp) (a:Addr):Chg->Prop
 | .bring ρ=>∃r,H a=some (.tup [.str "bring",.ref r])/\RowAt H r ρ
 | .alter ρ=>∃r,H a=some (.tup [.str "alter",.ref r])/\RowAt H r ρ
 | .cut n=>H a=some (.tup [.str "cut",.int n])
def DeedAt (H:Hp) (a:Addr):Deed->Prop
 | .chg c=>ChgAt H a c
 | .all cs=>∃l,∃as:List Addr,H a=some (.tup [.str "all",.ref l])/\H l=some (.lst (as.map V.ref))/\Paired (ChgAt H) as cs
 | .begin=>H a=some (.tup [.str "begin"])
 | .keep=>H a=some (.tup [.str "keep"])
 | .brk=>H a=some (.tup [.str "break"])
 | .row n=>H a=some (.tup [.str "row",.int n])
 | .within x lo hi=>H a=some (.tup [.str "within",.str x,lo,hi])
 | .both lo hi t=>H a=some (.tup [.str "both",.int lo,.int hi,.str t])
 | .from x k m=>H a=some (.tup [.str "from",.str x,.int k,.int m])
 | .spot x n=>H a=some (.tup [.str "spot",.str x,.int n])
abbrev g_J (n:Int):Prop:=n.natAbs.log2 < 1920
abbrev Sm (n:Int):Prop:= -10000000000000000000000000<=n/\n<=10000000000000000000000000
theorem e_i {n:Int} (h1: -100000000000000000000000000000000<=n) (h2:n<=100000000000000000000000000000000):g_J n:=by
 have h:n.natAbs < 2 ^ 1920:=p_t (show n.natAbs<=100000000000000000000000000000000 by omega) (by decide+kernel);by_cases e:n.natAbs=0
 ·show n.natAbs.log2 < 1920
  rw[e];decide
 ·exact (Nat.log2_lt e).mpr h
def c_t (x:Str):Prop:=x="rank"\/x="text"\/x="ranks"
def BL:List Int:=(List.range 27).map (λi:Nat=>K1.far ((i:Int) - 1))++(List.range 13).map λi:Nat=>100+(i:Int)
def ML (sd:Int):List Int:=BL.map λb=>K1.a_3 b sd
theorem e_A {n:Int} (h1: -1<=n) (h2:n<=25):K1.far n∈BL:=by
 refine p_n _ (p_j.mpr ⟨(n+1).toNat,List.mem_range.mpr (by omega),?_⟩);congr 1;omega
theorem e_K (n:Int):K1.far n=n\/K1.far n=10 ^ 20\/K1.far n=0 - 10 ^ 20:=by
 unfold K1.far
 repeat' split
 all_goals simp
theorem n_x {n:Int} (h:n∈BL):Sm n:=by
 rcases o_6.mp h with q | q
 ·obtain⟨i,hi,e⟩:=p_j.mp q
  have:=List.mem_range.mp hi
  rcases e_K ((i:Int) - 1) with z | z | z <;> rw[z] at e <;> constructor <;> omega
 ·obtain⟨i,hi,e⟩:=p_j.mp q
  have:=List.mem_range.mp hi
  constructor <;> omega
theorem g_u {n:Int} (h1: -1000<=n) (h2:n<=1000):Sm (K1.far n):=by
 rcases e_K n with z | z | z <;> rw[z] <;> constructor <;> omega
theorem b_s {n sd:Int} (h:Sm n):g_J (K1.a_3 n sd):=by
 obtain⟨h1,h2⟩:=h
 have hs:0<=K1.c_6 sd/\K1.c_6 sd<=1000000000000000000000000000000:=by
  unfold K1.c_6 K1.i1
  split <;> omega
 obtain⟨h3,h4⟩:=hs
 have:K1.a_3 n sd=n\/K1.a_3 n sd=n+K1.c_6 sd:=by
  unfold K1.a_3 K1.i1;split
  ·right;omega
  ·left;omega
 rcases this with e | e <;> rw[e] <;> exact e_i (by omega) (by omega)
theorem f_S {n sd:Int} (h:n∈ML sd):g_J n:=by
 obtain⟨b,hb,e⟩:=p_j.mp h;rw[<-e];exact b_s (n_x hb)
theorem f_5 {b sd:Int} (h:b∈BL):K1.a_3 b sd∈ML sd:=p_j.mpr ⟨b,h,rfl⟩
theorem m_u (sd:Int):(ML sd).length=40:=by simp[ML,BL]
def Chg.short:Chg->Prop
 | .bring ρ=>ρ.t.length<=2/\ρ.n∈BL
 | .alter ρ=>ρ.t.length<=2/\ρ.n∈BL
 | .cut n=>n∈BL
def Chg.tell (sd:Int):Chg->Prop
 | .bring ρ=>ρ.n∈ML sd
 | .alter ρ=>ρ.n∈ML sd
 | .cut n=>n∈ML sd
def Deed.tell (sd:Int):Deed->Prop
 | .chg c=>c.tell sd
 | .all cs=>∀c∈cs,c.tell sd
 | .row n=>g_J n
 | .spot _ n=>g_J n
 | _=>True
def b_O (x:Str) (lo hi:V):Prop:=if x="text" then ∃s t,lo= .str s/\hi= .str t else ∃i j,lo= .int i/\hi= .int j
def Deed.form:Deed->Prop
 | .all cs=>cs.length<=24
 | .within x lo hi=>b_O x lo hi/\c_t x
 | .from x _ m=>c_t x/\0<=m
 | .spot x _=>c_t x
 | _=>True
def Deed.plain:Deed->Prop
 | .chg _=>True
 | .begin=>True
 | .keep=>True
 | .brk=>True
 | _=>False
def Deed.asks:Deed->Prop
 | .row _=>True
 | .within .. =>True
 | .both .. =>True
 | .from .. =>True
 | .spot .. =>True
 | _=>False
def Deed.short:Deed->Prop
 | .chg c=>c.short
 | .all cs=>∀c∈cs,c.short
 | .within _ lo hi=>(∀s,lo= .str s->s.length<=2)/\∀s,hi= .str s->s.length<=2
 | .both _ _ t=>t.length<=2
 | .row n=>Sm n
 | .spot _ n=>Sm n
 | _=>True
theorem ChgAt.mono {H H':Hp} (s:∀b xs,H b=some (.tup xs)->H' b=some (.tup xs)) {a:Addr} {c:Chg} (h:ChgAt H a c):ChgAt H' a c:=by
 cases c with
 | bring ρ=>obtain⟨r,h1,h2⟩:=h;exact⟨r,s _ _ h1,s _ _ h2⟩
 | alter ρ=>obtain⟨r,h1,h2⟩:=h;exact⟨r,s _ _ h1,s _ _ h2⟩
 | cut n=>exact s _ _ h
theorem b_a {H H':Hp} (s:∀b xs,H b=some (.tup xs)->H' b=some (.tup xs)):∀{as:List Addr} {cs:List Chg},Paired (ChgAt H) as cs->Paired (ChgAt H') as cs
 | _,_,.nil=> .nil
 | _,_,.cons h t=> .cons (h.mono s) (b_a s t)
theorem DeedAt.same {H H':Hp} (s:Same H H') {a:Addr} {d:Deed} (h:DeedAt H a d):DeedAt H' a d:=by
 cases d with
 | chg c=>exact ChgAt.mono (H:=H) (H':=H') (λb xs q=>s _ _ q) h
 | all cs=>obtain⟨l,as,h1,h2,h3⟩:=h;exact⟨l,as,s _ _ h1,s _ _ h2,b_a (λb xs q=>s _ _ q) h3⟩
 | _=>exact s _ _ h
theorem b_d {H H':Hp} (s:Same H H'):∀{as:List Addr} {ds:List Deed},Paired (DeedAt H) as ds->Paired (DeedAt H') as ds
 | _,_,.nil=> .nil
 | _,_,.cons h t=> .cons (DeedAt.same s h) (b_d s t)
theorem DeedAt.mov {H H':Hp} {f:List Addr} (m:K1.Mov H H' f) {a:Addr} {d:Deed} (h:DeedAt H a d) (hl:∀l,H a=some (.tup [.str "all",.ref l])->l∉f):DeedAt H' a d:=by
 cases d with
 | chg c=>exact ChgAt.mono (H:=H) (H':=H') (λb xs q=>m.tup q) h
 | all cs=>obtain⟨l,as,h1,h2,h3⟩:=h;exact⟨l,as,m.tup h1,m.keep _ _ h2 (hl l h1),b_a (λb xs q=>m.tup q) h3⟩
 | _=>exact m.tup h
def DeedBy (l:Addr) (H:Hp) (a:Addr) (d:Deed):Prop:=DeedAt H a d/\∀l',H a=some (.tup [.str "all",.ref l'])->l'≠l
theorem DeedAt.head {H:Hp} {a:Addr} {d:Deed} (h:DeedAt H a d):∃xs,H a=some (.tup xs):=by
 cases d with
 | chg c=>cases c with
   | bring ρ=>obtain⟨r,h1,_⟩:=h;exact⟨_,h1⟩
   | alter ρ=>obtain⟨r,h1,_⟩:=h;exact⟨_,h1⟩
   | cut n=>exact⟨_,h⟩
 | all cs=>obtain⟨l,as,h1,_⟩:=h;exact⟨_,h1⟩
 | _=>exact⟨_,h⟩
theorem DeedBy.same {l:Addr} {H H':Hp} (s:Same H H') {a:Addr} {d:Deed} (h:DeedBy l H a d):DeedBy l H' a d:=by
 obtain⟨xs,e⟩:=h.1.head;exact⟨DeedAt.same s h.1,λl' e'=>h.2 l' (by rw[s _ _ e] at e';rw[e];exact e')⟩
theorem DeedBy.upd {l:Addr} {H:Hp} {xs ys:List V} (hl:H l=some (.lst xs)) {a:Addr} {d:Deed} (h:DeedBy l H a d):DeedBy l (upd H l (.lst ys)) a d:=by
 obtain⟨zs,e⟩:=h.1.head;have m:K1.Mov H (L2.upd H l (.lst ys)) [l]:=K1.Mov.upd hl;exact⟨DeedAt.mov m h.1 λl' e' q=>h.2 l' e' (o_T.mp q),λl' e'=>h.2 l' (by rw[m.tup e] at e';rw[e];exact e')⟩
theorem f_B {l:Addr} {H H':Hp} (s:Same H H'):∀{as:List Addr} {ds:List Deed},Paired (DeedBy l H) as ds->Paired (DeedBy l H') as ds
 | _,_,.nil=> .nil
 | _,_,.cons h t=> .cons (h.same s) (f_B s t)
theorem k_d {l:Addr} {H:Hp} {xs ys:List V} (hl:H l=some (.lst xs)):∀{as:List Addr} {ds:List Deed},Paired (DeedBy l H) as ds->Paired (DeedBy l (L2.upd H l (.lst ys))) as ds
 | _,_,.nil=> .nil
 | _,_,.cons h t=> .cons (h.upd hl) (k_d hl t)
theorem l_I {l:Addr} {H:Hp}:∀{as:List Addr} {ds:List Deed},Paired (DeedBy l H) as ds->Paired (DeedAt H) as ds
 | _,_,.nil=> .nil
 | _,_,.cons h t=> .cons h.1 (l_I t)
def a_O:List Addr->List Row->List (Key×V)
 | r::rs,ρ::l=>(Sum.inl ρ.n,V.ref r)::a_O rs l
 | _,_=> []
def KeptAt (H:Hp) (d:Addr) (l:List Row):Prop:=∃rs:List Addr,H d=some (.dK (a_O rs l))/\RowsAt H rs l
theorem c_F {H:Hp}:∀{rs:List Addr} {l:List Row},RowsAt H rs l->(a_O rs l).length=l.length
 | _,_,.nil=>rfl
 | _,_,.cons _ t=>by simp only[a_O,o_U,c_F t]
theorem b_K {H:Hp} {n:Int}:∀{rs:List Addr} {l:List Row},RowsAt H rs l->(c_K (a_O rs l) (Sum.inl n)).isSome=b_g l n/\(b_g l n=true->∃r ρ,c_K (a_O rs l) (Sum.inl n)=some (V.ref r)/\b_Y l n=some ρ/\RowAt H r ρ/\r∈rs)
 | _,_,.nil=>⟨rfl,λh=>by cases h⟩
 | r::rs,ρ::l,.cons h t=>by
   obtain⟨i1,i2⟩:=b_K (n:=n) t;by_cases e:ρ.n=n
   ·have ek:((Sum.inl ρ.n,V.ref r):Key×V).1=Sum.inl n:=by rw[e]
    refine⟨?_, λ_=>⟨r,ρ,?_, ?_, h,o_S ..⟩⟩
    ·simp only[a_O];rw[b_u ek];simp[b_g,e]
    ·simp only[a_O];rw[b_u ek]
    ·simp[b_Y,e]
   ·have ek:¬ ((Sum.inl ρ.n,V.ref r):Key×V).1=Sum.inl n:=λq=>e (by injection q)
    have eh:b_g (ρ::l) n=b_g l n:=by simp[b_g,e]
    refine⟨?_, λq=> ?_⟩
    ·simp only[a_O];rw[b_c ek,i1,eh]
    ·rw[eh] at q
     obtain⟨r',ρ',h1,h2,h3,h4⟩:=i2 q;refine⟨r',ρ',?_, ?_, h3,o_R _ h4⟩
     ·simp only[a_O];rw[b_c ek];exact h1
     ·simp only[b_Y,List.find?_cons,p_v e];exact h2
theorem f_1 {H:Hp} {r:Addr} {ρ:Row} (hr:RowAt H r ρ) {rs:List Addr} {l:List Row} (h:RowsAt H rs l):∃rs',c_r (a_O rs l) (Sum.inl ρ.n) (V.ref r)=a_O rs' (b_P l ρ)/\RowsAt H rs' (b_P l ρ):=by
 have hv:=(b_K (n:=ρ.n) h).1;unfold b_P;by_cases c:b_g l ρ.n=true
 ·rw[if_pos c]
  have a:((a_O rs l).any λkv=>decide (kv.1=Sum.inl ρ.n))=true:=by rw[c_0,hv,c]
  have aux:∀{rs:List Addr} {l:List Row},RowsAt H rs l->∃rs',((a_O rs l).map λkv=>if kv.1=Sum.inl ρ.n then (kv.1,V.ref r) else kv)=a_O rs' (l.map λx=>if x.n=ρ.n then ρ else x)/\RowsAt H rs' (l.map λx=>if x.n=ρ.n then ρ else x):=by
   intro rs l h;induction h with
   | nil=>exact⟨[],rfl,.nil⟩
   | cons h t ih=>
     rename_i r0 ρ0 rs l;obtain⟨rs',e1,e2⟩:=ih;by_cases e:ρ0.n=ρ.n
     ·refine⟨r::rs',?_, ?_⟩
      ·simp only[a_O,o_3,e,if_true,e1]
      ·simp only[o_3,e,if_true];exact .cons hr e2
     ·have ek:¬ ((Sum.inl ρ0.n:Key)=Sum.inl ρ.n):=λq=>e (by injection q)
      refine⟨r0::rs',?_, ?_⟩
      ·simp only[a_O,o_3,if_neg ek,if_neg e,e1]
      ·simp only[o_3,if_neg e];exact .cons h e2
  obtain⟨rs',e1,e2⟩:=aux h;refine⟨rs',?_, e2⟩;unfold c_r;rw[if_pos a];exact e1
 ·rw[if_neg c]
  have hn:c_K (a_O rs l) (Sum.inl ρ.n)=none:=by
   cases e:c_K (a_O rs l) (Sum.inl ρ.n) with
   | none=>rfl
   | some u=>rw[e] at hv;exact absurd hv.symm c
  have aux:∀{rs:List Addr} {l:List Row},RowsAt H rs l->a_O rs l++ [(Sum.inl ρ.n,V.ref r)]=a_O (rs++ [r]) (l++ [ρ]):=by
   intro rs l h;induction h with
   | nil=>rfl
   | cons h t ih=>simp only[a_O,List.cons_append,ih]
  exact⟨rs++ [r],(c_2 _ hn).trans (aux h),RowsAt.app h (.cons hr .nil)⟩
theorem d_4 {H:Hp} {n:Int}:∀{rs:List Addr} {l:List Row},RowsAt H rs l->∃rs',c_I (a_O rs l) (Sum.inl n)=a_O rs' (a_Z l n)/\RowsAt H rs' (a_Z l n)
 | _,_,.nil=>⟨[],rfl,.nil⟩
 | r::rs,ρ::l,.cons h t=>by
   obtain⟨rs',e1,e2⟩:=d_4 (n:=n) t;by_cases e:ρ.n=n
   ·refine⟨rs',?_, ?_⟩
    ·simp only[a_O,c_I,a_Z,p_d,e] at e1 ⊢;simpa using e1
    ·simp only[a_Z,p_d,e] at e2 ⊢;simpa using e2
   ·have ek:¬ ((Sum.inl ρ.n:Key)=Sum.inl n):=λq=>e (by injection q)
    refine⟨r::rs',?_, ?_⟩
    ·simp only[a_O,c_I,a_Z,p_d] at e1 ⊢
     simp only[ek,e,ne_eq,not_false_eq_true,decide_true,if_true,a_O,e1]
    ·simp only[a_Z,p_d,e,ne_eq,not_false_eq_true,decide_true,if_true] at e2 ⊢
     exact .cons h e2
theorem _root_.K1.KeptAt.same {H H':Hp} {d:Addr} {l:List Row} (h:KeptAt H d l) (s:Same H H'):KeptAt H' d l:=by
 obtain⟨rs,h1,h2⟩:=h;exact⟨rs,s _ _ h1,h2.same λb xs q=>s _ _ q⟩
abbrev a_W:=Option Row×Option Row
def b_k (l:List Row):Option Row->List Row
 | some ρ=>a_Z l ρ.n
 | none=>l
def n_g (l:List Row):Option Row->List Row
 | some ρ=>b_P l ρ
 | none=>l
def c_8 (l:List Row) (p:a_W):List Row:=n_g (b_k l p.1) p.2
structure StepOk (l:List Row) (p:a_W):Prop where
 out:∀ρ,p.1=some ρ->ρ∈l
 inn:∀ρ,p.2=some ρ->b_g (b_k l p.1) ρ.n=false
abbrev c_m (l:List Row):Prop:=(l.map (·.n)).Nodup
theorem b_n {l:List Row} {n:Int}:b_g l n=false↔∀x∈l,x.n≠n:=by
 constructor
 ·intro h x hx e
  have:b_g l n=true:=b_l.mpr ⟨x,hx,e⟩;rw[h] at this;cases this
 ·intro h
  cases e:b_g l n with
  | false=>rfl
  | true=>
    obtain⟨x,hx,ex⟩:=b_l.mp e;exact absurd ex (h x hx)
theorem b_i {l l':List Row} (p:l.Perm l') (n:Int):b_g l n=b_g l' n:=by
 cases e:b_g l' n with
 | true=>obtain⟨x,hx,ex⟩:=b_l.mp e;exact b_l.mpr ⟨x,p.mem_iff.mpr hx,ex⟩
 | false=>exact b_n.mpr λx hx=>b_n.mp e x (p.mem_iff.mp hx)
theorem b_x {l:List Row} {ρ:Row} (h:b_g l ρ.n=false):b_P l ρ=l++ [ρ]:=by
 unfold b_P;rw[if_neg (by rw[h];simp)]
theorem d_R {l l':List Row} (p:l.Perm l') (n:Int):(a_Z l n).Perm (a_Z l' n):=p.filter _
theorem d_T {l l':List Row} (p:l.Perm l') (o:Option Row):(b_k l o).Perm (b_k l' o):=by
 cases o with
 | none=>exact p
 | some ρ=>exact d_R p _
theorem h_u {l l':List Row} {p:a_W} (h:StepOk l p) (q:l.Perm l'):(c_8 l p).Perm (c_8 l' p):=by
 have q1:=d_T q p.1;unfold c_8;cases e:p.2 with
 | none=>exact q1
 | some ρ=>
   have h1:=h.inn ρ e;have h2:=h1;rw[b_i q1] at h2;show (b_P _ ρ).Perm (b_P _ ρ);rw[b_x h1,b_x h2];exact q1.append_right _
theorem StepOk.perm {l l':List Row} {p:a_W} (h:StepOk l p) (q:l.Perm l'):StepOk l' p:=
 ⟨λρ e=>q.mem_iff.mp (h.out ρ e),λρ e=>by rw[<-b_i (d_T q p.1)];exact h.inn ρ e⟩
theorem d_u {l l':List Row} (q:l.Perm l') (h:c_m l):c_m l':=(q.map _).nodup_iff.mp h
theorem b_4 {l:List Row} (h:c_m l) (o:Option Row):c_m (b_k l o):=by
 cases o with
 | none=>exact h
 | some ρ=>exact d_K h
theorem e_Q {l:List Row} (h:c_m l) (p:a_W):c_m (c_8 l p):=by
 unfold c_8 n_g;cases p.2 with
 | none=>exact b_4 h _
 | some ρ=>exact f_f (b_4 h _)
theorem i_E {l:List Row} (h:c_m l) {x y:Row} (hx:x∈l) (hy:y∈l) (e:x.n=y.n):x=y:=by
 induction l with
 | nil=>cases hx
 | cons a r ih=>
   rw[c_m,o_3,p_i] at h
   rcases o_Z.mp hx with ex | ex <;> rcases o_Z.mp hy with ey | ey
   ·rw[ex,ey]
   ·exact absurd (p_j.mpr ⟨y,ey,by rw[<-e,ex]⟩) h.1
   ·exact absurd (p_j.mpr ⟨x,ex,by rw[e,ey]⟩) h.1
   ·exact ih h.2 ex ey
theorem c_z {l:List Row} (h:c_m l) {ρ:Row} (hm:ρ∈l):l.Perm (ρ::a_Z l ρ.n):=by
 induction l with
 | nil=>cases hm
 | cons a r ih=>
   rw[c_m,o_3,p_i] at h;by_cases e:a.n=ρ.n
   ·have ea:a=ρ:=i_E (l:=a::r) (by rw[c_m,o_3,p_i];exact h) (o_S ..) hm e
    subst ea
    have:a_Z (a::r) a.n=r:=by
     unfold a_Z;rw[p_d,if_neg (by simp)];exact List.filter_eq_self.mpr λx hx=>p_u λq=>h.1 (p_j.mpr ⟨x,hx,q⟩)
    rw[this]
   ·have b:ρ∈r:=by
     rcases o_Z.mp hm with q | q
     ·exact absurd (by rw[q]) e
     ·exact q
    have:a_Z (a::r) ρ.n=a::a_Z r ρ.n:=by
     unfold a_Z;rw[p_d,if_pos (p_u e)]
    rw[this];exact ((ih h.2 b).cons a).trans (.swap ρ a _)
theorem j_U {l:List Row} {n:Int} (h:b_g l n=false):a_Z l n=l:=List.filter_eq_self.mpr λx hx=>p_u (b_n.mp h x hx)
theorem d_t (l:List Row) (n:Int):b_g (a_Z l n) n=false:=b_n.mpr λx hx=>by
 have:=(List.mem_filter.mp hx).2;exact p_w this
theorem i_f {l:List Row} {p:a_W} (h:c_m l) (k:StepOk l p):StepOk (c_8 l p) (p.2,p.1)/\(c_8 (c_8 l p) (p.2,p.1)).Perm l:=by
 obtain⟨a,b⟩:=p;have h1:c_m (b_k l a):=b_4 h a;have hb:∀ρ,b=some ρ->b_g (b_k l a) ρ.n=false:=k.inn
 have e1:(b_k (c_8 l (a,b)) b).Perm (b_k l a):=by
  unfold c_8;cases b with
  | none=>exact .refl _
  | some ρ=>
    have q:=hb ρ rfl;show (a_Z (b_P (b_k l a) ρ) ρ.n).Perm _;rw[b_x q]
    have:a_Z (b_k l a++ [ρ]) ρ.n=a_Z (b_k l a) ρ.n:=by
     unfold a_Z;rw[List.filter_append];simp
    rw[this,j_U q]
 have e2:∀ρ,a=some ρ->b_g (b_k (c_8 l (a,b)) b) ρ.n=false:=λρ e=>by
  rw[b_i e1];subst e;exact d_t _ _
 refine⟨⟨λρ e=> ?_, e2⟩,?_⟩
 ·have e':b=some ρ:=e
  subst e';unfold c_8;show ρ∈b_P (b_k l a) ρ;rw[b_x (hb ρ rfl)];simp
 ·show (n_g (b_k (c_8 l (a,b)) b) a).Perm l
  cases a with
  | none=>exact e1
  | some ρ=>
    show (b_P _ ρ).Perm l;rw[b_x (e2 ρ rfl)];refine (e1.append_right [ρ]).trans ?_;refine (List.perm_append_singleton ρ _).trans ?_;exact (c_z h (k.out ρ rfl)).symm
theorem g_c (l:List Row) (o:Option Row):(b_k l o).length<=l.length:=by
 cases o with
 | none=>exact o_X _
 | some ρ=>exact List.length_filter_le _ _
theorem l_E {l:List Row} {p:a_W} (k:StepOk l p):(c_8 l p).length<=l.length+1:=by
 have h:=g_c l p.1;unfold c_8;cases e:p.2 with
 | none=>exact o_9 h (Nat.le_succ _)
 | some ρ=>
   show (b_P _ ρ).length<=_;rw[b_x (k.inn ρ e),o_Q];simp only[o_U,p_o];omega
inductive Hs (N:Nat):List Row->List a_W->List Nat->List (List Row)->Prop
 | nil {l:List Row}:l.length<=N->c_m l->Hs N l [] [] []
 | mark {l k:List Row} {st:List a_W} {ms:List Nat} {ks:List (List Row)}:k.Perm l->Hs N l st ms ks->Hs N l st (st.length::ms) (k::ks)
 | step {l l':List Row} {p:a_W} {st:List a_W} {ms:List Nat} {ks:List (List Row)}:ms≠ []->StepOk l p->l'.Perm (c_8 l p)->l'.length<=N->Hs N l st ms ks->Hs N l' (p::st) ms ks
theorem Hs.nums {N:Nat} {l:List Row} {st:List a_W} {ms:List Nat} {ks:List (List Row)} (h:Hs N l st ms ks):c_m l:=by
 induction h with
 | nil _ q=>exact q
 | mark _ _ ih=>exact ih
 | step _ k q _ _ ih=>exact d_u q.symm (e_Q ih _)
theorem Hs.le {N:Nat} {l:List Row} {st:List a_W} {ms:List Nat} {ks:List (List Row)} (h:Hs N l st ms ks):l.length<=N:=by
 induction h with
 | nil q _=>exact q
 | mark _ _ ih=>exact ih
 | step _ _ _ q _ _=>exact q
theorem Hs.mono {N M:Nat} (hM:N<=M) {l:List Row} {st:List a_W} {ms:List Nat} {ks:List (List Row)} (h:Hs N l st ms ks):Hs M l st ms ks:=by
 induction h with
 | nil q n=>exact .nil (o_9 q hM) n
 | mark p _ ih=>exact .mark p ih
 | step a b c d _ ih=>exact .step a b c (o_9 d hM) ih
theorem Hs.perm {N:Nat} {l l':List Row} {st:List a_W} {ms:List Nat} {ks:List (List Row)} (h:Hs N l st ms ks) (q:l.Perm l'):Hs N l' st ms ks:=by
 induction h generalizing l' with
 | nil a n=>exact .nil (by rw[<-q.length_eq];exact a) (d_u q n)
 | mark p _ ih=>exact .mark (p.trans q) (ih q)
 | step a b c d e _=>exact .step a b (q.symm.trans c) (by rw[<-q.length_eq];exact d) e
theorem Hs.lens {N:Nat} {l:List Row} {st:List a_W} {ms:List Nat} {ks:List (List Row)} (h:Hs N l st ms ks):ms.length=ks.length:=by
 induction h with
 | nil _ _=>rfl
 | mark _ _ ih=>simp[ih]
 | step _ _ _ _ _ ih=>exact ih
theorem Hs.none {N:Nat} {l:List Row} {st:List a_W} {ks:List (List Row)} (h:Hs N l st [] ks):st= []/\ks= []:=by
 cases h with
 | nil _ _=>exact⟨rfl,rfl⟩
 | step a _ _ _ _=>exact absurd rfl a
theorem Hs.mle {N:Nat}:∀{l:List Row} {st:List a_W} {ms:List Nat} {ks:List (List Row)},Hs N l st ms ks->∀m∈ms,m<=st.length
 | _,_,_,_,.nil _ _,m,hm=>by cases hm
 | _,_,_,_,.mark _ h,m,hm=>by
   rcases o_Z.mp hm with e | e
   ·rw[e];exact o_X _
   ·exact h.mle m e
 | _,_,_,_,.step _ _ _ _ h,m,hm=>Nat.le_succ_of_le (h.mle m hm)
theorem Hs.keep {N:Nat} {m:Nat} {k:List Row} {ms:List Nat} {ks:List (List Row)} (hn:ms≠ []):∀{l:List Row} {st:List a_W},Hs N l st (m::ms) (k::ks)->Hs N l st ms ks
 | _,_,.mark _ h=>h
 | _,_,.step a b c d h=> .step hn b c d (Hs.keep hn h)
theorem Hs.back {N:Nat} {m:Nat} {k l:List Row} {p:a_W} {st:List a_W} {ms:List Nat} {ks:List (List Row)} (h:Hs N l (p::st) (m::ms) (k::ks)) (hm:m<=st.length):
 StepOk l (p.2,p.1)/\Hs N (c_8 l (p.2,p.1)) st (m::ms) (k::ks):=by
 cases h with
 | mark p2 h2=>exact absurd hm (by simp)
 | step a b c d h2=>
   obtain⟨q1,q2⟩:=i_f h2.nums b;have q3:=q1.perm c.symm;exact⟨q3,h2.perm (q2.symm.trans (h_u q1 c.symm))⟩
theorem Hs.at {N:Nat} {m:Nat} {k l:List Row} {st:List a_W} {ms:List Nat} {ks:List (List Row)} (h:Hs N l st (m::ms) (k::ks)) (hm:st.length<=m):k.Perm l/\Hs N l st ms ks:=by
 cases h with
 | mark p h2=>exact⟨p,h2⟩
 | step a b c d h2=>
   have:=h2.mle m (o_S ..);simp only[o_U] at hm;omega
theorem b_0 {l:List Row} {n:Int} (h:b_g l n=true):∃ρ,b_Y l n=some ρ/\ρ∈l/\ρ.n=n:=by
 unfold b_Y;cases e:l.find? λx=>decide (x.n=n) with
 | none=>
   obtain⟨x,hx,ex⟩:=b_l.mp h;exact absurd (List.find?_eq_none.mp e x hx) (by simp[ex])
 | some ρ=>
   have h1:=List.find?_some e;exact⟨ρ,rfl,List.mem_of_find?_eq_some e,by simpa using h1⟩
theorem b_3 {l:List Row} {n:Int} (h:b_g l n=false):b_Y l n=none:=by
 unfold b_Y;exact List.find?_eq_none.mpr λx hx=>by simpa using b_n.mp h x hx
theorem j_h {l:List Row} (hl:c_m l) {ρ:Row} (hm:ρ∈l):b_Y l ρ.n=some ρ:=by
 obtain⟨x,h1,h2,h3⟩:=b_0 (b_l.mpr ⟨ρ,hm,rfl⟩);rw[h1,i_E hl h2 hm h3]
theorem g_R {l l':List Row} (hl:c_m l) (p:l.Perm l') (n:Int):b_Y l n=b_Y l' n:=by
 cases e:b_g l n with
 | true=>
   obtain⟨x,h1,h2,h3⟩:=b_0 e;rw[h1,<-h3];exact (j_h (d_u p hl) (p.mem_iff.mp h2)).symm
 | false=>
   rw[b_3 e,b_3 (by rw[<-b_i p];exact e)]
theorem j_i {l:List Row} {ρ:Row} (h:b_g l ρ.n=false):StepOk l (none,some ρ):=⟨λ_ e=>(by cases e),λx e=>(by cases e;exact h)⟩
theorem j_m {l:List Row} {ρ κ:Row} (h:κ∈l) (e:κ.n=ρ.n):StepOk l (some κ,some ρ):=⟨λ_ q=>(by cases q;exact h),λx q=>by cases q;show b_g (a_Z l κ.n) ρ.n=false;rw[<-e];exact d_t _ _⟩
theorem m_E {l:List Row} {κ:Row} (h:κ∈l):StepOk l (some κ,none):=⟨λ_ q=>(by cases q;exact h),λx q=>by cases q⟩
theorem i_0 {l:List Row} (hl:c_m l) {ρ κ:Row} (h:κ∈l) (e:κ.n=ρ.n):(c_8 l (some κ,some ρ)).Perm (b_P l ρ):=by
 show (b_P (a_Z l κ.n) ρ).Perm _;rw[b_x (by rw[<-e];exact d_t _ _)];refine (List.perm_append_singleton ρ _).trans ?_;have hh:b_g l ρ.n=true:=b_l.mpr ⟨κ,h,e⟩;unfold b_P;rw[if_pos hh,e];clear hh;induction l with
 | nil=>cases h
 | cons a r ih=>
   have b:=hl;rw[c_m,o_3,p_i] at hl;by_cases q:a.n=ρ.n
   ·have hr:∀x∈r,x.n≠ρ.n:=λx hx z=>hl.1 (p_j.mpr ⟨x,hx,z.trans q.symm⟩)
    have e1:a_Z (a::r) ρ.n=r:=by
     unfold a_Z;rw[p_d,if_neg (by simp[q])];exact List.filter_eq_self.mpr λx hx=>p_u (hr x hx)
    have e2:(r.map λx=>if x.n=ρ.n then ρ else x)=r:=by
     conv=>rhs;rw[<-List.map_id r]
     exact List.map_congr_left λx hx=>by rw[if_neg (hr x hx)];rfl
    rw[e1,o_3,if_pos q,e2]
   ·have hm:κ∈r:=by
     rcases o_Z.mp h with z | z
     ·exact absurd (by rw[<-z];exact e) q
     ·exact z
    have e1:a_Z (a::r) ρ.n=a::a_Z r ρ.n:=by
     unfold a_Z;rw[p_d,if_pos (p_u q)]
    rw[e1,o_3,if_neg q];exact (List.Perm.swap a ρ _).trans ((ih hl.2 hm).cons a)
theorem e_E {l l':List Row} (p:l.Perm l') (ρ:Row):(b_P l ρ).Perm (b_P l' ρ):=by
 unfold b_P;rw[b_i p];split
 ·exact p.map _
 ·exact p.append_right _
end TO
namespace K1
open PySem L2 TO
theorem l_L {X:Cx} {st:Stmt} {t t':TS} (h:PS X st t) (hw:∀D σ H,t' D σ H->t D σ H):PS X st t':=λpins s σ H D I q=>h pins s σ H D I (hw D σ H q)
theorem j_d {X:Cx} {st:List Stmt} {t t':TS} (h:PSs X st t) (hw:∀D σ H,t' D σ H->t D σ H):PSs X st t':=λpins s σ H D I q=>h pins s σ H D I (hw D σ H q)
def b_B (room:Int) (nb o1 o2 sl ml:Addr):List (Str×V):= [("room",.int room),("by_number",.ref nb),("by_rank",.ref o1),("by_text",.ref o2),("steps",.ref sl),("marks",.ref ml)]
theorem d_O {k:Str} {v:V} {r:List (Str×V)}:((k,v)::r).lookup k=some v:=by simp[List.lookup]
theorem a_S {m k:Str} {v:V} {r:List (Str×V)} (h:¬ m=k):((k,v)::r).lookup m=r.lookup m:=by
 simp only[List.lookup,beq_eq_false_iff_ne.mpr h]
section
variable {room:Int} {nb o1 o2 sl ml:Addr}
theorem k_J:(b_B room nb o1 o2 sl ml).lookup ("room":Str)=some (.int room):=d_O
theorem d_Y:(b_B room nb o1 o2 sl ml).lookup ("by_number":Str)=some (.ref nb):=(a_S (by decide+kernel)).trans d_O
theorem h_i:(b_B room nb o1 o2 sl ml).lookup ("by_rank":Str)=some (.ref o1):=(a_S (by decide+kernel)).trans ((a_S (by decide+kernel)).trans d_O)
theorem i_j:(b_B room nb o1 o2 sl ml).lookup ("by_text":Str)=some (.ref o2):=(a_S (by decide+kernel)).trans ((a_S (by decide+kernel)).trans ((a_S (by decide+kernel)).trans d_O))
theorem c_X:(b_B room nb o1 o2 sl ml).lookup ("steps":Str)=some (.ref sl):=(a_S (by decide+kernel)).trans ((a_S (by decide+kernel)).trans ((a_S (by decide+kernel)).trans ((a_S (by decide+kernel)).trans d_O)))
theorem c_k:(b_B room nb o1 o2 sl ml).lookup ("marks":Str)=some (.ref ml):=(a_S (by decide+kernel)).trans ((a_S (by decide+kernel)).trans ((a_S (by decide+kernel)).trans ((a_S (by decide+kernel)).trans ((a_S (by decide+kernel)).trans d_O))))
theorem c_P {m:Str} (h1:¬ m="room") (h2:¬ m="by_number") (h3:¬ m="by_rank") (h4:¬ m="by_text") (h5:¬ m="steps") (h6:¬ m="marks"):(b_B room nb o1 o2 sl ml).lookup m=none:=
 (a_S h1).trans ((a_S h2).trans ((a_S h3).trans ((a_S h4).trans ((a_S h5).trans (a_S h6)))))
theorem a_Y {f g:Str} {v x:V} {r:List (Str×V)} (h:¬ g=f):c_y f v ((g,x)::r)=(g,x)::c_y f v r:=if_neg h
theorem l_r {f:Str} {v x:V} {r:List (Str×V)}:c_y f v ((f,x)::r)=(f,v)::r:=if_pos rfl
theorem m_V (sl':Addr):c_y ("steps":Str) (.ref sl') (b_B room nb o1 o2 sl ml)=b_B room nb o1 o2 sl' ml:=by
 unfold b_B;rw[a_Y (by decide+kernel),a_Y (by decide+kernel),a_Y (by decide+kernel),a_Y (by decide+kernel),l_r]
end
structure Ads where
 o:Addr
 dx:Addr
 nb:Addr
 o1:Addr
 o2:Addr
 sl:Addr
 ml:Addr
 bl1:Addr
 bl2:Addr
 bas1:List Addr
 bas2:List Addr
 sas:List Addr
def Ads.ls (A:Ads):List Addr:=A.sl::A.ml::(A.bl1::A.bas1++A.bl2::A.bas2)
def Ads.fp (A:Ads):List Addr:=A.o::A.nb::A.ls
def OptAt (H:Hp) (v:V):Option Row->Prop
 | none=>v= .non
 | some ρ=>∃r,v= .ref r/\RowAt H r ρ
def StepAt (H:Hp) (a:Addr) (p:a_W):Prop:=∃u v,H a=some (.tup [u,v])/\OptAt H u p.1/\OptAt H v p.2
abbrev a_F (H H':Hp):Prop:=∀b xs,H b=some (.tup xs)->H' b=some (.tup xs)
theorem OptAt.tk {H H':Hp} (t:a_F H H') {v:V} {o:Option Row} (h:OptAt H v o):OptAt H' v o:=by
 cases o with
 | none=>exact h
 | some ρ=>obtain⟨r,h1,h2⟩:=h;exact⟨r,h1,t _ _ h2⟩
theorem StepAt.tk {H H':Hp} (t:a_F H H') {a:Addr} {p:a_W} (h:StepAt H a p):StepAt H' a p:=by
 obtain⟨u,v,h1,h2,h3⟩:=h;exact⟨u,v,t _ _ h1,h2.tk t,h3.tk t⟩
theorem b_v {H H':Hp} (t:a_F H H'):∀{as:List Addr} {ps:List a_W},Paired (StepAt H) as ps->Paired (StepAt H') as ps
 | _,_,.nil=> .nil
 | _,_,.cons h r=> .cons (h.tk t) (b_v t r)
structure StrC (CS CO:Addr) (H:Hp) (A:Ads) (room:Int) (ln l1 l2:List Row) (st:List a_W) (ms:List Nat):Prop where
 ob:H A.o=some (.ins CS A.dx (b_B room A.nb A.o1 A.o2 A.sl A.ml))
 nb:KeptAt H A.nb ln
 O1:∃B,OrdAt CO false H A.o1 A.bl1 A.bas1 B/\GoodB false B/\B.flatten.Perm l1
 O2:∃B,OrdAt CO true H A.o2 A.bl2 A.bas2 B/\GoodB true B/\B.flatten.Perm l2
 sls:H A.sl=some (.lst (A.sas.map V.ref))
 sts:Paired (StepAt H) A.sas st.reverse
 mls:H A.ml=some (.lst (ms.reverse.map λm:Nat=>V.int m))
 nd:A.ls.Nodup
structure Mvd (H H':Hp) (f:List Addr):Prop where
 keep:∀b u,H b=some u->b∉f->H' b=some u
 kind:∀b∈f,∀u,H b=some u->(∃xs,u= .lst xs)\/∃kvs,u= .dK kvs
section
variable {H H':Hp} {f:List Addr}
theorem Mvd.tup (m:Mvd H H' f):a_F H H':=λb xs h=>m.keep b _ h λhb=>by
 rcases m.kind b hb _ h with⟨ys,e⟩ | ⟨ys,e⟩ <;> cases e
theorem Mvd.ins (m:Mvd H H' f) {b C d:Addr} {fl:List (Str×V)} (h:H b=some (.ins C d fl)):H' b=some (.ins C d fl):=m.keep b _ h λhb=>by
 rcases m.kind b hb _ h with⟨ys,e⟩ | ⟨ys,e⟩ <;> cases e
theorem Mvd.lstAt (m:Mvd H H' f) {l:Addr} {ρs:List Row} (h:LstAt H l ρs) (hl:l∉f):LstAt H' l ρs:=by
 obtain⟨as,h1,h2⟩:=h;exact⟨as,m.keep l _ h1 hl,h2.same m.tup⟩
theorem Mvd.lsts (m:Mvd H H' f):∀{bas:List Addr} {B:List (List Row)},Paired (LstAt H) bas B->(∀b∈bas,b∉f)->Paired (LstAt H') bas B
 | _,_,.nil,_=> .nil
 | _,_,.cons h t,hn=> .cons (m.lstAt h (hn _ (o_S ..))) (m.lsts t λb hb=>hn b (o_R _ hb))
theorem Mvd.ord (m:Mvd H H' f) {C:Addr} {w:Bool} {o bl:Addr} {bas:List Addr} {B:List (List Row)} (h:OrdAt C w H o bl bas B) (hn:∀b∈bl::bas,b∉f):OrdAt C w H' o bl bas B:=by
 obtain⟨⟨dx,h1⟩,h2,h3,h4⟩:=h;exact⟨⟨dx,m.ins h1⟩,m.keep _ _ h2 (hn _ (o_S ..)),m.lsts h3 λb hb=>hn b (o_R _ hb),h4⟩
theorem Mvd.kept (m:Mvd H H' f) {d:Addr} {l:List Row} (h:KeptAt H d l) (hd:d∉f):KeptAt H' d l:=by
 obtain⟨rs,h1,h2⟩:=h;exact⟨rs,m.keep _ _ h1 hd,h2.same m.tup⟩
theorem Stp.refl (f:List Addr):Stp H H f f:=⟨λ_ _ h _=>h,λ_ h=> .inl h⟩
theorem Stp.wide {g g' f f':List Addr} (s:Stp H H' g g') (h1:∀b∈g,b∈f) (h2:∀b∈f',b∈f\/b∈g'):Stp H H' f f':=⟨λb u h hn=>s.keep b u h λq=>hn (h1 b q),λb hb=>by
 rcases h2 b hb with q | q
 ·exact .inl q
 ·rcases s.new b q with z | z
  ·exact .inl (h1 b z)
  ·exact .inr z⟩
end
section
variable {CS CO:Addr} {H H':Hp} {A:Ads} {room:Int} {ln l1 l2:List Row} {st:List a_W} {ms:List Nat}
theorem StrC.list (h:StrC CS CO H A room ln l1 l2 st ms):∀b∈A.ls,∃xs,H b=some (.lst xs):=λb hb=>by
 obtain⟨B1,O1,_⟩:=h.O1;obtain⟨B2,O2,_⟩:=h.O2
 have hl:∀{w:Bool} {o bl:Addr} {bas:List Addr} {B:List (List Row)},OrdAt CO w H o bl bas B->∀b∈bl::bas,∃xs,H b=some (.lst xs):=λO b hb=>by
  rcases o_Z.mp hb with e | e
  ·rw[e];exact⟨_,O.ls⟩
  ·exact d_k O.bs b e
 simp only[Ads.ls,o_Z] at hb;rcases hb with e | e | e
 ·rw[e];exact⟨_,h.sls⟩
 ·rw[e];exact⟨_,h.mls⟩
 ·rcases o_6.mp e with q | q
  ·exact hl O1 b q
  ·exact hl O2 b q
theorem StrC.nbls (h:StrC CS CO H A room ln l1 l2 st ms):A.nb∉A.ls:=λhb=>by
 obtain⟨xs,e⟩:=h.list _ hb;obtain⟨rs,e2,_⟩:=h.nb;rw[e] at e2;cases e2
theorem StrC.mvd (h:StrC CS CO H A room ln l1 l2 st ms) {f:List Addr} (m:Mvd H H' f) (hf:∀b∈f,b∉A.fp):StrC CS CO H' A room ln l1 l2 st ms:=by
 have hx:∀b∈A.nb::A.ls,b∉f:=λb hb hc=>hf b hc (o_R _ hb);have hl:∀b∈A.ls,b∉f:=λb hb=>hx b (o_R _ hb);obtain⟨B1,O1,g1⟩:=h.O1;obtain⟨B2,O2,g2⟩:=h.O2
 exact⟨m.ins h.ob,m.kept h.nb (hx _ (o_S ..)),⟨B1,m.ord O1 λb hb=>hl b (by unfold Ads.ls;simp only[o_Z,o_6] at hb ⊢;grind),g1⟩,⟨B2,m.ord O2 λb hb=>hl b (by unfold Ads.ls;simp only[o_Z,o_6] at hb ⊢;grind),g2⟩,
  m.keep _ _ h.sls (hl _ (by simp[Ads.ls])),b_v m.tup h.sts,m.keep _ _ h.mls (hl _ (by simp[Ads.ls])),h.nd⟩
theorem StrC.same (h:StrC CS CO H A room ln l1 l2 st ms) (s:Same H H'):StrC CS CO H' A room ln l1 l2 st ms:=h.mvd (f:= []) ⟨λb u q _=>s b u q,λb hb=>by cases hb⟩ λb hb=>by cases hb
theorem StrC.setNb (h:StrC CS CO H A room ln l1 l2 st ms) {ln':List Row} (k:KeptAt H' A.nb ln') (kp:∀b u,H b=some u->b≠A.nb->H' b=some u):StrC CS CO H' A room ln' l1 l2 st ms:=by
 have m:Mvd H H' [A.nb]:=⟨λb u q hn=>kp b u q λe=>hn (by rw[e];exact o_T.mpr rfl),λb hb u hu=>by
  obtain⟨rs,e,_⟩:=h.nb;rw[o_T.mp hb,e] at hu;exact .inr ⟨_,(o_V hu).symm⟩⟩
 have hl:∀b∈A.ls,b∉ [A.nb]:=λb hb hc=>h.nbls (by rw[<-o_T.mp hc];exact hb);obtain⟨B1,O1,g1⟩:=h.O1;obtain⟨B2,O2,g2⟩:=h.O2
 exact⟨m.ins h.ob,k,⟨B1,m.ord O1 λb hb=>hl b (by unfold Ads.ls;simp only[o_Z,o_6] at hb ⊢;grind),g1⟩,⟨B2,m.ord O2 λb hb=>hl b (by unfold Ads.ls;simp only[o_Z,o_6] at hb ⊢;grind),g2⟩,
  m.keep _ _ h.sls (hl _ (by simp[Ads.ls])),b_v m.tup h.sts,m.keep _ _ h.mls (hl _ (by simp[Ads.ls])),h.nd⟩
theorem StrC.stpNb (h:StrC CS CO H A room ln l1 l2 st ms) (kp:∀b u,H b=some u->b≠A.nb->H' b=some u):Stp H H' A.fp A.fp:=⟨λb u q hn=>kp b u q λe=>hn (by rw[e];simp[Ads.fp]),λb hb=> .inl hb⟩
theorem e_f (A:Ads):A.ls.Nodup↔A.sl≠A.ml/\(∀b∈A.bl1::A.bas1,b≠A.sl/\b≠A.ml)/\(∀b∈A.bl2::A.bas2,b≠A.sl/\b≠A.ml)/\(A.bl1::A.bas1).Nodup/\(A.bl2::A.bas2).Nodup/\∀b∈A.bl1::A.bas1,b∉A.bl2::A.bas2:=by
 unfold Ads.ls;generalize e1:A.bl1::A.bas1=f;generalize e2:A.bl2::A.bas2=g;rw[p_i,p_i,List.nodup_append];simp only[o_Z,o_6,not_or];constructor
 ·rintro⟨⟨a1,a2,a3⟩,⟨b1,b2⟩,c1,c2,c3⟩
  exact⟨a1,λb hb=>⟨λe=>a2 (e ▸ hb),λe=>b1 (e ▸ hb)⟩,λb hb=>⟨λe=>a3 (e ▸ hb),λe=>b2 (e ▸ hb)⟩,c1,c2,λb hb hc=>c3 b hb b hc rfl⟩
 ·rintro⟨a,b,c,d,e,g'⟩
  exact⟨⟨a,λz=>(b _ z).1 rfl,λz=>(c _ z).1 rfl⟩,⟨λz=>(b _ z).2 rfl,λz=>(c _ z).2 rfl⟩,d,e,λx hx y hy q=>g' x hx (q ▸ hy)⟩
theorem Mvd.of_stp {C:Addr} {w:Bool} {o bl:Addr} {bas f':List Addr} {B:List (List Row)} (h:OrdAt C w H o bl bas B) (S:Stp H H' (bl::bas) f'):Mvd H H' (bl::bas):=⟨S.keep,λb hb u hu=>by
 left;rcases o_Z.mp hb with e | e
 ·rw[e,h.ls] at hu;exact⟨_,(o_V hu).symm⟩
 ·obtain⟨xs,q⟩:=d_k h.bs b e
  rw[q] at hu;exact⟨_,(o_V hu).symm⟩⟩
theorem StrC.setO1 (h:StrC CS CO H A room ln l1 l2 st ms) {bas':List Addr} {B':List (List Row)} {l':List Row} (S:Stp H H' (A.bl1::A.bas1) (A.bl1::bas')) (O:OrdAt CO false H' A.o1 A.bl1 bas' B') (G:GoodB false B') (p:B'.flatten.Perm l'):
 StrC CS CO H' { A with bas1:=bas' } room ln l' l2 st ms/\Stp H H' A.fp ({ A with bas1:=bas' }:Ads).fp:=by
 obtain⟨B1,O1,g1⟩:=h.O1;obtain⟨B2,O2,g2⟩:=h.O2;have m:=Mvd.of_stp O1 S;obtain⟨n1,n2,n3,n4,n5,n6⟩:=(e_f A).mp h.nd;have a:∀b∈A.bl1::A.bas1,b∈A.ls:=λb hb=>by unfold Ads.ls;simp only[o_Z,o_6] at hb ⊢;grind
 have c:∀b∈A.bl1::bas',b∈A.bl1::A.bas1\/H b=none:=S.new;have d:∀b,H b=none->b∉A.ls:=λb hb hc=>by obtain⟨xs,e⟩:=h.list b hc;rw[hb] at e;cases e
 refine⟨⟨m.ins h.ob,m.kept h.nb λhc=>h.nbls (a _ hc),⟨B',O,G,p⟩,⟨B2,m.ord O2 λb hb hc=>n6 b hc hb,g2⟩,m.keep _ _ h.sls λhc=>(n2 _ hc).1 rfl,b_v m.tup h.sts,m.keep _ _ h.mls λhc=>(n2 _ hc).2 rfl,?_⟩,?_⟩
 ·refine (e_f _).mpr ⟨n1,λb hb=> ?_, n3,O.nd,n5,λb hb=> ?_⟩
  ·rcases c b hb with q | q
   ·exact n2 b q
   ·exact⟨λe=>d b q (by rw[e];simp[Ads.ls]),λe=>d b q (by rw[e];simp[Ads.ls])⟩
  ·rcases c b hb with q | q
   ·exact n6 b q
   ·exact λhc=>d b q (by unfold Ads.ls;simp only[o_Z,o_6] at hc ⊢;grind)
 ·refine S.wide (λb hb=> ?_) λb hb=> ?_
  ·exact o_R _ (o_R _ (a b hb))
  ·simp only[Ads.fp,Ads.ls,o_Z,o_6] at hb ⊢
   grind
theorem StrC.setO2 (h:StrC CS CO H A room ln l1 l2 st ms) {bas':List Addr} {B':List (List Row)} {l':List Row} (S:Stp H H' (A.bl2::A.bas2) (A.bl2::bas')) (O:OrdAt CO true H' A.o2 A.bl2 bas' B') (G:GoodB true B') (p:B'.flatten.Perm l'):
 StrC CS CO H' { A with bas2:=bas' } room ln l1 l' st ms/\Stp H H' A.fp ({ A with bas2:=bas' }:Ads).fp:=by
 obtain⟨B1,O1,g1⟩:=h.O1;obtain⟨B2,O2,g2⟩:=h.O2;have m:=Mvd.of_stp O2 S;obtain⟨n1,n2,n3,n4,n5,n6⟩:=(e_f A).mp h.nd;have a:∀b∈A.bl2::A.bas2,b∈A.ls:=λb hb=>by unfold Ads.ls;simp only[o_Z,o_6] at hb ⊢;grind
 have c:∀b∈A.bl2::bas',b∈A.bl2::A.bas2\/H b=none:=S.new;have d:∀b,H b=none->b∉A.ls:=λb hb hc=>by obtain⟨xs,e⟩:=h.list b hc;rw[hb] at e;cases e
 refine⟨⟨m.ins h.ob,m.kept h.nb λhc=>h.nbls (a _ hc),⟨B1,m.ord O1 λb hb hc=>n6 b hb hc,g1⟩,⟨B',O,G,p⟩,m.keep _ _ h.sls λhc=>(n3 _ hc).1 rfl,b_v m.tup h.sts,m.keep _ _ h.mls λhc=>(n3 _ hc).2 rfl,?_⟩,?_⟩
 ·refine (e_f _).mpr ⟨n1,n2,λb hb=> ?_, n4,O.nd,λb hb hc=> ?_⟩
  ·rcases c b hb with q | q
   ·exact n3 b q
   ·exact⟨λe=>d b q (by rw[e];simp[Ads.ls]),λe=>d b q (by rw[e];simp[Ads.ls])⟩
  ·rcases c b hc with q | q
   ·exact n6 b hb q
   ·exact d b q (by unfold Ads.ls;simp only[o_Z,o_6] at hb ⊢;grind)
 ·refine S.wide (λb hb=> ?_) λb hb=> ?_
  ·exact o_R _ (o_R _ (a b hb))
  ·simp only[Ads.fp,Ads.ls,o_Z,o_6] at hb ⊢
   grind
theorem StrC.setSl (h:StrC CS CO H A room ln l1 l2 st ms) {sas':List Addr} {st':List a_W} {H':Hp} (e:H'=upd H A.sl (.lst (sas'.map V.ref))) (p:Paired (StepAt H) sas' st'.reverse):
 StrC CS CO H' { A with sas:=sas' } room ln l1 l2 st' ms/\Stp H H' A.fp ({ A with sas:=sas' }:Ads).fp:=by
 subst e
 have m:Mvd H (upd H A.sl (.lst (sas'.map V.ref))) [A.sl]:=⟨λb u q hn=>by rw[a_i λe=>hn (by rw[e];exact o_T.mpr rfl)];exact q,λb hb u hu=>by
  rw[o_T.mp hb,h.sls] at hu;exact .inl ⟨_,(o_V hu).symm⟩⟩
 obtain⟨n1,n2,n3,n4,n5,n6⟩:=(e_f A).mp h.nd;obtain⟨B1,O1,g1⟩:=h.O1;obtain⟨B2,O2,g2⟩:=h.O2
 refine⟨⟨m.ins h.ob,m.kept h.nb λhc=>h.nbls (by rw[o_T.mp hc];simp[Ads.ls]),⟨B1,m.ord O1 λb hb hc=>(n2 b hb).1 (o_T.mp hc),g1⟩,⟨B2,m.ord O2 λb hb hc=>(n3 b hb).1 (o_T.mp hc),g2⟩,
  a_b,b_v m.tup p,m.keep _ _ h.mls λhc=>n1 (o_T.mp hc).symm,h.nd⟩,⟨λb u q hn=>m.keep b u q λhc=>hn (by rw[o_T.mp hc];simp[Ads.fp,Ads.ls]),λb hb=> .inl hb⟩⟩
theorem StrC.setMl (h:StrC CS CO H A room ln l1 l2 st ms) {ms':List Nat} {H':Hp} (e:H'=upd H A.ml (.lst (ms'.reverse.map λm:Nat=>V.int m))):StrC CS CO H' A room ln l1 l2 st ms'/\Stp H H' A.fp A.fp:=by
 subst e
 have m:Mvd H (upd H A.ml (.lst (ms'.reverse.map λm:Nat=>V.int m))) [A.ml]:=⟨λb u q hn=>by rw[a_i λe=>hn (by rw[e];exact o_T.mpr rfl)];exact q,λb hb u hu=>by
  rw[o_T.mp hb,h.mls] at hu;exact .inl ⟨_,(o_V hu).symm⟩⟩
 obtain⟨n1,n2,n3,n4,n5,n6⟩:=(e_f A).mp h.nd;obtain⟨B1,O1,g1⟩:=h.O1;obtain⟨B2,O2,g2⟩:=h.O2
 exact⟨⟨m.ins h.ob,m.kept h.nb λhc=>h.nbls (by rw[o_T.mp hc];simp[Ads.ls]),⟨B1,m.ord O1 λb hb hc=>(n2 b hb).2 (o_T.mp hc),g1⟩,⟨B2,m.ord O2 λb hb hc=>(n3 b hb).2 (o_T.mp hc),g2⟩,
  m.keep _ _ h.sls λhc=>n1 (o_T.mp hc),b_v m.tup h.sts,a_b,h.nd⟩,⟨λb u q hn=>m.keep b u q λhc=>hn (by rw[o_T.mp hc];simp[Ads.fp,Ads.ls]),λb hb=> .inl hb⟩⟩
theorem StrC.newSl (cc:CS≠CO) (h:StrC CS CO H A room ln l1 l2 st ms) {sl':Addr} (hs:H sl'=none):StrC CS CO (upd (upd H sl' (.lst [])) A.o (.ins CS A.dx (b_B room A.nb A.o1 A.o2 sl' A.ml))) { A with sl:=sl',sas:= [] } room ln l1 l2 [] ms/\
 Stp H (upd (upd H sl' (.lst [])) A.o (.ins CS A.dx (b_B room A.nb A.o1 A.o2 sl' A.ml))) A.fp ({ A with sl:=sl',sas:= [] }:Ads).fp:=by
 have h1:=h.same (Same.upd_new (o:= .lst []) hs);have f:sl'≠A.o:=λe=>by rw[e,h.ob] at hs;cases hs
 have kp:∀b u,(upd H sl' (.lst [])) b=some u->b≠A.o->(upd (upd H sl' (.lst [])) A.o (.ins CS A.dx (b_B room A.nb A.o1 A.o2 sl' A.ml))) b=some u:=λb u q hn=>by rw[a_i hn];exact q
 have tk:a_F (upd H sl' (.lst [])) (upd (upd H sl' (.lst [])) A.o (.ins CS A.dx (b_B room A.nb A.o1 A.o2 sl' A.ml))):=λb xs q=>kp b _ q λe=>by rw[e,h1.ob] at q;cases q
 have lk:∀b xs,(upd H sl' (.lst [])) b=some (.lst xs)->b≠A.o:=λb xs q e=>by rw[e,h1.ob] at q;cases q
 obtain⟨n1,n2,n3,n4,n5,n6⟩:=(e_f A).mp h.nd;have c:∀b∈A.ls,b≠sl':=λb hb e=>by obtain⟨xs,q⟩:=h.list b hb;rw[e,hs] at q;cases q
 have ordk:∀{w:Bool} {o bl:Addr} {bas:List Addr} {B:List (List Row)},OrdAt CO w (upd H sl' (.lst [])) o bl bas B->OrdAt CO w (upd (upd H sl' (.lst [])) A.o (.ins CS A.dx (b_B room A.nb A.o1 A.o2 sl' A.ml))) o bl bas B:=λ{w o bl bas B} O=>by
  obtain⟨⟨d,q1⟩,q2,q3,q4⟩:=O;refine⟨⟨d,kp _ _ q1 λe=> ?_⟩,kp _ _ q2 (lk _ _ q2),?_, q4⟩
  ·rw[e,h1.ob] at q1
   injection q1 with q1
   injection q1 with q1
   exact cc q1
  ·have aux:∀{bas:List Addr} {B:List (List Row)},Paired (LstAt (upd H sl' (.lst []))) bas B→Paired (LstAt (upd (upd H sl' (.lst [])) A.o (.ins CS A.dx (b_B room A.nb A.o1 A.o2 sl' A.ml)))) bas B:=by
    intro bas B hp;induction hp with
    | nil=>exact .nil
    | cons a t ih=>
      obtain⟨as,z1,z2⟩:=a;exact .cons ⟨as,kp _ _ z1 (lk _ _ z1),z2.same tk⟩ ih
   exact aux q3
 obtain⟨B1,O1,g1⟩:=h1.O1;obtain⟨B2,O2,g2⟩:=h1.O2;obtain⟨rs,k1,k2⟩:=h1.nb;refine⟨⟨a_b,⟨rs,kp _ _ k1 λe=>(by rw[e,h1.ob] at k1;cases k1),k2.same tk⟩,⟨B1,ordk O1,g1⟩,⟨B2,ordk O2,g2⟩,kp _ _ a_b f,.nil,kp _ _ h1.mls (lk _ _ h1.mls),?_⟩,⟨λb u q hn=> ?_, λb hb=> ?_⟩⟩
 ·refine (e_f _).mpr ⟨λe=>c A.ml (by simp[Ads.ls]) e.symm,λb hb=>⟨c b (by unfold Ads.ls;simp only[o_Z,o_6] at hb ⊢;grind),(n2 b hb).2⟩,λb hb=>⟨c b (by unfold Ads.ls;simp only[o_Z,o_6] at hb ⊢;grind),(n3 b hb).2⟩,n4,n5,n6⟩
 ·rw[a_i λe=>hn (by rw[e];simp[Ads.fp]),a_i (a_h q hs)]
  exact q
 ·simp only[Ads.fp,Ads.ls,o_Z,o_6] at hb ⊢
  rcases hb with e | e | e | e | e
  ·exact .inl (.inl e)
  ·exact .inl (.inr (.inl e))
  ·exact .inr (by rw[e];exact hs)
  ·exact .inl (.inr (.inr (.inr (.inl e))))
  ·exact .inl (.inr (.inr (.inr (.inr e))))
end
structure f_k (K:PySem.W.Frag) (mg:Str->Option Value) (CS CO:Addr):Prop where
 cl:Cls K CS
 nRoom:NoAttr K CS "room"
 nNum:NoAttr K CS "by_number"
 nRank:NoAttr K CS "by_rank"
 nText:NoAttr K CS "by_text"
 nSteps:NoAttr K CS "steps"
 nMarks:NoAttr K CS "marks"
 mgS:mg "Store"=some (.ref CS)
 cc:CS≠CO
structure k_n (K:PySem.W.Frag) (mg:Str->Option Value) (CT CF CM CN:Addr):Prop where
 t:Exc K mg "Taken" CT
 f:Exc K mg "Full" CF
 m:Exc K mg "Missing" CM
 n:Exc K mg "NotBegun" CN
abbrev h_g (CS CO:Addr) (H:Hp) (A:Ads) (room:Int) (l:List Row) (st:List a_W) (ms:List Nat):Prop:=StrC CS CO H A room l l l st ms
section
variable {P:Program} {w:World} {K:PySem.W.Frag} {mg:Str->Option Value} {base:Heap}
theorem j_1 {H:Hp} {d:Addr} {l:List Row} {rs:List Addr} (n:Int) (hk:H d=some (.dK (a_O rs l))) (hR:RowsAt H rs l):KeptAt (upd H d (.dK (c_I (a_O rs l) (Sum.inl n)))) d (a_Z l n):=by
 obtain⟨rs',e1,e2⟩:=d_4 (n:=n) hR;refine⟨rs',by rw[e1];exact a_b,e2.same λb xs e=> ?_⟩;rw[a_i (λq=>by rw[q,hk] at e;cases e)];exact e
theorem j_f {H:Hp} {d r:Addr} {l:List Row} {rs:List Addr} {ρ:Row} (hk:H d=some (.dK (a_O rs l))) (hR:RowsAt H rs l) (hr:RowAt H r ρ):KeptAt (upd H d (.dK (c_r (a_O rs l) (Sum.inl ρ.n) (V.ref r)))) d (b_P l ρ):=by
 obtain⟨rs',e1,e2⟩:=f_1 hr hR;refine⟨rs',by rw[e1];exact a_b,e2.same λb xs e=> ?_⟩;rw[a_i (λq=>by rw[q,hk] at e;cases e)];exact e
theorem b_f {H:Hp} {d:Addr} {o:HO}:∀b u,H b=some u->b≠d->(upd H d o) b=some u:=λb u e hn=>by rw[a_i hn];exact e
def h_T (CS CO:Addr):Sp:=λvs H Q _=>∃(A:Ads) (u v:V) (p:a_W) (room:Int) (l:List Row) (st:List a_W) (ms:List Nat),vs= [.ref A.o,u,v]/\h_g CS CO H A room l st ms/\OptAt H u p.1/\OptAt H v p.2/\StepOk l p/\c_m l/\l.length<=9000/\
 ∀(A':Ads) (H':Hp),h_g CS CO H' A' room (c_8 l p) st ms->A'.o=A.o->Stp H H' A.fp A'.fp->a_F H H'->Q .non H'
theorem m_C:a_s ["self","old","new"] ["self","old","new"] (a_m l_i):=⟨rfl,rfl,rfl,by decide+kernel,rfl,by decide+kernel,by decide+kernel⟩
def tEx (CS CO:Addr) (A:Ads) (u v:V) (H:Hp) (room:Int) (l:List Row) (st:List a_W) (ms:List Nat):TS:=λD σ Hx=>σ= [some (.ref A.o),some u,some v]/\Hx=H/\
 ∀(A':Ads) (H':Hp),h_g CS CO H' A' room l st ms->A'.o=A.o->Stp H H' A.fp A'.fp->a_F H H'->D.nx σ H'
theorem l_a {f fTk fLt CS CO:Addr} {fd fdTk fdLt:FuncData} (F:Fun K "exchange" "Store.exchange" l_i f fd) (T:Txt K mg CO) (TS:f_k K mg CS CO)
 (mTk:Mf K CO "take_in" fTk fdTk ["self","row"]) (GTk:FnOk P w K mg base CX0 4 fTk fdTk ["self","row"] (k_a CO)) (mLt:Mf K CO "let_out" fLt fdLt ["self","row"]) (GLt:FnOk P w K mg base CX0 4 fLt fdLt ["self","row"] (m_d CO)):
 FnOk P w K mg base CX0 5 f fd ["self","old","new"] (h_T CS CO):=by
 refine F.ok m_C (λvs H Q E h=> ?_) (λcdv A outer s H vs Q E hr h=> ?_)
 ·obtain⟨A,u,v,p,room,l,st,ms,rfl,_⟩:=h
  rfl
 ·obtain⟨A,u,v,p,room,l,st,ms,rfl,S,hu,hv,ok,hn,R,fin⟩:=h
  have U:=e_u hr;have g:Room 4 _:=hr
  refine⟨_,a_d (l_L (t':=tEx CS CO A u v H room (b_k l p.1) st ms) (a_B (d_C (h_w (pv 1))) (a_d (a_y (g_m (a_E (pv 0) rfl) (a_v a_t (pv 1) a_e (λ_ _=>rfl)) ⟨rfl,rfl,rfl,rfl⟩))
   (a_d (a_y (a_Q (a_E (pv 0) rfl) T.cl mLt.m GLt g mLt.b .nil a_u (a_a (pv 1) a_c))) (a_f (a_y (a_Q (a_E (pv 0) rfl) T.cl mLt.m GLt g mLt.b .nil a_u (a_a (pv 1) a_c)))))) a_p) ?hw)
   (a_f (a_B (d_C (h_w (pv 2))) (a_d (e_p U (a_E (pv 0) rfl) (a_v a_t (pv 2) a_e (λ_ _=>rfl)) (pv 2) rfl)
   (a_d (a_y (a_Q (a_E (pv 0) rfl) T.cl mTk.m GTk g mTk.b .nil a_u (a_a (pv 2) a_c))) (a_f (a_y (a_Q (a_E (pv 0) rfl) T.cl mTk.m GTk g mTk.b .nil a_u (a_a (pv 2) a_c)))))) a_p)),?main⟩
  case hw=>
   rintro D σ Hx ⟨rfl,rfl,k⟩;obtain⟨p1,p2⟩:=p;cases p1 with
   | none=>
     obtain rfl:u= .non:=hu;exact⟨_,rfl,_,rfl,d_G (k A Hx S rfl (Stp.refl _) λ_ _ h=>h)⟩
   | some ρ=>
     obtain⟨r,rfl,hρ⟩:=id hu;have hm:=ok.out ρ rfl;obtain⟨rs,hk,hR⟩:=S.nb;obtain⟨g1,g2⟩:=b_K (n:=ρ.n) hR;obtain⟨r',ρ',M,_⟩:=g2 (b_l.mpr ⟨ρ,hm,rfl⟩);refine⟨_,rfl,_,rfl,k_v ?_⟩;refine⟨_,rfl,A.o,CS,A.dx,_,_,rfl,S.ob,TS.cl,TS.nNum,d_Y,A.nb,rfl,.inl ⟨_,.inl hk⟩,_,rfl,r,_,_,_,rfl,rfl,SqT.of hρ,a_g (j:=0) rfl,_,Sum.inl ρ.n,_,hk,rfl,M,?_⟩;have S1:=S.setNb (j_1 ρ.n hk hR) b_f;have F1:=S.stpNb (H':=upd Hx A.nb (.dK (c_I (a_O rs l) (Sum.inl ρ.n)))) b_f
     have a:a_F Hx (upd Hx A.nb (.dK (c_I (a_O rs l) (Sum.inl ρ.n)))):=λb xs e=>by
      rw[a_i (λq=>by rw[q,hk] at e;cases e)];exact e
     obtain⟨B1,O1,G1,q1⟩:=S1.O1;obtain⟨G,z⟩:=O1.ob;refine⟨_,rfl,A.o,CS,A.dx,_,_,rfl,S1.ob,TS.cl,TS.nRank,h_i,A.o1,G,_,rfl,z,b_h _ _ (by decide+kernel) (by decide+kernel),_,rfl,false,A.o1,A.bl1,r,A.bas1,B1,ρ,rfl,O1,a _ _ hρ,G1,q1.mem_iff.mpr hm,by rw[q1.length_eq];omega,λbas' B' H2 O' G' p' S'=> ?_⟩
     have e1:B'.flatten.Perm (a_Z l ρ.n):=by
      have:=(p'.trans q1).trans (c_z hn hm);exact this.cons_inv
     obtain⟨S2,F2⟩:=S1.setO1 S' O' G' e1;have c:=(Mvd.of_stp O1 S').tup;obtain⟨B2,O2,G2,q2⟩:=S2.O2;obtain⟨I,B⟩:=O2.ob;refine⟨_,rfl,A.o,CS,A.dx,_,_,rfl,S2.ob,TS.cl,TS.nText,i_j,A.o2,I,_,rfl,B,b_h _ _ (by decide+kernel) (by decide+kernel),_,rfl,true,A.o2,A.bl2,r,A.bas2,B2,ρ,rfl,O2,c _ _ (a _ _ hρ),G2,q2.mem_iff.mpr hm,by rw[q2.length_eq];omega,λbas2 i H3 O'' G'' p'' S''=> ?_⟩
     have e2:i.flatten.Perm (a_Z l ρ.n):=by
      have:=(p''.trans q2).trans (c_z hn hm);exact this.cons_inv
     obtain⟨S3,F3⟩:=S2.setO2 S'' O'' G'' e2;exact k _ H3 S3 rfl ((F1.trans F2).trans F3) λb xs e=>(Mvd.of_stp O2 S'').tup _ _ (c _ _ (a _ _ e))
  case main=>
   refine⟨rfl,rfl,λA1 H1 S0 e1 F0 C=> ?_⟩;have W:=hv.tk C;have Z:c_m (b_k l p.1):=b_4 hn p.1;have N:=g_c l p.1;have okin:=ok.inn;obtain⟨p1,p2⟩:=p;cases p2 with
   | none=>
     obtain rfl:v= .non:=hv;exact⟨_,rfl,_,rfl,d_G (fin A1 H1 S0 e1 F0 C)⟩
   | some ρ=>
     obtain⟨r,rfl,hρ⟩:=id W;have J:=okin ρ rfl;have t:∀x∈b_k l p1,x.n≠ρ.n:=b_n.mp J;obtain⟨rs,hk,hR⟩:=S0.nb;have Y:(a_O rs (b_k l p1)).length < sizeLine:=by rw[c_F hR];exact p_t (o_9 N R) (by decide)
     have L:=S0.ob;rw[e1] at L;refine⟨_,rfl,_,rfl,k_v ?_⟩;refine⟨_,rfl,_,rfl,A.o,CS,A1.dx,_,_,rfl,L,TS.cl,TS.nNum,d_Y,_,rfl,r,_,_,_,rfl,rfl,SqT.of hρ,a_g (j:=0) rfl,A1.nb,_,rfl,DPut.k (k:=Sum.inl ρ.n) hk Y,?_⟩;have S1:=S0.setNb (j_f hk hR hρ) b_f;have F1:=S0.stpNb (H':=upd H1 A1.nb (.dK (c_r (a_O rs (b_k l p1)) (Sum.inl ρ.n) (V.ref r)))) b_f
     have a:a_F H1 (upd H1 A1.nb (.dK (c_r (a_O rs (b_k l p1)) (Sum.inl ρ.n) (V.ref r)))):=λb xs e=>by
      rw[a_i (λq=>by rw[q,hk] at e;cases e)];exact e
     obtain⟨B1,O1,G1,q1⟩:=S1.O1;obtain⟨G,z⟩:=O1.ob;have y:=S1.ob;rw[e1] at y;have ep:b_P (b_k l p1) ρ=b_k l p1++ [ρ]:=b_x J;refine⟨_,rfl,A.o,CS,A1.dx,_,_,rfl,y,TS.cl,TS.nRank,h_i,A1.o1,G,_,rfl,z,b_h _ _ (by decide+kernel) (by decide+kernel),_,rfl,false,A1.o1,A1.bl1,r,A1.bas1,B1,ρ,rfl,O1,a _ _ hρ,G1,λx hx=>t x (q1.mem_iff.mp hx),by rw[q1.length_eq];omega,λbas' B' H2 O' G' p' S'=> ?_⟩
     have O:B'.flatten.Perm (b_P (b_k l p1) ρ):=by
      rw[ep];exact (p'.trans (q1.cons ρ)).trans (List.perm_append_singleton ρ _).symm
     obtain⟨S2,F2⟩:=S1.setO1 S' O' G' O;have c:=(Mvd.of_stp O1 S').tup;obtain⟨B2,O2,G2,q2⟩:=S2.O2;obtain⟨I,B⟩:=O2.ob;have d:=S2.ob;dsimp only at d;rw[e1] at d;refine⟨_,rfl,A.o,CS,A1.dx,_,_,rfl,d,TS.cl,TS.nText,i_j,A1.o2,I,_,rfl,B,b_h _ _ (by decide+kernel) (by decide+kernel),_,rfl,true,A1.o2,A1.bl2,r,A1.bas2,B2,ρ,rfl,O2,c _ _ (a _ _ hρ),G2,λx hx=>t x (q2.mem_iff.mp hx),by rw[q2.length_eq];omega,λbas2 i H3 O'' G'' p'' S''=> ?_⟩
     have X:i.flatten.Perm (b_P (b_k l p1) ρ):=by
      rw[ep];exact (p''.trans (q2.cons ρ)).trans (List.perm_append_singleton ρ _).symm
     obtain⟨S3,F3⟩:=S2.setO2 S'' O'' G'' X;exact fin _ H3 S3 e1 (((F0.trans F1).trans F2).trans F3) λb xs e=>(Mvd.of_stp O2 S'').tup _ _ (c _ _ (a _ _ (C _ _ e)))
def c_W (CS CO:Addr):Sp:=λvs H Q _=>∃(A:Ads) (u v:V) (p:a_W) (room:Int) (l:List Row) (st:List a_W) (ms:List Nat),vs= [.ref A.o,u,v]/\h_g CS CO H A room l st ms/\OptAt H u p.1/\OptAt H v p.2/\StepOk l p/\c_m l/\l.length<=9000/\st.length<=9000/\
 ∀(A':Ads) (H':Hp),h_g CS CO H' A' room (c_8 l p) (if ms= [] then st else p::st) ms->A'.o=A.o->Stp H H' A.fp A'.fp->a_F H H'->Q .non H'
theorem j_y:a_s ["self","old","new"] ["self","old","new"] (a_m f_m):=⟨rfl,rfl,rfl,by decide+kernel,rfl,by decide+kernel,by decide+kernel⟩
theorem h_l {f fE CS CO:Addr} {fd fdE:FuncData} (F:Fun K "change" "Store.change" f_m f fd) (T:Txt K mg CO) (TS:f_k K mg CS CO)
 (mE:Mf K CS "exchange" fE fdE ["self","old","new"]) (GE:FnOk P w K mg base CX0 5 fE fdE ["self","old","new"] (h_T CS CO)):FnOk P w K mg base CX0 6 f fd ["self","old","new"] (c_W CS CO):=by
 refine F.ok j_y (λvs H Q E h=> ?_) (λcdv A outer s H vs Q E hr h=> ?_)
 ·obtain⟨A,u,v,p,room,l,st,ms,rfl,_⟩:=h
  rfl
 ·obtain⟨A,u,v,p,room,l,st,ms,rfl,S,hu,hv,ok,hn,n,k,fin⟩:=h
  refine⟨_,a_d (a_y (a_Q (pv 0) TS.cl mE.m GE hr mE.b .nil a_u (a_a (pv 1) (a_a (pv 2) a_c))))
   (a_f (a_B (a_k g_O (a_r a_x (by rfl) T.len p_x (a_a (a_E (pv 0) rfl) a_c)) a_e (a_o _))
     (a_f (a_y (b_Z p_y p_A p_z a_2 (a_E (pv 0) rfl) (a_a (a_A (a_a (pv 1) (a_a (pv 2) a_c))) a_c)))) a_p)),?_⟩
  refine⟨_,rfl,A.o,A.dx,_,rfl,S.ob,c_P (by decide+kernel) (by decide+kernel) (by decide+kernel) (by decide+kernel) (by decide+kernel) (by decide+kernel),_,rfl,_,rfl,A,u,v,p,room,l,st,ms,rfl,S,hu,hv,ok,hn,n,λA1 H1 S1 e1 F1 i=> ?_⟩;have g:=S1.ob;rw[e1] at g;refine⟨_,rfl,A.o,CS,A1.dx,_,_,rfl,g,TS.cl,TS.nMarks,c_k,A1.ml,_,rfl,.inl (SqL.of S1.mls),_,_,rfl,rfl,_,rfl,a_z (λc=> ?_) (λc=> ?_)⟩
  ·have d:ms≠ []:=λe=>by rw[e] at c;exact absurd (p_w c) (by simp)
   have j:A1.sas.length=st.length:=by rw[Paired.length S1.sts,p_q]
   refine⟨_,rfl,A.o,CS,A1.dx,_,_,rfl,g,TS.cl,TS.nSteps,c_X,.inl ⟨rfl,_,SqL.of S1.sls⟩,_,rfl,_,rfl,by show 2<=sizeLine;decide,λt ht=> ?_⟩;have s2:Same H1 (upd H1 t (.tup [u,v])):=Same.upd_new ht;have S2:=S1.same s2;refine⟨A1.sl,_,_,rfl,rfl,S2.sls,by rw[o_O,j];exact p_t k (by decide),?_⟩;have a:a_F H (upd H1 t (.tup [u,v])):=λb xs e=>s2 _ _ (i _ _ e)
   have hp:Paired (StepAt (upd H1 t (.tup [u,v]))) (A1.sas++ [t]) (p::st).reverse:=by
    rw[List.reverse_cons];exact a_N S2.sts (.cons ⟨u,v,a_b,hu.tk a,hv.tk a⟩ .nil)
   obtain⟨S3,F3⟩:=S2.setSl (H':=upd (upd H1 t (.tup [u,v])) A1.sl (.lst (A1.sas.map V.ref++ [V.ref t]))) (sas':=A1.sas++ [t]) (by rw[o_W];rfl) hp;have e3:(if ms= [] then st else p::st)=p::st:=if_neg d;have ff:=fin { A1 with sas:=A1.sas++ [t] } _ (by rw[e3];exact S3) e1 ((F1.trans (Stp.of_same s2)).trans F3) λb xs e=> ?_
   ·exact ff
   ·rw[a_i (fun q=>by
     have:=a _ _ e;rw[q,S2.sls] at this;cases this)]
    exact a _ _ e
  ·have d:ms= []:=by
    cases ms with
    | nil=>rfl
    | cons m r=>
      exfalso;apply c;apply p_u;simp only[o_O,p_q,o_U];omega
   have e3:(if ms= [] then st else p::st)=st:=if_pos d;exact fin A1 H1 (by rw[e3];exact S1) e1 F1 i
def e_r (CS CO CM:Addr):Sp:=λvs H Q E=>∃(A:Ads) (n:Int) (room:Int) (l:List Row) (st:List a_W) (ms:List Nat),vs= [.ref A.o,.int n]/\h_g CS CO H A room l st ms/\g_J n/\
 (b_g l n=true->∀r ρ,b_Y l n=some ρ->RowAt H r ρ->Q (.ref r) H)/\(b_g l n=false->E (.ref CM) none H)
theorem l_c:a_s ["self","number"] ["self","number"] (a_m h_Y):=⟨rfl,rfl,rfl,by decide+kernel,rfl,by decide+kernel,by decide+kernel⟩
theorem i_Y {f CS CO CT CF CM CN:Addr} {fd:FuncData} (F:Fun K "row_of" "Store.row_of" h_Y f fd) (TS:f_k K mg CS CO) (ex:k_n K mg CT CF CM CN):FnOk P w K mg base (CXR P w) 1 f fd ["self","number"] (e_r CS CO CM):=by
 refine F.okX l_c (λvs H Q E h=> ?_) (λcdv A outer s H vs Q E hr h=> ?_)
 ·obtain⟨A,n,room,l,st,ms,rfl,_⟩:=h
  rfl
 ·obtain⟨A,n,room,l,st,ms,rfl,S,ht,k1,k2⟩:=h
  have a:=e_u hr
  refine⟨_,a_d (a_B (d_C (c_3 a (pv 1) (a_E (pv 0) rfl))) (a_f (c_g ex.m d_l (a_a (m_P a_j (pv 1) (by decide+kernel)) a_c))) a_p)
   (a_f (a_n (b_U a (a_E (pv 0) rfl) (pv 1) (λ_ _=>rfl)))),?_⟩
  obtain⟨rs,hk,hR⟩:=S.nb;obtain⟨v1,v2⟩:=b_K (n:=n) hR;have gn:DGet H A.nb (.int n) (c_K (a_O rs l) (Sum.inl n)):=DGet.k (k:=Sum.inl n) hk;refine⟨_,rfl,_,rfl,A.o,CS,A.dx,_,_,rfl,S.ob,TS.cl,TS.nNum,d_Y,A.nb,_,rfl,gn,_,rfl,?_⟩;rw[v1];refine a_z (λc=> ?_) (λc=> ?_)
  ·have c':b_g l n=false:=by cases q:b_g l n with
    | false=>rfl
    | true=>rw[q] at c;cases c
   exact⟨_,rfl,n,rfl,ht,λy=>⟨by show 1<=sizeLine;decide,k2 c'⟩⟩
  ·have c':b_g l n=true:=by cases q:b_g l n with
    | true=>rfl
    | false=>rw[q] at c;exact absurd rfl c
   obtain⟨r,ρ,g1,g2,g3,_⟩:=v2 c';rw[g1] at gn;exact⟨_,rfl,A.o,CS,A.dx,_,_,rfl,S.ob,TS.cl,TS.nNum,d_Y,_,rfl,A.nb,_,rfl,gn,k1 c' r ρ g2 g3⟩
def k_Q (CS CO CN:Addr):Sp:=λvs H Q E=>∃(A:Ads) (room:Int) (l:List Row) (st:List a_W) (ms:List Nat),vs= [.ref A.o]/\h_g CS CO H A room l st ms/\
 (∀m r,ms=m::r->∀H',h_g CS CO H' A room l st r->Stp H H' A.fp A.fp->a_F H H'->Q (.int (m:Nat)) H')/\(ms= []->E (.ref CN) none H)
theorem n_D:a_s ["self"] ["self"] (a_m n_t):=⟨rfl,rfl,rfl,by decide+kernel,rfl,by decide+kernel,by decide+kernel⟩
theorem m_T {f CS CO CT CF CM CN:Addr} {fd:FuncData} (F:Fun K "end_of_last" "Store.end_of_last" n_t f fd) (T:Txt K mg CO) (TS:f_k K mg CS CO) (ex:k_n K mg CT CF CM CN):FnOk P w K mg base (CXR P w) 1 f fd ["self"] (k_Q CS CO CN):=by
 refine F.okX n_D (λvs H Q E h=> ?_) (λcdv A outer s H vs Q E hr h=> ?_)
 ·obtain⟨A,room,l,st,ms,rfl,_⟩:=h
  rfl
 ·obtain⟨A,room,l,st,ms,rfl,S,k1,k2⟩:=h
  refine⟨_,a_d (a_B (a_k a_L (a_r a_x (by rfl) T.len p_x (a_a (a_E (pv 0) rfl) a_c)) a_e (a_o _)) (a_f (c_g ex.n d_l (a_a a_j a_c))) a_p)
   (a_f (a_n (d_a p_y PySem.F.slot_list_pop PySem.F.type_list_pop e_5 (a_E (pv 0) rfl)))),?_⟩
  refine⟨_,rfl,A.o,CS,A.dx,_,_,rfl,S.ob,TS.cl,TS.nMarks,c_k,A.ml,_,rfl,.inl (SqL.of S.mls),rfl,_,rfl,a_z (λc=> ?_) (λc=> ?_)⟩
  ·have a:ms= []:=by
    have:=p_w c;injection this with this
    rw[o_O,p_q] at this;exact p_k.mp (by omega)
   exact⟨by show 1<=sizeLine;decide,k2 a⟩
  ·cases ms with
   | nil=>exact absurd (p_u rfl) c
   | cons m r=>
     refine⟨_,rfl,A.o,CS,A.dx,_,_,rfl,S.ob,TS.cl,TS.nMarks,c_k,.inl ⟨rfl,_,SqL.of S.mls⟩,A.ml,_,V.int (m:Nat),rfl,rfl,S.mls,?_, ?_⟩
     ·rw[List.reverse_cons,o_W]
      simp
     ·obtain⟨S2,F2⟩:=S.setMl (ms':=r) (H':=upd H A.ml (.lst (((m::r).reverse.map λm:Nat=>V.int m).dropLast))) (by rw[List.reverse_cons,o_W];simp)
      refine k1 m r rfl _ S2 F2 λb xs e=> ?_;rw[a_i (λq=>by rw[q,S.mls] at e;cases e)];exact e
end
end K1
namespace L2
open PySem PySem.Spec PyProof.Rows
theorem PS.nox {X:Cx} {st:Stmt} {t:TS} (h:PS X.nox st t):PS X st t:=λpins s σ H D I hw=>
 wpAny_mono (h pins s σ H D (I.wish _) hw) (λ_ _ q=>q.unwish) λ_ _ z=>False.elim z
end L2
namespace TO
open PySem L2
theorem Hs.chg {N:Nat} {l:List Row} {st:List a_W} {ms:List Nat} {ks:List (List Row)} {p:a_W} (h:Hs N l st ms ks) (k:StepOk l p):Hs (N+1) (c_8 l p) (if ms= [] then st else p::st) ms ks:=by
 have hl:=l_E k;have hN:=h.le;by_cases e:ms= []
 ·subst e
  obtain⟨rfl,rfl⟩:=h.none;rw[if_pos rfl];exact .nil (by omega) (e_Q h.nums p)
 ·rw[if_neg e]
  exact .step e k (.refl _) (by omega) (h.mono (Nat.le_succ _))
end TO
namespace K1
open PySem L2 TO
structure SAt (CS CO:Addr) (H:Hp) (A:Ads) (N:Nat) (room:Int) (s:Sto):Prop where
 ex:∃l st ms,h_g CS CO H A room l st ms/\Hs N l st ms s.marks/\l.Perm s.kept/\st.length<=N/\ms.length<=N
section
variable {CS CO:Addr} {H H':Hp} {A:Ads} {N:Nat} {room:Int} {s:Sto}
theorem SAt.mono {M:Nat} (h:SAt CS CO H A N room s) (hM:N<=M):SAt CS CO H A M room s:=by
 obtain⟨l,st,ms,a,b,c,d,e⟩:=h.ex;exact⟨l,st,ms,a,b.mono hM,c,by omega,by omega⟩
theorem SAt.same (h:SAt CS CO H A N room s) (e:Same H H'):SAt CS CO H' A N room s:=by
 obtain⟨l,st,ms,a,r⟩:=h.ex;exact⟨l,st,ms,a.same e,r⟩
end
abbrev k_z (CS CO:Addr) (H:Hp) (A:Ads) (N:Nat) (room:Int) (Q:VK) (s':Sto):Prop:=∀(A':Ads) (H':Hp),SAt CS CO H' A' N room s'->A'.o=A.o->Stp H H' A.fp A'.fp->a_F H H'->Q .non H'
section
variable {P:Program} {w:World} {K:PySem.W.Frag} {mg:Str->Option Value} {base:Heap}
def f_X (CS CO CT CF:Addr):Sp:=λvs H Q E=>∃(A:Ads) (a:Addr) (ρ:Row) (N:Nat) (room:Int) (s:Sto),vs= [.ref A.o,.ref a]/\SAt CS CO H A N room s/\RowAt H a ρ/\g_J ρ.n/\N<=8000/\
 (b_g s.kept ρ.n=true->E (.ref CT) none H)/\(b_g s.kept ρ.n=false->room<=(s.kept.length:Int)->E (.ref CF) none H)/\(b_g s.kept ρ.n=false->¬ room<=(s.kept.length:Int)->k_z CS CO H A (N+1) room Q { s with kept:=b_P s.kept ρ })
theorem h_h:a_s ["self","row","number"] ["self","row"] (a_m h_A):=⟨rfl,rfl,rfl,by decide+kernel,rfl,by decide+kernel,by decide+kernel⟩
theorem j_p {f fC CS CO CT CF CM CN:Addr} {fd fdC:FuncData} (F:Fun K "bring" "Store.bring" h_A f fd) (T:Txt K mg CO) (TS:f_k K mg CS CO) (ex:k_n K mg CT CF CM CN)
 (mC:Mf K CS "change" fC fdC ["self","old","new"]) (GC:FnOk P w K mg base CX0 6 fC fdC ["self","old","new"] (c_W CS CO)):FnOk P w K mg base (CXR P w) 7 f fd ["self","row"] (f_X CS CO CT CF):=by
 refine F.okX h_h (λvs H Q E h=> ?_) (λcdv A outer s H vs Q E hr h=> ?_)
 ·obtain⟨A,a,ρ,N,room,s,rfl,_⟩:=h
  rfl
 ·obtain⟨A,a,ρ,N,room,so,rfl,S,ha,ht,hN,k1,k2,k3⟩:=h
  obtain⟨l,st,ms,C,hs,hp,h1,h2⟩:=S.ex;have d:=e_u hr
  refine⟨_,a_d (a_w (i:=2) h_h.nd rfl (Or.inl rfl) (a_v a_t (pv 1) a_e (λ_ _=>rfl)))
   (a_d (a_B (d_C (k_q d (pv 2) (a_E (pv 0) rfl))) (a_f (c_g ex.t d_l (a_a (m_H a_j (pv 2) a_j (by decide+kernel) (by decide+kernel)) a_c))) a_p)
   (a_d (a_B (a_k l_D (a_r f_c (by rfl) T.len p_x (a_a (a_E (pv 0) rfl) a_c)) (a_E (pv 0) rfl) (a_o _)) (a_f (c_g ex.f d_l (a_a a_j a_c))) a_p)
   (a_f (a_y (a_Q (pv 0) TS.cl mC.m GC hr mC.b .nil a_u (a_a k_o (a_a (pv 1) a_c))))))),?_⟩
  obtain⟨rs,hk,hR⟩:=C.nb;obtain⟨v1,v2⟩:=b_K (n:=ρ.n) hR;have gn:DGet H A.nb (.int ρ.n) (c_K (a_O rs l) (Sum.inl ρ.n)):=DGet.k (k:=Sum.inl ρ.n) hk;have eh:=b_i hp ρ.n;have el:(a_O rs l).length=so.kept.length:=by rw[c_F hR,hp.length_eq]
  refine⟨_,rfl,a,_,_,_,rfl,rfl,SqT.of ha,a_g (j:=0) rfl,?_⟩;refine⟨_,rfl,_,rfl,A.o,CS,A.dx,_,_,rfl,C.ob,TS.cl,TS.nNum,d_Y,A.nb,_,rfl,gn,_,rfl,?_⟩;rw[v1,eh];refine a_z (λc=>⟨_,rfl,ρ.n,rfl,ht,λy=>⟨by show 1<=sizeLine;decide,k1 c⟩⟩) (λc=> ?_)
  have c':b_g so.kept ρ.n=false:=by cases q:b_g so.kept ρ.n with
   | false=>rfl
   | true=>exact absurd q c
  refine⟨_,rfl,A.o,CS,A.dx,_,_,rfl,C.ob,TS.cl,TS.nNum,d_Y,A.nb,_,rfl,hk,_,rfl,A.o,CS,A.dx,_,_,rfl,C.ob,TS.cl,TS.nRoom,k_J,_,_,rfl,rfl,_,rfl,?_⟩;rw[el];refine a_z (λq=>⟨by show 1<=sizeLine;decide,k2 c' (p_w q)⟩) (λq=> ?_);have ok:=j_i (l:=l) (ρ:=ρ) (by rw[eh];exact c');have e:=hs.le;refine⟨_,rfl,A.o,A.dx,_,rfl,C.ob,c_P (by decide+kernel) (by decide+kernel) (by decide+kernel) (by decide+kernel) (by decide+kernel) (by decide+kernel),_,rfl,A,.non,.ref a,(none,some ρ),room,l,st,ms,rfl,C,rfl,⟨a,rfl,ha⟩,ok,hs.nums,by omega,by omega,λA' H' C' e' F' tk=> ?_⟩;refine k3 c' (λz=>q (p_u z)) A' H' ⟨_,_,_,C',hs.chg ok,e_E hp ρ,?_, by omega⟩ e' F' tk
  split <;> (try simp only[o_U]) <;> omega
def h_o (CS CO CM:Addr):Sp:=λvs H Q E=>∃(A:Ads) (a:Addr) (ρ:Row) (N:Nat) (room:Int) (s:Sto),vs= [.ref A.o,.ref a]/\SAt CS CO H A N room s/\RowAt H a ρ/\g_J ρ.n/\N<=8000/\
 (b_g s.kept ρ.n=false->E (.ref CM) none H)/\(b_g s.kept ρ.n=true->k_z CS CO H A (N+1) room Q { s with kept:=b_P s.kept ρ })
theorem k_L:a_s ["self","row"] ["self","row"] (a_m i_J):=⟨rfl,rfl,rfl,by decide+kernel,rfl,by decide+kernel,by decide+kernel⟩
theorem j_C {f fC fR CS CO CM:Addr} {fd fdC fdR:FuncData} (F:Fun K "alter" "Store.alter" i_J f fd) (TS:f_k K mg CS CO)
 (mC:Mf K CS "change" fC fdC ["self","old","new"]) (GC:FnOk P w K mg base CX0 6 fC fdC ["self","old","new"] (c_W CS CO)) (mR:Mf K CS "row_of" fR fdR ["self","number"]) (GR:FnOk P w K mg base (CXR P w) 1 fR fdR ["self","number"] (e_r CS CO CM)):
 FnOk P w K mg base (CXR P w) 7 f fd ["self","row"] (h_o CS CO CM):=by
 refine F.okX k_L (λvs H Q E h=> ?_) (λcdv A outer s H vs Q E hr h=> ?_)
 ·obtain⟨A,a,ρ,N,room,s,rfl,_⟩:=h
  rfl
 ·obtain⟨A,a,ρ,N,room,so,rfl,S,ha,ht,hN,k1,k2⟩:=h
  obtain⟨l,st,ms,C,hs,hp,h1,h2⟩:=S.ex;have d:Room 1 _:=hr.mono (by decide);refine⟨_,a_f (a_y (a_Q (pv 0) TS.cl mC.m GC hr mC.b .nil a_u (a_a (a_Q (pv 0) TS.cl mR.m GR d mR.b .nil (d_H (E':=E) λ_ _ _ h=>h) (a_a (a_v a_t (pv 1) a_e (λ_ _=>rfl)) a_c)) (a_a (pv 1) a_c)))),?_⟩;have eh:=b_i hp ρ.n;have e:=hs.le;refine⟨_,rfl,A.o,A.dx,_,rfl,C.ob,c_P (by decide+kernel) (by decide+kernel) (by decide+kernel) (by decide+kernel) (by decide+kernel) (by decide+kernel),_,rfl,A.o,A.dx,_,rfl,C.ob,c_P (by decide+kernel) (by decide+kernel) (by decide+kernel) (by decide+kernel) (by decide+kernel) (by decide+kernel),_,rfl,a,_,_,_,rfl,rfl,SqT.of ha,a_g (j:=0) rfl,A,ρ.n,room,l,st,ms,rfl,C,ht,λc r κ hf hκ=> ?_, λc=>k1 (by rw[<-eh];exact c)⟩;obtain⟨κ',e1,e2,e3⟩:=b_0 c;rw[hf] at e1;cases e1;have ok:=j_m (ρ:=ρ) e2 e3;refine⟨_,rfl,A,.ref r,.ref a,(some κ,some ρ),room,l,st,ms,rfl,C,⟨r,rfl,hκ⟩,⟨a,rfl,ha⟩,ok,hs.nums,by omega,by omega,λA' H' C' e' F' tk=> ?_⟩;refine k2 (by rw[<-eh];exact c) A' H' ⟨_,_,_,C',hs.chg ok,(i_0 hs.nums e2 e3).trans (e_E hp ρ),?_, by omega⟩ e' F' tk
  split <;> (try simp only[o_U]) <;> omega
def m_N (CS CO CM:Addr):Sp:=λvs H Q E=>∃(A:Ads) (n:Int) (N:Nat) (room:Int) (s:Sto),vs= [.ref A.o,.int n]/\SAt CS CO H A N room s/\g_J n/\N<=8000/\
 (b_g s.kept n=false->E (.ref CM) none H)/\(b_g s.kept n=true->k_z CS CO H A (N+1) room Q { s with kept:=a_Z s.kept n })
theorem n_B:a_s ["self","number"] ["self","number"] (a_m n_r):=⟨rfl,rfl,rfl,by decide+kernel,rfl,by decide+kernel,by decide+kernel⟩
theorem l_5 {f fC fR CS CO CM:Addr} {fd fdC fdR:FuncData} (F:Fun K "cut" "Store.cut" n_r f fd) (TS:f_k K mg CS CO)
 (mC:Mf K CS "change" fC fdC ["self","old","new"]) (GC:FnOk P w K mg base CX0 6 fC fdC ["self","old","new"] (c_W CS CO)) (mR:Mf K CS "row_of" fR fdR ["self","number"]) (GR:FnOk P w K mg base (CXR P w) 1 fR fdR ["self","number"] (e_r CS CO CM)):
 FnOk P w K mg base (CXR P w) 7 f fd ["self","number"] (m_N CS CO CM):=by
 refine F.okX n_B (λvs H Q E h=> ?_) (λcdv A outer s H vs Q E hr h=> ?_)
 ·obtain⟨A,n,N,room,s,rfl,_⟩:=h
  rfl
 ·obtain⟨A,n,N,room,so,rfl,S,ht,hN,k1,k2⟩:=h
  obtain⟨l,st,ms,C,hs,hp,h1,h2⟩:=S.ex;have a:Room 1 _:=hr.mono (by decide);refine⟨_,a_f (a_y (a_Q (pv 0) TS.cl mC.m GC hr mC.b .nil a_u (a_a (a_Q (pv 0) TS.cl mR.m GR a mR.b .nil (d_H (E':=E) λ_ _ _ h=>h) (a_a (pv 1) a_c)) (a_a k_o a_c)))),?_⟩;have eh:=b_i hp n;have d:=hs.le;refine⟨_,rfl,A.o,A.dx,_,rfl,C.ob,c_P (by decide+kernel) (by decide+kernel) (by decide+kernel) (by decide+kernel) (by decide+kernel) (by decide+kernel),_,rfl,A.o,A.dx,_,rfl,C.ob,c_P (by decide+kernel) (by decide+kernel) (by decide+kernel) (by decide+kernel) (by decide+kernel) (by decide+kernel),_,rfl,A,n,room,l,st,ms,rfl,C,ht,λc r κ hf hκ=> ?_, λc=>k1 (by rw[<-eh];exact c)⟩;obtain⟨κ',e1,e2,e3⟩:=b_0 c;rw[hf] at e1;cases e1;have ok:=m_E e2;refine⟨A,.ref r,.non,(some κ,none),room,l,st,ms,rfl,C,⟨r,rfl,hκ⟩,rfl,ok,hs.nums,by omega,by omega,λA' H' C' e' F' tk=> ?_⟩;have ed:c_8 l (some κ,none)=a_Z l n:=by rw[<-e3];rfl
  refine k2 (by rw[<-eh];exact c) A' H' ⟨_,_,_,C',hs.chg ok,by rw[ed];exact d_R hp n,?_, by omega⟩ e' F' tk
  split <;> (try simp only[o_U]) <;> omega
def f_M (CS CO:Addr):Sp:=λvs H Q _=>∃(A:Ads) (N:Nat) (room:Int) (s:Sto),vs= [.ref A.o]/\SAt CS CO H A N room s/\N<=8000/\k_z CS CO H A (N+1) room Q { s with marks:=s.kept::s.marks }
theorem l_N:a_s ["self"] ["self"] (a_m h_V):=⟨rfl,rfl,rfl,by decide+kernel,rfl,by decide+kernel,by decide+kernel⟩
theorem i_2 {f CS CO:Addr} {fd:FuncData} (F:Fun K "begin" "Store.begin" h_V f fd) (T:Txt K mg CO) (TS:f_k K mg CS CO):FnOk P w K mg base CX0 1 f fd ["self"] (f_M CS CO):=by
 refine F.ok l_N (λvs H Q E h=> ?_) (λcdv A outer s H vs Q E hr h=> ?_)
 ·obtain⟨A,N,room,s,rfl,_⟩:=h
  rfl
 ·obtain⟨A,N,room,so,rfl,S,hN,fin⟩:=h
  obtain⟨l,st,ms,C,hs,hp,h1,h2⟩:=S.ex;refine⟨_,a_f (a_y (b_Z p_y p_A p_z a_2 (a_E (pv 0) rfl) (a_a (a_r a_x (by rfl) T.len p_x (a_a (a_E (pv 0) rfl) a_c)) a_c))),?_⟩;have a:A.sas.length=st.length:=by rw[Paired.length C.sts,p_q]
  refine⟨_,rfl,A.o,CS,A.dx,_,_,rfl,C.ob,TS.cl,TS.nMarks,c_k,.inl ⟨rfl,_,SqL.of C.mls⟩,_,rfl,A.o,CS,A.dx,_,_,rfl,C.ob,TS.cl,TS.nSteps,c_X,A.sl,_,rfl,.inl (SqL.of C.sls),A.ml,_,_,rfl,rfl,C.mls,?_, ?_⟩
  ·rw[o_O,p_q]
   exact p_t (o_9 h2 hN) (by decide)
  ·obtain⟨C2,F2⟩:=C.setMl (ms':=st.length::ms) (H':=upd H A.ml (.lst ((ms.reverse.map λm:Nat=>V.int m)++ [V.int (((A.sas.map V.ref).length:Nat):Int)]))) (by rw[List.reverse_cons,o_W,o_O,a];rfl)
   refine fin A _ ⟨_,_,_,C2,.mark hp.symm (hs.mono (Nat.le_succ _)),hp,by omega,by simp only[o_U];omega⟩ rfl F2 λb xs e=> ?_;rw[a_i (λq=>by rw[q,C.mls] at e;cases e)];exact e
def k_p (CS CO CN:Addr):Sp:=λvs H Q E=>∃(A:Ads) (N:Nat) (room:Int) (s:Sto),vs= [.ref A.o]/\SAt CS CO H A N room s/\(s.marks= []->E (.ref CN) none H)/\∀k r,s.marks=k::r->k_z CS CO H A N room Q { s with marks:=r }
theorem m_j:a_s ["self"] ["self"] (a_m l_F):=⟨rfl,rfl,rfl,by decide+kernel,rfl,by decide+kernel,by decide+kernel⟩
theorem c_w {N:Nat} {l:List Row} {st:List a_W} {ms:List Nat} {ks:List (List Row)} (h:Hs N l st ms ks):ms= []↔ks= []:=by
 have:=h.lens;constructor
 ·rintro rfl;exact p_k.mp this.symm
 ·rintro rfl;exact p_k.mp this
theorem l_s {f fE CS CO CN:Addr} {fd fdE:FuncData} (F:Fun K "keep" "Store.keep" l_F f fd) (T:Txt K mg CO) (TS:f_k K mg CS CO) (mE:Mf K CS "end_of_last" fE fdE ["self"]) (GE:FnOk P w K mg base (CXR P w) 1 fE fdE ["self"] (k_Q CS CO CN)):
 FnOk P w K mg base (CXR P w) 2 f fd ["self"] (k_p CS CO CN):=by
 refine F.okX m_j (λvs H Q E h=> ?_) (λcdv A outer s H vs Q E hr h=> ?_)
 ·obtain⟨A,N,room,s,rfl,_⟩:=h
  rfl
 ·obtain⟨A,N,room,so,rfl,S,k1,k2⟩:=h
  obtain⟨l,st,ms,C,hs,hp,h1,h2⟩:=S.ex
  refine⟨_,a_d (a_y (b_5 (pv 0) TS.cl mE.m GE hr mE.b .nil (d_H (E':=E) λ_ _ _ h=>h)))
   (a_f (a_B (a_k a_L (a_r a_x (by rfl) T.len p_x (a_a (a_E (pv 0) rfl) a_c)) a_e (a_o _)) (a_f (b_T (pv 0) (a_R a_c) rfl)) a_p)),?_⟩
  refine⟨_,rfl,A.o,A.dx,_,rfl,C.ob,c_P (by decide+kernel) (by decide+kernel) (by decide+kernel) (by decide+kernel) (by decide+kernel) (by decide+kernel),A,room,l,st,ms,rfl,C,λm r em H1 C1 F1 g=> ?_, λe=>k1 ((c_w hs).mp e)⟩;subst em
  obtain⟨k,ks,ek⟩:∃k ks,so.marks=k::ks:=by
   cases q:so.marks with
   | nil=>rw[q] at hs;exact absurd ((c_w hs).mpr rfl) (by simp)
   | cons k ks=>exact⟨k,ks,rfl⟩
  have k3:=k2 k ks ek;rw[ek] at hs;refine⟨_,rfl,A.o,CS,A.dx,_,_,rfl,C1.ob,TS.cl,TS.nMarks,c_k,A.ml,_,rfl,.inl (SqL.of C1.mls),rfl,_,rfl,a_z (λc=> ?_) (λc=> ?_)⟩
  ·have d:r= []:=by
    have:=p_w c;injection this with this
    rw[o_O,p_q] at this;exact p_k.mp (by omega)
   subst d
   have i:ks= []:=by
    have:=hs.lens;simp only[o_U,p_o] at this;exact p_k.mp (by omega)
   subst i;refine⟨by show 0<=sizeLine;decide,λsl' a=> ?_⟩;obtain⟨C2,F2⟩:=C1.newSl TS.cc a;have j:(upd H1 sl' (.lst [])) A.o=some (.ins CS A.dx (b_B room A.nb A.o1 A.o2 A.sl A.ml)):=by rw[a_i (a_h C1.ob a)];exact C1.ob
   refine⟨_,rfl,A.o,CS,A.dx,_,rfl,j,TS.cl,TS.nSteps,by show 6 < 1000;decide,?_⟩;rw[m_V];refine k3 _ _ ⟨_,_,_,C2,.nil hs.le hs.nums,hp,by simp,by simp⟩ rfl (F1.trans F2) λb xs e=> ?_;have e2:=g _ _ e;rw[a_i (λq=>by rw[q,C1.ob] at e2;cases e2),a_i (a_h e2 a)];exact e2
  ·have d:r≠ []:=λq=>by rw[q] at c;exact absurd (p_u rfl) c
   exact k3 A H1 ⟨_,_,_,C1,Hs.keep d hs,hp,h1,by simp only[o_U] at h2;omega⟩ rfl F1 g
def h_r (CS CO CN:Addr):Sp:=λvs H Q E=>∃(A:Ads) (N:Nat) (room:Int) (s:Sto),vs= [.ref A.o]/\SAt CS CO H A N room s/\N<=8000/\(s.marks= []->E (.ref CN) none H)/\∀k r,s.marks=k::r->k_z CS CO H A N room Q ⟨k,r⟩
theorem f_l:a_s ["self","mark","step"] ["self"] (a_m h_7):=⟨rfl,rfl,rfl,by decide+kernel,rfl,by decide+kernel,by decide+kernel⟩
theorem i_7 {f fE fX CS CO CN:Addr} {fd fdE fdX:FuncData} (F:Fun K "break_off" "Store.break_off" h_7 f fd) (T:Txt K mg CO) (TS:f_k K mg CS CO) (mE:Mf K CS "end_of_last" fE fdE ["self"]) (GE:FnOk P w K mg base (CXR P w) 1 fE fdE ["self"] (k_Q CS CO CN))
 (mX:Mf K CS "exchange" fX fdX ["self","old","new"]) (GX:FnOk P w K mg base CX0 5 fX fdX ["self","old","new"] (h_T CS CO)):FnOk P w K mg base (CXR P w) 6 f fd ["self"] (h_r CS CO CN):=by
 refine F.okX f_l (λvs H Q E h=> ?_) (λcdv A outer s H vs Q E hr h=> ?_)
 ·obtain⟨A,N,room,s,rfl,_⟩:=h
  rfl
 ·obtain⟨A,N,room,so,rfl,S,hN,k1,k2⟩:=h
  obtain⟨l,st,ms,C,hs,hp,h1,h2⟩:=S.ex;have U:Room 1 _:=hr.mono (by decide)
  refine⟨_,a_d (a_w (i:=1) f_l.nd rfl (Or.inl rfl) (b_5 (pv 0) TS.cl mE.m GE U mE.b .nil (d_H (E':=E) λ_ _ _ h=>h)))
   (a_f (PS.nox (c_R PassesOwn.never (a_k g_O (a_r a_x (by rfl) T.len p_x (a_a (a_E (pv 0) rfl) a_c)) (pv 1) (a_o _))
     (a_d (a_w (i:=2) f_l.nd rfl (Or.inl rfl) (d_a p_y PySem.F.slot_list_pop PySem.F.type_list_pop e_5 (a_E (pv 0) rfl)))
     (a_f (a_y (a_Q (pv 0) TS.cl mX.m GX hr mX.b .nil a_u (a_a (a_v a_t (pv 2) a_e (λ_ _=>rfl)) (a_a (a_v a_t (pv 2) a_e (λ_ _=>rfl)) a_c))))))))),?_⟩
  refine⟨_,rfl,A.o,A.dx,_,rfl,C.ob,c_P (by decide+kernel) (by decide+kernel) (by decide+kernel) (by decide+kernel) (by decide+kernel) (by decide+kernel),A,room,l,st,ms,rfl,C,λm r em H1 C1 F1 M=> ?_, λe=>k1 ((c_w hs).mp e)⟩;subst em
  obtain⟨k,ks,ek⟩:∃k ks,so.marks=k::ks:=by
   cases q:so.marks with
   | nil=>rw[q] at hs;exact absurd ((c_w hs).mpr rfl) (by simp)
   | cons k ks=>exact⟨k,ks,rfl⟩
  have k3:=k2 k ks ek;rw[ek] at hs
  refine⟨λd σ H2=>∃(A2:Ads) (l2:List Row) (a:List a_W) (v:Option V),σ= [some (.ref A.o),some (.int (m:Nat)),v]/\d=a.length/\h_g CS CO H2 A2 room l2 a r/\A2.o=A.o/\Stp H H2 A.fp A2.fp/\a_F H H2/\Hs N l2 a (m::r) (k::ks)/\a.length<=N,
   ⟨_,A,l,st,none,rfl,rfl,C1,rfl,F1,M,hs,h1⟩,?_⟩
  rintro d σ H2 ⟨A2,l2,a,v,rfl,rfl,C2,e2,F2,G,x,h3⟩;have B:=C2.ob;rw[e2] at B;have I:A2.sas.length=a.length:=by rw[Paired.length C2.sts,p_q]
  refine⟨_,rfl,A.o,CS,A2.dx,_,_,rfl,B,TS.cl,TS.nSteps,c_X,A2.sl,_,rfl,.inl (SqL.of C2.sls),_,rfl,_,_,rfl,rfl,_,rfl,?_⟩;rw[o_O,I];refine a_z (λc=> ?_) (λc=> ?_)
  ·have c':m < a.length:=by have:=p_w c;omega
   cases a with
   | nil=>simp at c'
   | cons p st3=>
     simp only[o_U] at c';obtain⟨ok,R⟩:=x.back (by omega);have y:=C2.sts;rw[List.reverse_cons] at y;obtain⟨l₁,t,l₂,es,L,⟨u,v',ht,hu,hv⟩,O⟩:=a_9 y;cases O;refine⟨λσ' H'=>∃(A3:Ads) (v3:Option V),σ'= [some (.ref A.o),some (.int (m:Nat)),v3]/\h_g CS CO H' A3 room (c_8 l2 (p.2,p.1)) st3 r/\A3.o=A.o/\Stp H H' A.fp A3.fp/\a_F H H',?_, ?_⟩
     ·rintro σ' H' ⟨A3,v3,rfl,C3,e3,F3,g⟩
      exact⟨st3.length,by simp,A3,_,st3,v3,rfl,rfl,C3,e3,F3,g,R,by simp only[o_U] at h3;omega⟩
     ·have els:A2.sas.map V.ref=l₁.map V.ref++ [V.ref t]:=by rw[es,o_W];rfl
      refine⟨_,rfl,A.o,CS,A2.dx,_,_,rfl,B,TS.cl,TS.nSteps,c_X,.inl ⟨rfl,_,SqL.of C2.sls⟩,A2.sl,_,V.ref t,rfl,rfl,C2.sls,?_, ?_⟩
      ·rw[els];simp
      obtain⟨C3,F3⟩:=C2.setSl (sas':=l₁) (st':=st3) (H':=upd H2 A2.sl (.lst (A2.sas.map V.ref).dropLast)) (by rw[els];simp) L
      have g:a_F H2 (upd H2 A2.sl (.lst (A2.sas.map V.ref).dropLast)):=λb xs e=>by
       rw[a_i (λq=>by rw[q,C2.sls] at e;cases e)];exact e
      have n:=C3.ob;dsimp only at n;rw[e2] at n;have W:=x.le;refine⟨_,rfl,A.o,A2.dx,_,rfl,n,c_P (by decide+kernel) (by decide+kernel) (by decide+kernel) (by decide+kernel) (by decide+kernel) (by decide+kernel),_,rfl,t,_,_,_,rfl,rfl,SqT.of (g _ _ ht),a_g (j:=1) rfl,_,rfl,t,_,_,_,rfl,rfl,SqT.of (g _ _ ht),a_g (j:=0) rfl,{ A2 with sas:=l₁ },v',u,(p.2,p.1),room,l2,st3,r,by rw[<-e2];rfl,C3,hv.tk g,hu.tk g,ok,x.nums,by omega,λA4 H4 C4 e4 F4 J=> ?_⟩;exact⟨A4,_,rfl,C4,e4.trans e2,(F2.trans F3).trans F4,λb xs e=>J _ _ (g _ _ (G _ _ e))⟩
  ·have c':a.length≤m:=by
    have:¬ ((a.length:Int) > (m:Int)):=λz=>c (p_u z);omega
   obtain⟨q1,q2⟩:=x.at c';exact k3 A2 H2 ⟨_,_,_,C2,q2,q1.symm,h3,by simp only[o_U] at h2;omega⟩ e2 F2 G
end
theorem m_z {P:Program} {w:World} {X:Cx}:b_Q (CXR P w) X E0:=by
 rintro pins σ H s e s' I ⟨a,C,H',_,_,_,_,q⟩;exact q.elim
section
variable {P:Program} {w:World} {K:PySem.W.Frag} {mg:Str->Option Value} {base:Heap}
def f_D (CS CO:Addr):Sp:=λvs H Q _=>∃(p dx:Addr) (room:Int),vs= [.ref p,.int room]/\H p=some (.ins CS dx [])/\
 ∀(A':Ads) (H':Hp),SAt CS CO H' A' 0 room ⟨[], []⟩->A'.o=p->(∀b∈A'.fp,b=p\/H b=none)->(∀b u,H b=some u->b≠p->H' b=some u)->Q .non H'
theorem k_1:a_s ["self","room"] ["self","room"] (a_m k_0):=⟨rfl,rfl,rfl,by decide+kernel,rfl,by decide+kernel,by decide+kernel⟩
theorem j_z {f fI CS CO:Addr} {fd fdI:FuncData} (F:Fun K "__init__" "Store.__init__" k_0 f fd) (T:Txt K mg CO) (TS:f_k K mg CS CO) (M:Mk K CO fI) (bI:Binds K fdI ["self","word"] []) (GI:FnOk P w K mg base CX0 2 fI fdI ["self","word"] (k_x CO)):
 FnOk P w K mg base CX0 4 f fd ["self","room"] (f_D CS CO):=by
 refine F.ok k_1 (λvs H Q E h=> ?_) (λcdv A outer s H vs Q E hr h=> ?_)
 ·obtain⟨p,dx,room,rfl,_⟩:=h
  rfl
 ·obtain⟨p,dx,room,rfl,hp,fin⟩:=h
  obtain⟨t1,h1⟩:=T.rank;obtain⟨t2,h2⟩:=T.text
  refine⟨_,a_d (b_T (pv 0) (pv 1) rfl) (a_d (b_T (pv 0) g_h rfl) (a_d (b_T (pv 0) (e_m M GI hr rfl T.mgC bI .nil a_u (a_a (f_Q h1) a_c)) rfl)
   (a_d (b_T (pv 0) (e_m M GI hr rfl T.mgC bI .nil a_u (a_a (f_Q h2) a_c)) rfl) (a_d (b_T (pv 0) (a_R a_c) rfl) (a_f (b_T (pv 0) (a_R a_c) rfl)))))),?_⟩
  refine⟨_,rfl,_,rfl,p,CS,dx,_,rfl,hp,TS.cl,TS.nRoom,by show 0 < 1000;decide,?_⟩;have g1:∀b u,H b=some u->b≠p->(upd H p (.ins CS dx [("room",V.int room)])) b=some u:=b_f;show _;generalize x:upd H p (.ins CS dx (c_y "room" (.int room) []))=H1;have p1:H1 p=some (.ins CS dx [("room",.int room)]):=by rw[<-x];exact a_b
  have k1:∀b u,H b=some u->b≠p->H1 b=some u:=by rw[<-x];exact b_f
  have f1:∀b,H1 b=none->b≠p/\H b=none:=λb hb=>by
   have:b≠p:=λe=>by rw[e,p1] at hb;cases hb
   exact⟨this,by rw[<-x,a_i this] at hb;exact hb⟩
  clear x;refine λnb v=>⟨_,rfl,p,CS,dx,_,rfl,by rw[a_i (a_h p1 v)];exact p1,TS.cl,TS.nNum,by show 1 < 1000;decide,?_⟩;have ef:c_y ("by_number":Str) (V.ref nb) [(("room":Str),V.int room)]= [(("room":Str),V.int room),("by_number",.ref nb)]:=by rw[a_Y (by decide+kernel)];rfl
  rw[ef];generalize r:upd (upd H1 nb (.dK [])) p (.ins CS dx [("room",.int room),("by_number",.ref nb)])=H2;have np:nb≠p:=(f1 nb v).1;have p2:H2 p=some (.ins CS dx [("room",.int room),("by_number",.ref nb)]):=by rw[<-r];exact a_b
  have d2:H2 nb=some (.dK []):=by rw[<-r,a_i np];exact a_b
  have k2:∀b u,H b=some u->b≠p->H2 b=some u:=λb u hb hn=>by rw[<-r,a_i hn,a_i (a_h (k1 b u hb hn) v)];exact k1 b u hb hn
  have f2:∀b,H2 b=none->b≠p/\H b=none:=λb hb=>by
   have q1:b≠p:=λe=>by rw[e,p2] at hb;cases hb
   have q2:b≠nb:=λe=>by rw[e,d2] at hb;cases hb
   exact⟨q1,by rw[<-r,a_i q1,a_i q2] at hb;exact (f1 b hb).2⟩
  clear r;refine λo1 a5 L W a9=>⟨false,o1,a5,rfl,a_b,λa H3 J O1 q3=>⟨rfl,?_⟩⟩;have t:∀b u,H2 b=some u->H3 b=some u:=λb u hb=>q3 b u (by rw[a_i (a_h hb L),a_i (a_h hb W)];exact hb) (a_h hb L)
  have a0:H2 a=none:=by
   cases e:H2 a with
   | none=>rfl
   | some u=>rw[a_i (a_h e L),a_i (a_h e W),e] at J;cases J
  refine⟨_,rfl,p,CS,dx,_,rfl,t _ _ p2,TS.cl,TS.nRank,by show 2 < 1000;decide,?_⟩;have a2:c_y ("by_rank":Str) (V.ref o1) [(("room":Str),V.int room),("by_number",.ref nb)]= [(("room":Str),V.int room),("by_number",.ref nb),("by_rank",.ref o1)]:=by rw[a_Y (by decide+kernel),a_Y (by decide+kernel)];rfl
  rw[a2]
  have tkp:∀{Hx:Hp} {fl fl':List (Str×V)},Hx p=some (.ins CS dx fl)->∀{w:Bool} {o bl:Addr} {bas:List Addr} {B:List (List Row)},OrdAt CO w Hx o bl bas B->OrdAt CO w (upd Hx p (.ins CS dx fl')) o bl bas B:=by
   intro Hx fl fl' hx w o bl bas B O;obtain⟨⟨d,z1⟩,z2,z3,z4⟩:=O;refine⟨⟨d,?_⟩,?_, ?_, z4⟩
   ·rw[a_i λe=> ?_]
    ·exact z1
    ·rw[e,hx] at z1
     injection z1 with z1
     injection z1 with z1
     exact TS.cc z1
   ·rw[a_i λe=>by rw[e,hx] at z2;cases z2];exact z2
   ·exact a_H (fun xs e=>by rw[hx] at e;cases e) z3 fun b hb e=>by
     obtain⟨xs,q⟩:=d_k z3 b hb;rw[e,hx] at q;cases q
  generalize y:upd H3 p (.ins CS dx [("room",.int room),("by_number",.ref nb),("by_rank",.ref o1)])=H4;have R:OrdAt CO false H4 o1 a [] []:=by rw[<-y];exact tkp (t _ _ p2) O1
  have p4:H4 p=some (.ins CS dx [("room",.int room),("by_number",.ref nb),("by_rank",.ref o1)]):=by rw[<-y];exact a_b
  have U:∀b u,H3 b=some u->b≠p->H4 b=some u:=by rw[<-y];exact b_f
  have d4:H4 nb=some (.dK []):=U _ _ (t _ _ d2) np;have k4:∀b u,H b=some u->b≠p->H4 b=some u:=λb u hb hn=>U _ _ (t _ _ (k2 b u hb hn)) hn
  have f4:∀b,H4 b=none->b≠p/\H b=none:=λb hb=>by
   have q1:b≠p:=λe=>by rw[e,p4] at hb;cases hb
   refine⟨q1,?_⟩;cases e:H b with
   | none=>rfl
   | some u=>rw[k4 b u e q1] at hb;cases hb
  clear y;refine λo2 a8 G S aa=>⟨true,o2,a8,rfl,a_b,λc H5 N O2 q5=>⟨rfl,?_⟩⟩;have i:∀b u,H4 b=some u->H5 b=some u:=λb u hb=>q5 b u (by rw[a_i (a_h hb G),a_i (a_h hb S)];exact hb) (a_h hb G)
  have X:H4 c=none:=by
   cases e:H4 c with
   | none=>rfl
   | some u=>rw[a_i (a_h e G),a_i (a_h e S),e] at N;cases N
  refine⟨_,rfl,p,CS,dx,_,rfl,i _ _ p4,TS.cl,TS.nText,by show 3 < 1000;decide,?_⟩;have a6:c_y ("by_text":Str) (V.ref o2) [(("room":Str),V.int room),("by_number",.ref nb),("by_rank",.ref o1)]= [(("room":Str),V.int room),("by_number",.ref nb),("by_rank",.ref o1),("by_text",.ref o2)]:=by rw[a_Y (by decide+kernel),a_Y (by decide+kernel),a_Y (by decide+kernel)];rfl
  rw[a6];generalize n:upd H5 p (.ins CS dx [("room",.int room),("by_number",.ref nb),("by_rank",.ref o1),("by_text",.ref o2)])=H6;have Z:OrdAt CO true H6 o2 c [] []:=by rw[<-n];exact tkp (i _ _ p4) O2
  have z:OrdAt CO false H6 o1 a [] []:=by rw[<-n];exact tkp (i _ _ p4) (R.same i)
  have p6:H6 p=some (.ins CS dx [("room",.int room),("by_number",.ref nb),("by_rank",.ref o1),("by_text",.ref o2)]):=by rw[<-n];exact a_b
  have Y:∀b u,H5 b=some u->b≠p->H6 b=some u:=by rw[<-n];exact b_f
  have d6:H6 nb=some (.dK []):=Y _ _ (i _ _ d4) np;have k6:∀b u,H b=some u->b≠p->H6 b=some u:=λb u hb hn=>Y _ _ (i _ _ (k4 b u hb hn)) hn;clear n;refine⟨by show 0<=sizeLine;decide,λsl j=> ?_⟩;have s7:Same H6 (upd H6 sl (.lst [])):=Same.upd_new j;refine⟨_,rfl,p,CS,dx,_,rfl,s7 _ _ p6,TS.cl,TS.nSteps,by show 4 < 1000;decide,?_⟩;have a1:c_y ("steps":Str) (V.ref sl) [(("room":Str),V.int room),("by_number",.ref nb),("by_rank",.ref o1),("by_text",.ref o2)]= [(("room":Str),V.int room),("by_number",.ref nb),("by_rank",.ref o1),("by_text",.ref o2),("steps",.ref sl)]:=by rw[a_Y (by decide+kernel),a_Y (by decide+kernel),a_Y (by decide+kernel),a_Y (by decide+kernel)];rfl
  rw[a1];generalize m:upd (upd H6 sl (.lst [])) p (.ins CS dx [("room",.int room),("by_number",.ref nb),("by_rank",.ref o1),("by_text",.ref o2),("steps",.ref sl)])=H8;have nsp:sl≠p:=λe=>by rw[e,p6] at j;cases j
  have p8:H8 p=some (.ins CS dx [("room",.int room),("by_number",.ref nb),("by_rank",.ref o1),("by_text",.ref o2),("steps",.ref sl)]):=by rw[<-m];exact a_b
  have I:∀b u,(upd H6 sl (.lst [])) b=some u->b≠p->H8 b=some u:=by rw[<-m];exact b_f
  have l8:H8 sl=some (.lst []):=I _ _ a_b nsp;have A1:OrdAt CO false H8 o1 a [] []:=by rw[<-m];exact tkp (s7 _ _ p6) (z.same s7)
  have A2:OrdAt CO true H8 o2 c [] []:=by rw[<-m];exact tkp (s7 _ _ p6) (Z.same s7)
  have d8:H8 nb=some (.dK []):=I _ _ (s7 _ _ d6) np;have k8:∀b u,H b=some u->b≠p->H8 b=some u:=λb u hb hn=>I _ _ (s7 _ _ (k6 b u hb hn)) hn;clear m;refine⟨by show 0<=sizeLine;decide,λml g=> ?_⟩;have s9:Same H8 (upd H8 ml (.lst [])):=Same.upd_new g;refine⟨_,rfl,p,CS,dx,_,rfl,s9 _ _ p8,TS.cl,TS.nMarks,by show 5 < 1000;decide,?_⟩;have a3:c_y ("marks":Str) (V.ref ml) [(("room":Str),V.int room),("by_number",.ref nb),("by_rank",.ref o1),("by_text",.ref o2),("steps",.ref sl)]=b_B room nb o1 o2 sl ml:=by rw[a_Y (by decide+kernel),a_Y (by decide+kernel),a_Y (by decide+kernel),a_Y (by decide+kernel),a_Y (by decide+kernel)];rfl
  rw[a3];generalize l:upd (upd H8 ml (.lst [])) p (.ins CS dx (b_B room nb o1 o2 sl ml))=H10;have nmp:ml≠p:=λe=>by rw[e,p8] at g;cases g
  have k:∀b u,(upd H8 ml (.lst [])) b=some u->b≠p->H10 b=some u:=by rw[<-l];exact b_f
  have Z1:OrdAt CO false H10 o1 a [] []:=by rw[<-l];exact tkp (s9 _ _ p8) (A1.same s9)
  have Z2:OrdAt CO true H10 o2 c [] []:=by rw[<-l];exact tkp (s9 _ _ p8) (A2.same s9)
  have n1:sl≠ml:=a_h l8 g;have n2:a≠ml:=a_h A1.ls g;have n3:c≠ml:=a_h A2.ls g;have n4:a≠sl:=a_h z.ls j;have n5:c≠sl:=a_h Z.ls j;have n6:a≠c:=a_h R.ls X
  have a7:∀b,H8 b=none->b≠p/\H b=none:=λb hb=>by
   have q1:b≠p:=λe=>by rw[e,p8] at hb;cases hb
   refine⟨q1,?_⟩;cases e:H b with
   | none=>rfl
   | some u=>rw[k8 b u e q1] at hb;cases hb
  have a4:∀b,H6 b=none->b≠p/\H b=none:=λb hb=>by
   have q1:b≠p:=λe=>by rw[e,p6] at hb;cases hb
   refine⟨q1,?_⟩;cases e:H b with
   | none=>rfl
   | some u=>rw[k6 b u e q1] at hb;cases hb
  have C:h_g CS CO H10 ⟨p,dx,nb,o1,o2,sl,ml,a,c, [], [], []⟩ room [] [] []:=
   ⟨by rw[←l];exact a_b,⟨[],k _ _ (s9 _ _ d8) np,.nil⟩,⟨[],Z1,⟨by simp[Adj],by simp⟩,by simp⟩,⟨[],Z2,⟨by simp[Adj],by simp⟩,by simp⟩,k _ _ (s9 _ _ l8) nsp,.nil,k _ _ a_b nmp,
     (e_f _).mpr ⟨n1,λb hb=>by simp at hb;rw[hb];exact⟨n4,n2⟩,λb hb=>by simp at hb;rw[hb];exact⟨n5,n3⟩,by simp,by simp,λb hb hc=>by simp at hb hc;exact n6 (hb ▸ hc)⟩⟩
  refine fin _ H10 ⟨[], [], [],C,.nil (o_X _) (List.nodup_nil),.refl _,o_X _,o_X _⟩ rfl (λb hb=> ?_) λb u hb hn=>k _ _ (s9 _ _ (k8 b u hb hn)) hn;simp only[Ads.fp,Ads.ls,o_Z,o_6,List.not_mem_nil,or_false] at hb;rcases hb with e | e | e | e | e | e
  ·exact .inl e
  ·exact .inr (by rw[e];exact (f1 nb v).2)
  ·exact .inr (by rw[e];exact (a4 sl j).2)
  ·exact .inr (by rw[e];exact (a7 ml g).2)
  ·exact .inr (by rw[e];exact (f2 a a0).2)
  ·exact .inr (by rw[e];exact (f4 c X).2)
end
end K1
namespace TO
open PySem L2
end TO
namespace K1
open PySem L2 TO
section
variable {P:Program} {w:World} {K:PySem.W.Frag} {mg:Str->Option Value} {base:Heap}
abbrev NoW (CNo:Addr) (x:Str) (E:XK) (H:Hp):Prop:=d_d x=none->(PySem.reprText x).length<=1000/\∀H',Same H H'->E (.ref CNo) none H'
def l_d (CNo:Addr):Sp:=λvs H Q E=>∃x:Str,vs= [.str x]/\(∀w,d_d x=some w->Q .non H)/\NoW CNo x E H
theorem l_2 {f C CNo:Addr} {fd:FuncData} (F:Fun K "check_word" "check_word" sCW f fd) (T:Txt K mg C) (eO:Exc K mg "NoOrder" CNo):FnOk P w K mg base (CXR P w) 1 f fd ["word"] (l_d CNo):=by
 refine F.okX n_2 (λvs H Q E h=> ?_) (λcdv A outer s H vs Q E hr h=> ?_)
 ·obtain⟨x,rfl,_⟩:=h
  rfl
 ·obtain⟨x,rfl,k1,k2⟩:=h
  obtain⟨t1,h1⟩:=T.rank;obtain⟨t2,h2⟩:=T.text;refine⟨_,a_f (a_B (PW.pt (d_Z (a_k c_O (pv 0) (f_Q h1) (a_o _)) (c_B (a_k c_O (pv 0) (f_Q h2) (a_o _))))) (a_f (c_g eO d_l (a_a (m_w a_j (pv 0) (by decide+kernel)) a_c))) a_p),?_⟩;refine⟨_,rfl,rfl,_,rfl,?_⟩;by_cases c1:x="rank"
  ·subst c1
   exact h_2 rfl (k1 false (if_pos rfl))
  ·have d1:(!decide (V.str x=V.str "rank"))=true:=by
    rw[p_v λq=>c1 (by injection q)];rfl
   refine a_z (λ_=> ?_) (λq=>absurd d1 q);refine⟨_,rfl,rfl,_,rfl,?_⟩;by_cases c2:x="text"
   ·subst c2
    exact h_2 rfl (k1 true (by unfold d_d;rw[if_neg c1,if_pos rfl]))
   ·have d2:(!decide (V.str x=V.str "text"))=true:=by
     rw[p_v λq=>c2 (by injection q)];rfl
    refine a_z (λ_=> ?_) (λq=>absurd d2 q);obtain⟨q1,q2⟩:=k2 (by unfold d_d;rw[if_neg c1,if_neg c2]);exact⟨_,rfl,x,rfl,q1,λy=>⟨by show 1<=sizeLine;decide,q2 H (Same.refl H)⟩⟩
end
section
variable {P:Program} {w:World} {K:PySem.W.Frag} {mg:Str->Option Value} {base:Heap}
end
end K1
namespace TO
open PySem L2
def b_z (room:Int) (s:Sto):Deed->Str
 | .chg c=>(b_p room s.kept c).2
 | .begin=>"done"
 | .keep=>if s.marks= [] then "not begun" else "done"
 | .brk=>if s.marks= [] then "not begun" else "done"
 | _=>"nothing"
theorem h_8 {room:Int} {s:Sto} {d:Deed} (h:d.plain):(s.step room d).2= .str (b_z room s d):=by
 cases d with
 | chg c=>rfl
 | begin=>rfl
 | keep=>unfold Sto.step b_z;cases s.marks <;> rfl
 | brk=>unfold Sto.step b_z;cases s.marks <;> rfl
 | _=>exact h.elim
theorem j_r {room:Int} {s:Sto} {d:Deed} (h:d.plain) (hw:¬ b_z room s d="done"):(s.step room d).1=s:=by
 cases d with
 | chg c=>
   have:(b_p room s.kept c).1=s.kept:=by
    have b:¬ (b_p room s.kept c).2="done":=hw
    revert b
    cases c <;> simp only[b_p] <;> (repeat' split) <;> intro b <;> first | rfl | exact absurd rfl b
   show ({ s with kept:=(b_p room s.kept c).1 }:Sto)=s;rw[this]
 | begin=>exact absurd rfl hw
 | keep=>
   unfold b_z at hw;unfold Sto.step;cases e:s.marks with
   | nil=>rfl
   | cons a r=>rw[e] at hw;simp at hw
 | brk=>
   unfold b_z at hw;unfold Sto.step;cases e:s.marks with
   | nil=>rfl
   | cons a r=>rw[e] at hw;simp at hw
 | _=>exact h.elim
end TO
namespace K1
open PySem L2 TO
structure l_A (K:PySem.W.Frag) (CT CM CF CN CO:Addr):Prop where
 tt:PySem.W.exmOne K (.ref CT) (.ref CT)=some true
 mt:PySem.W.exmOne K (.ref CM) (.ref CT)=some false
 mm:PySem.W.exmOne K (.ref CM) (.ref CM)=some true
 ft:PySem.W.exmOne K (.ref CF) (.ref CT)=some false
 fm:PySem.W.exmOne K (.ref CF) (.ref CM)=some false
 ff:PySem.W.exmOne K (.ref CF) (.ref CF)=some true
 nt:PySem.W.exmOne K (.ref CN) (.ref CT)=some false
 nm:PySem.W.exmOne K (.ref CN) (.ref CM)=some false
 nf:PySem.W.exmOne K (.ref CN) (.ref CF)=some false
 nn:PySem.W.exmOne K (.ref CN) (.ref CN)=some true
 ot:PySem.W.exmOne K (.ref CO) (.ref CT)=some false
 om:PySem.W.exmOne K (.ref CO) (.ref CM)=some false
 of:PySem.W.exmOne K (.ref CO) (.ref CF)=some false
 on:PySem.W.exmOne K (.ref CO) (.ref CN)=some false
 oo:PySem.W.exmOne K (.ref CO) (.ref CO)=some true
structure o_B (CT CF CM CN:Addr) (x:Str) (E:XK) (H:Hp):Prop where
 t:x="taken"->E (.ref CT) none H
 f:x="full"->E (.ref CF) none H
 m:x="missing"->E (.ref CM) none H
 n:x="not begun"->E (.ref CN) none H
section
variable {P:Program} {w:World} {K:PySem.W.Frag} {mg:Str->Option Value} {base:Heap}
end
end K1
namespace TO
open PySem L2
theorem g_s:∀{l m:List Int},l.Nodup->(∀x∈l,x∈m)->l.length<=m.length
 | [],m,_,_=>p_g _
 | a::r,m,h,hs=>by
   rw[p_i] at h;have ha:=hs a (o_S ..);have:=g_s (l:=r) (m:=m.erase a) h.2 λx hx=>(List.mem_erase_of_ne (λe:x=a=>h.1 (by rw[<-e];exact hx))).mpr (hs x (o_R _ hx));rw[List.length_erase_of_mem ha] at this;have hp:0 < m.length:=List.length_pos_of_mem ha;simp only[o_U];omega
structure Sto.inML (sd:Int) (s:Sto):Prop where
 kept:∀x∈s.kept,x.n∈ML sd
 marks:∀k∈s.marks,∀x∈k,x.n∈ML sd
theorem j_s {sd:Int} {l:List Row} (hn:c_m l) (h:∀x∈l,x.n∈ML sd):l.length < 64:=by
 have:=g_s hn λn hn'=>by
  obtain⟨x,hx,e⟩:=p_j.mp hn';rw[<-e];exact h x hx
 rw[o_O,m_u] at this;omega
theorem j_W {l:List Row} {ρ x:Row} (h:x∈b_P l ρ):x=ρ\/x∈l:=by
 unfold b_P at h;split at h
 ·obtain⟨y,hy,e⟩:=p_j.mp h
  split at e
  ·exact .inl e.symm
  ·exact .inr (e ▸ hy)
 ·rcases o_6.mp h with q | q
  ·exact .inr q
  ·exact .inl (o_T.mp q)
theorem i_h {room sd:Int} {l:List Row} {c:Chg} (hc:c.tell sd) (h:∀x∈l,x.n∈ML sd):∀x∈(b_p room l c).1,x.n∈ML sd:=by
 have put:∀ρ:Row,ρ.n∈ML sd->∀x∈b_P l ρ,x.n∈ML sd:=λρ hρ x hx=>by
  rcases j_W hx with e | e
  ·rw[e];exact hρ
  ·exact h x e
 cases c with
 | bring ρ=>simp only[b_p];(repeat' split) <;> first | exact h | exact put ρ hc
 | alter ρ=>simp only[b_p];split <;> first | exact h | exact put ρ hc
 | cut n=>
   simp only[b_p];split
   ·exact λx hx=>h x (List.mem_filter.mp hx).1
   ·exact h
theorem i_p {room sd:Int} {l0:List Row} (h0:∀x∈l0,x.n∈ML sd):∀{cs:List Chg} {i:Nat} {l:List Row},(∀c∈cs,c.tell sd)->(∀x∈l,x.n∈ML sd)->∀x∈(l_k room l0 i l cs).1,x.n∈ML sd
 | [],i,l,_,h=>h
 | c::r,i,l,hc,h=>by
   unfold l_k;dsimp only;split
   ·exact i_p h0 (λd hd=>hc d (o_R _ hd)) (i_h (hc c (o_S ..)) h)
   ·exact h0
theorem l_v {room sd:Int} {s:Sto} {d:Deed} (hd:d.tell sd) (h:s.inML sd):(s.step room d).1.inML sd:=by
 cases d with
 | chg c=>exact⟨i_h hd h.kept,h.marks⟩
 | all cs=>exact⟨i_p h.kept hd h.kept,h.marks⟩
 | begin=>exact⟨h.kept,fun k hk=>by
    rcases o_Z.mp hk with e | e
    ·rw[e];exact h.kept
    ·exact h.marks k e⟩
 | keep=>
   unfold Sto.step;cases e:s.marks with
   | nil=>exact h
   | cons a r=>exact⟨h.kept,λk hk=>h.marks k (by rw[e];exact o_R _ hk)⟩
 | brk=>
   unfold Sto.step;cases e:s.marks with
   | nil=>exact h
   | cons a r=>exact⟨h.marks a (by rw[e];exact o_S ..),λk hk=>h.marks k (by rw[e];exact o_R _ hk)⟩
 | _=>exact h
end TO
namespace K1
open PySem L2 TO
inductive Ans (H:Hp) (f:List Addr):D->V->Prop
 | str (x:Str):Ans H f (.str x) (.str x)
 | int (i:Int):Ans H f (.int i) (.int i)
 | row {a:Addr} {ρ:Row}:RowAt H a ρ->Ans H f (j_k ρ) (.ref a)
 | pair {a:Addr} {i:Int} {x:Str}:H a=some (.tup [.int i,.str x])->Ans H f (.tup [.int i,.str x]) (.ref a)
 | rows {t:Addr} {l:List Row}:LstAt H t l->t∉f->Ans H f (i_U l) (.ref t)
def NewA (H H':Hp) (v:V):Prop:=∀t xs,v= .ref t->H' t=some (.lst xs)->H t=none
theorem NewA.str {H H':Hp} (x:Str):NewA H H' (.str x):=λt xs e=>by cases e
section
variable {P:Program} {w:World} {K:PySem.W.Frag} {mg:Str->Option Value} {base:Heap}
end
theorem h_1 {H H':Hp} (s:Same H H'):a_F H H':=λb xs q=>s _ _ q
section
variable {P:Program} {w:World} {K:PySem.W.Frag} {mg:Str->Option Value} {base:Heap}
end
end K1
namespace TO
open PySem L2
theorem g_d (room:Int):∀(ds:List Deed) (s:Sto) (d:Deed),s.run room (ds++ [d])=(((s.run room ds).1.step room d).1,(s.run room ds).2++ [((s.run room ds).1.step room d).2])
 | [],s,d=>rfl
 | e::r,s,d=>by
   show (((s.step room e).1.run room (r++ [d])).1,(s.step room e).2::((s.step room e).1.run room (r++ [d])).2)=_;rw[g_d room r];rfl
theorem k_k {room sd:Int}:∀{ds:List Deed} {s:Sto},(∀d∈ds,d.tell sd)->s.inML sd->(s.run room ds).1.inML sd
 | [],s,_,h=>h
 | d::r,s,hd,h=>k_k (ds:=r) (λe he=>hd e (o_R _ he)) (l_v (hd d (o_S ..)) h)
end TO
namespace K1
open PySem L2 TO
section
variable {P:Program} {w:World} {K:PySem.W.Frag} {mg:Str->Option Value} {base:Heap}
theorem e_6 {H H':Hp} {p dx C:Addr} (hp:H p=none) (hd:H dx=none) (kp:∀b u,(upd (upd H dx (.own p)) p (.ins C dx [])) b=some u->b≠p->H' b=some u):Same H H':=λb u hb=>
 kp b u (by rw[a_i (a_h hb hp),a_i (a_h hb hd)];exact hb) (a_h hb hp)
theorem e_1 {H:Hp} {p dx C b:Addr} (hp:H p=none) (hd:H dx=none) (h:b=p\/(upd (upd H dx (.own p)) p (.ins C dx [])) b=none):H b=none:=by
 rcases h with e | e
 ·rw[e];exact hp
 ·cases q:H b with
  | none=>rfl
  | some u=>rw[a_i (a_h q hp),a_i (a_h q hd),q] at e;cases e
def atF (ns:List Int) (k:Int):Int:=if ns= [] then 0 else ns.getD (k % (ns.length:Int)).toNat 0+3 * (k / (ns.length:Int))
def k_Z (K:PySem.W.Frag):Sp:=λvs H Q _=>∃(a:Addr) (ns:List Int) (k:Int),vs= [.ref a,.int k]/\SqL K H a (ns.map V.int)/\ns.length<=1000/\0<=k/\k < 2 ^ 60/\∀H',Same H H'->Q (.int (atF ns k)) H'
theorem m_s {f:Addr} {fd:FuncData} (F:Fun K "_law_at" "_law_at" sAt f fd) (B:Bt mg):FnOk P w K mg base CX0 1 f fd ["_law_script","_law_k"] (k_Z K):=by
 refine F.ok o_o (λvs H Q E h=> ?_) (λcdv A outer s H vs Q E hr h=> ?_)
 ·obtain⟨a,ns,k,rfl,_⟩:=h
  rfl
 ·obtain⟨a,ns,k,rfl,ha,hl,g,e,fin⟩:=h
  have hu:=hr.units0
  refine⟨_,(a_d (a_B (a_k (g_E hu) (pv 0) (a_R a_c) (a_o _)) (a_f (a_n a_e)) a_p)
   (a_f (a_n (a_q a_J (a_v a_M (pv 0) (a_q a_I (pv 1) (a_r a_x (by rfl) B.len p_x (a_a (pv 0) a_c))) (λ_ _=>rfl)) (a_q b_o a_e (a_q a_U (pv 1) (a_r a_x (by rfl) B.len p_x (a_a (pv 0) a_c)))))))),?_⟩
  refine⟨_,rfl,by show 0<=sizeLine;decide,λn hn=> ?_⟩;have s1:Same H (upd H n (.lst [])):=Same.upd_new hn;refine⟨a,n,_,rfl,rfl,s1.seq ha,a_b,_,rfl,?_⟩;cases ns with
  | nil=>exact fin _ s1
  | cons z r=>
    refine d_G ?_;have b:((((z::r).map V.int).length:Nat):Int)=((z::r).length:Int):=by simp
    have hp:(0:Int) < ((((z::r).map V.int).length:Nat):Int):=by rw[b];simp
    have hz:((((z::r).map V.int).length:Nat):Int) < 1073741824:=by rw[b];omega
    have hv:atI ((z::r).map V.int) (k % ((((z::r).map V.int).length:Nat):Int))=some (.int ((z::r).getD (k % ((z::r).length:Int)).toNat 0)):=by
     have h1:=Int.emod_nonneg k (show ((((z::r).map V.int).length:Nat):Int)≠0 by omega);have h2:=Int.emod_lt_of_pos k hp;obtain⟨j,hj⟩:∃j:Nat,k % ((((z::r).map V.int).length:Nat):Int)=(j:Int):=⟨(k % ((((z::r).map V.int).length:Nat):Int)).toNat,by omega⟩;have c:j < (z::r).length:=by rw[b] at h2 hj;omega
     have d:(k % ((z::r).length:Int)).toNat=j:=by rw[<-b,hj];rfl
     rw[hj,d];exact a_g (by rw[o_0,o_7,o_P c];rfl)
    refine⟨_,rfl,_,rfl,_,rfl,a,_,rfl,.inl (s1.seq ha),_,_,rfl,rfl,hp,?_⟩;refine⟨a,_,_,_,rfl,rfl,s1.seq ha,hv,?_⟩;refine⟨_,rfl,_,rfl,a,_,rfl,.inl (s1.seq ha),_,_,rfl,rfl,⟨hp,hz⟩,_,_,rfl,rfl,.inl ⟨by decide,by decide⟩,_,_,rfl,rfl,?_⟩;have:=fin _ s1;unfold atF at this;rw[if_neg (by simp)] at this;rw[b];exact this
def m_q (K:PySem.W.Frag):Sp:=λvs H Q _=>∃(a:Addr) (ns:List Int) (k:Int),vs= [.ref a,.int k]/\SqL K H a (ns.map V.int)/\ns.length<=1000/\0<=k/\k < 2 ^ 60/\∀i H',Same H H'->Q (.int i) H'
theorem m_r {f:Addr} {fd:FuncData} (G:FnOk P w K mg base CX0 1 f fd ["_law_script","_law_k"] (k_Z K)):FnOk P w K mg base CX0 1 f fd ["_law_script","_law_k"] (m_q K):=
 G.imp λvs H Q E ⟨a,ns,k,e,ha,hl,h0,h1,fin⟩=>⟨a,ns,k,e,ha,hl,h0,h1,λH' s=>fin _ H' s⟩
def d_N:Sp:=λvs H Q _=>∃(y n c:Int),vs= [.int y,.int n,.int c]/\-1<=n/\n<=25/\∀(a:Addr) (ch:Chg) (H':Hp),H a=none->Same H H'->ChgAt H' a ch->ch.short->Q (.ref a) H'
theorem g_S:a_s ["_law_way","_law_number","_law_cell"] ["_law_way","_law_number","_law_cell"] (a_m c_5):=⟨rfl,rfl,rfl,by decide+kernel,rfl,by decide+kernel,by decide+kernel⟩
theorem f_R {f fFar fDr:Addr} {fd fdFar fdDr:FuncData} (F:Fun K "_law_change_of" "_law_change_of" c_5 f fd) (gFar:Gf K mg "_law_far" fFar fdFar ["_law_number"]) (GFar:FnOk P w K mg base CX0 1 fFar fdFar ["_law_number"] h_M)
 (gDr:Gf K mg "_law_drawn_row" fDr fdDr ["_law_number","_law_cell"]) (GDr:FnOk P w K mg base CX0 2 fDr fdDr ["_law_number","_law_cell"] f_s):FnOk P w K mg base CX0 3 f fd ["_law_way","_law_number","_law_cell"] d_N:=by
 refine F.ok g_S (λvs H Q E h=> ?_) (λcdv A outer s H vs Q E hr h=> ?_)
 ·obtain⟨y,n,c,rfl,_⟩:=h
  rfl
 ·obtain⟨y,n,c,rfl,g,d,fin⟩:=h
  have e:Room 1 _:=hr.mono (by decide);have i:Room 2 _:=hr.mono (by decide)
  refine⟨_,(a_d (a_B (a_k f_a (a_q a_I (pv 0) a_e) a_e (a_o _)) (a_f (a_n (a_A (a_a a_j (a_a (a_l GDr i rfl gDr.mg gDr.kp gDr.b .nil a_u (a_a (a_l GFar e rfl gFar.mg gFar.kp gFar.b .nil a_u (a_a (pv 1) a_c)) (a_a (pv 2) a_c))) a_c))))) a_p)
   (a_d (a_B (a_k a_L (a_q a_I (pv 0) a_e) a_e (a_o _)) (a_f (a_n (a_A (a_a a_j (a_a (a_l GDr i rfl gDr.mg gDr.kp gDr.b .nil a_u (a_a (a_l GFar e rfl gFar.mg gFar.kp gFar.b .nil a_u (a_a (pv 1) a_c)) (a_a (pv 2) a_c))) a_c))))) a_p)
   (a_f (a_n (a_A (a_a a_j (a_a (a_l GFar e rfl gFar.mg gFar.kp gFar.b .nil a_u (a_a (pv 1) a_c)) a_c))))))),?_⟩
  refine⟨_,rfl,_,_,rfl,rfl,(show (0:Int) < 5 by decide),_,_,rfl,rfl,_,rfl,?_⟩;refine a_z (λ_=> ?_) (λ_=> ?_)
  ·refine⟨_,rfl,_,rfl,λH1 s1=>⟨_,rfl,_,_,rfl,λr ρ H2 hf s2 hr en ht=>⟨by show 2<=sizeLine;decide,λa ha=> ?_⟩⟩⟩
   exact fin a (.bring ρ) _ (s1.free (s2.free ha)) ((s1.trans s2).trans (Same.upd_new ha)) ⟨r,a_b,Same.upd_new ha _ _ hr⟩ ⟨ht,by rw[en];exact e_A g d⟩
  refine⟨_,rfl,_,_,rfl,rfl,(show (0:Int) < 5 by decide),rfl,_,rfl,?_⟩;refine a_z (λ_=> ?_) (λ_=> ?_)
  ·refine⟨_,rfl,_,rfl,λH1 s1=>⟨_,rfl,_,_,rfl,λr ρ H2 hf s2 hr en ht=>⟨by show 2<=sizeLine;decide,λa ha=> ?_⟩⟩⟩
   exact fin a (.alter ρ) _ (s1.free (s2.free ha)) ((s1.trans s2).trans (Same.upd_new ha)) ⟨r,a_b,Same.upd_new ha _ _ hr⟩ ⟨ht,by rw[en];exact e_A g d⟩
  refine⟨_,rfl,_,rfl,λH1 s1=>⟨by show 2<=sizeLine;decide,λa ha=> ?_⟩⟩;exact fin a (.cut (far n)) _ (s1.free ha) (s1.trans (Same.upd_new ha)) a_b (e_A g d)
structure DNew (H H':Hp) (a:Addr) (d:Deed):Prop where
 new:H a=none
 same:Same H H'
 at_:DeedAt H' a d
 form:d.form
 short:d.short
 inn:∀l',H' a=some (.tup [.str "all",.ref l'])->H l'=none
theorem b_b {H':Hp} {H:Hp} {a:Addr} {x:Str} {r:List V} (e:H' a=some (.tup (.str x::r))) (hx:¬ x="all"):∀l',H' a=some (.tup [.str "all",.ref l'])->H l'=none:=λl' e'=>by
 rw[e] at e';injection e' with e'
 injection e' with e'
 injection e' with e1 _
 injection e1 with e1
 exact absurd e1 hx
def c_N:Sp:=λvs H Q _=>∃(y n c:Int),vs= [.int y,.int n,.int c]/\-1000<=n/\n<=1000/\∀(a:Addr) (d:Deed) (H':Hp),DNew H H' a d->d.asks->Q (.ref a) H'
theorem j_u (z:Int):∃x:Str,atI [V.str "rank",V.str "text",V.str "rank",V.str "text",V.str "ranks"] (z % 5)=some (.str x)/\c_t x:=by
 rcases (show z % 5=0\/z % 5=1\/z % 5=2\/z % 5=3\/z % 5=4 by omega) with e | e | e | e | e <;> rw[e]
 ·exact⟨_,a_g (j:=0) rfl,.inl rfl⟩
 ·exact⟨_,a_g (j:=1) rfl,.inr (.inl rfl)⟩
 ·exact⟨_,a_g (j:=2) rfl,.inl rfl⟩
 ·exact⟨_,a_g (j:=3) rfl,.inr (.inl rfl)⟩
 ·exact⟨_,a_g (j:=4) rfl,.inr (.inr rfl)⟩
theorem l_n (i j k z:Int):∃v:Int,atI [V.int i,V.int j,V.int k] (z % 3)=some (.int v):=by
 rcases (show z % 3=0\/z % 3=1\/z % 3=2 by omega) with e | e | e <;> rw[e]
 ·exact⟨_,a_g (j:=0) rfl⟩
 ·exact⟨_,a_g (j:=1) rfl⟩
 ·exact⟨_,a_g (j:=2) rfl⟩
theorem k_X (i j z:Int) (hi:0<=i) (hj:0<=j):∃v:Int,atI [V.int i,V.int j] (z % 3 / 2)=some (.int v)/\0<=v:=by
 rcases (show z % 3 / 2=0\/z % 3 / 2=1 by omega) with e | e <;> rw[e]
 ·exact⟨_,a_g (j:=0) rfl,hi⟩
 ·exact⟨_,a_g (j:=1) rfl,hj⟩
theorem b_S:a_s ["_law_way","_law_number","_law_cell","_law_word","_law_high"] ["_law_way","_law_number","_law_cell"] (a_m c_f):=⟨rfl,rfl,rfl,by decide+kernel,rfl,by decide+kernel,by decide+kernel⟩
theorem e_t {f fFar fTx:Addr} {fd fdFar fdTx:FuncData} (F:Fun K "_law_question_of" "_law_question_of" c_f f fd) (gFar:Gf K mg "_law_far" fFar fdFar ["_law_number"]) (GFar:FnOk P w K mg base CX0 1 fFar fdFar ["_law_number"] h_M)
 (gTx:Gf K mg "_law_texts" fTx fdTx []) (GTx:FnOk P w K mg base CX0 1 fTx fdTx [] f_K):FnOk P w K mg base CX0 2 f fd ["_law_way","_law_number","_law_cell"] c_N:=by
 refine F.ok b_S (λvs H Q E h=> ?_) (λcdv A outer s H vs Q E hr h=> ?_)
 ·obtain⟨y,n,c,rfl,_⟩:=h
  rfl
 ·obtain⟨y,n,c,rfl,p,m,fin⟩:=h
  have d:Room 1 _:=hr.mono (by decide)
  refine⟨_,(a_d (a_w (i:=3) b_S.nd rfl (Or.inl rfl) (a_v a_M (a_R (a_a a_j (a_a a_j (a_a a_j (a_a a_j (a_a a_j a_c)))))) (a_q a_I (a_q a_J (a_q a_U (pv 2) a_e) (pv 0)) a_e) (λ_ _=>rfl)))
   (a_d (a_B (a_k a_L (pv 0) a_e (a_o _)) (a_f (a_n (a_A (a_a a_j (a_a (a_l GFar d rfl gFar.mg gFar.kp gFar.b .nil a_u (a_a (pv 1) a_c)) a_c))))) a_p)
   (a_d (a_B (PW.pt (d_Z (a_k a_L (pv 0) a_e (a_o _)) (c_B (a_k a_L (pv 3) a_j (a_o _))))) (a_f (a_n (a_A (a_a a_j (a_a (pv 3) (a_a (a_v a_M (c_Q GTx d rfl gTx.mg gTx.kp gTx.b .nil a_u) (a_q a_I (pv 2) a_e) (λ_ _=>rfl)) (a_a (a_v a_M (c_Q GTx d rfl gTx.mg gTx.kp gTx.b .nil a_u) (a_q a_I (a_q a_U (pv 2) a_e) a_e) (λ_ _=>rfl)) a_c))))))) a_p)
   (a_d (a_B (a_k a_L (pv 0) a_e (a_o _)) (a_f (a_n (a_A (a_a a_j (a_a (pv 3) (a_a (a_q b_N (a_q a_I (pv 2) a_e) a_e) (a_a (a_q a_J (a_q b_N (a_q a_I (pv 2) a_e) a_e) (a_q a_I (a_q a_U (pv 2) a_e) a_e)) a_c))))))) a_p)
   (a_d (a_B (a_k a_L (pv 0) a_e (a_o _)) (a_d (a_w (i:=4) b_S.nd rfl (Or.inl rfl) (a_v a_M (a_R (a_a a_e (a_a a_e (a_a a_e a_c)))) (a_q a_I (pv 1) a_e) (λ_ _=>rfl)))
   (a_f (a_n (a_A (a_a a_j (a_a (a_q b_N (a_q a_I (pv 2) a_e) a_e) (a_a (pv 4) (a_a (a_v a_M (c_Q GTx d rfl gTx.mg gTx.kp gTx.b .nil a_u) (a_q a_I (a_q a_U (pv 2) a_e) a_e) (λ_ _=>rfl)) a_c)))))))) a_p)
   (a_d (a_B (a_k a_L (pv 0) a_e (a_o _)) (a_f (a_n (a_A (a_a a_j (a_a (pv 3) (a_a (a_q b_N (pv 1) a_e) (a_a (a_v a_M (a_R (a_a (a_q a_I (pv 2) a_e) (a_a (a_q a_I (a_q a_U (pv 2) a_e) a_e) a_c))) (a_q a_U (a_q a_I (pv 2) a_e) a_e) (λ_ _=>rfl)) a_c))))))) a_p)
   (a_f (a_n (a_A (a_a a_j (a_a (pv 3) (a_a (a_l GFar d rfl gFar.mg gFar.kp gFar.b .nil a_u (a_a (pv 1) a_c)) a_c)))))))))))),?_⟩
  obtain⟨x,hx,g⟩:=j_u (c / 16+y);refine⟨by show 5<=sizeLine;decide,λn1 B=> ?_⟩;have s1:Same H (upd H n1 (.lst [V.str "rank",V.str "text",V.str "rank",V.str "text",V.str "ranks"])):=Same.upd_new B;refine⟨_,rfl,_,_,rfl,rfl,⟨by decide,by decide⟩,_,rfl,_,_,rfl,rfl,_,_,rfl,rfl,(show (0:Int) < 5 by decide),n1,_,_,_,rfl,rfl,SqL.of a_b,hx,?_⟩;refine⟨_,rfl,rfl,_,rfl,?_⟩;refine a_z (λ_=> ?_) (λ_=> ?_)
  ·refine⟨_,rfl,_,rfl,λH2 s2=>⟨by show 2<=sizeLine;decide,λa ha=> ?_⟩⟩
   exact fin a (.row (far n)) _ ⟨s1.free (s2.free ha),(s1.trans s2).trans (Same.upd_new ha),a_b,trivial,g_u p m,b_b a_b (by decide+kernel)⟩ trivial
  refine⟨_,rfl,rfl,_,rfl,?_⟩;by_cases hy:y=1
  ·have dy:decide (V.int y=V.int 1)=true:=by rw[hy];exact p_u rfl
   refine a_z (λ_=> ?_) (λq=>absurd dy q);refine⟨_,rfl,rfl,_,rfl,?_⟩;refine a_z (λq=> ?_) (λq=> ?_)
   ·obtain⟨t1,h1,l1⟩:=g_f c
    obtain⟨t2,h2,l2⟩:=g_f (c / 3);refine⟨_,rfl,rfl,λla H2 r s2 z=>⟨_,rfl,_,_,rfl,rfl,(show (0:Int) < 6 by decide),la,_,_,_,rfl,rfl,SqL.of z,h1,rfl,λlb H3 C s3 l=>⟨_,rfl,_,_,rfl,rfl,⟨by decide,by decide⟩,_,_,rfl,rfl,(show (0:Int) < 6 by decide),lb,_,_,_,rfl,rfl,SqL.of l,h2,by show 4<=sizeLine;decide,λa ha=> ?_⟩⟩⟩;have j:x="text":=by have:=p_w q;injection this
    refine fin a (.within x (.str t1) (.str t2)) _ ⟨s1.free (s2.free (s3.free ha)),((s1.trans s2).trans s3).trans (Same.upd_new ha),a_b,?_, ⟨λs e=>by cases e;exact l1,λs e=>by cases e;exact l2⟩,b_b a_b (by decide+kernel)⟩ trivial;show b_O x _ _/\c_t x;rw[b_O,if_pos j];exact⟨⟨_,_,rfl,rfl⟩,g⟩
   ·have j:¬ x="text":=λe=>q (by rw[e];exact p_u rfl)
    refine⟨_,rfl,rfl,_,rfl,?_⟩;refine a_z (λ_=> ?_) (λq=>absurd dy q);refine⟨_,rfl,_,rfl,_,_,rfl,rfl,(show (0:Int) < 9 by decide),_,_,rfl,rfl,_,rfl,_,_,rfl,rfl,(show (0:Int) < 9 by decide),_,_,rfl,rfl,_,rfl,_,_,rfl,rfl,⟨by decide,by decide⟩,_,_,rfl,rfl,(show (0:Int) < 7 by decide),_,_,rfl,rfl,by show 4<=sizeLine;decide,λa ha=> ?_⟩;refine fin a (.within x (.int (c % 9 - 4)) (.int (c % 9 - 5+c / 9 % 7))) _ ⟨s1.free ha,s1.trans (Same.upd_new ha),a_b,?_, ⟨λs e=>(by cases e),λs e=>(by cases e)⟩,b_b a_b (by decide+kernel)⟩ trivial;show b_O x _ _/\c_t x;rw[b_O,if_neg j];exact⟨⟨_,_,rfl,rfl⟩,g⟩
  ·have dy:¬ decide (V.int y=V.int 1)=true:=λq=>hy (by have:=p_w q;injection this)
   refine a_z (λq=>absurd q dy) (λ_=>d_G ?_);refine⟨_,rfl,rfl,_,rfl,?_⟩;refine a_z (λq=>absurd q dy) (λ_=> ?_);refine⟨_,rfl,rfl,_,rfl,?_⟩;refine a_z (λ_=> ?_) (λ_=> ?_)
   ·obtain⟨v,hv⟩:=l_n 1 5 1000000000000 n
    obtain⟨t,ht,lt⟩:=g_f (c / 9);refine⟨by show 3<=sizeLine;decide,λn2 k=> ?_⟩;have s2:=Same.upd_new (o:= .lst [V.int 1,V.int 5,V.int 1000000000000]) k;refine⟨_,rfl,_,_,rfl,rfl,(show (0:Int) < 3 by decide),n2,_,_,_,rfl,rfl,SqL.of a_b,hv,?_⟩;refine⟨_,rfl,_,_,rfl,rfl,(show (0:Int) < 9 by decide),_,_,rfl,rfl,_,rfl,rfl,λla H3 r s3 l=>⟨_,rfl,_,_,rfl,rfl,⟨by decide,by decide⟩,_,_,rfl,rfl,(show (0:Int) < 6 by decide),la,_,_,_,rfl,rfl,SqL.of l,ht,by show 4<=sizeLine;decide,λa ha=> ?_⟩⟩;exact fin a (.both (c % 9 - 4) v t) _ ⟨s1.free (s2.free (s3.free ha)),((s1.trans s2).trans s3).trans (Same.upd_new ha),a_b,trivial,lt,b_b a_b (by decide+kernel)⟩ trivial
   refine⟨_,rfl,rfl,_,rfl,?_⟩;refine a_z (λ_=> ?_) (λ_=> ?_)
   ·obtain⟨v,hv,u⟩:=k_X (c % 7) (c / 9 % 40) c (by omega) (by omega)
    refine⟨_,rfl,_,rfl,_,_,rfl,rfl,_,rfl,_,_,rfl,rfl,(show (0:Int) < 7 by decide),_,rfl,_,_,rfl,rfl,⟨by decide,by decide⟩,_,_,rfl,rfl,(show (0:Int) < 40 by decide),by show 2<=sizeLine;decide,λn2 k=> ?_⟩;have s2:=Same.upd_new (o:= .lst [V.int (c % 7),V.int (c / 9 % 40)]) k;refine⟨_,rfl,_,_,rfl,rfl,(show (0:Int) < 3 by decide),_,_,rfl,rfl,⟨by decide,by decide⟩,n2,_,_,_,rfl,rfl,SqL.of a_b,hv,by show 4<=sizeLine;decide,λa ha=> ?_⟩;exact fin a (.from x (n - 2) v) _ ⟨s1.free (s2.free ha),(s1.trans s2).trans (Same.upd_new ha),a_b,⟨g,u⟩,trivial,b_b a_b (by decide+kernel)⟩ trivial
   ·refine⟨_,rfl,_,rfl,_,rfl,λH2 s2=>⟨by show 3<=sizeLine;decide,λa ha=> ?_⟩⟩
    exact fin a (.spot x (far n)) _ ⟨s1.free (s2.free ha),(s1.trans s2).trans (Same.upd_new ha),a_b,g,g_u p m,b_b a_b (by decide+kernel)⟩ trivial
end
theorem h_m {ns:List Int} {j:Nat} (h:j < ns.length) {z:Int} (e:z=(j:Int)):atI (ns.map V.int) z=some (.int (ns.getD j 0)):=by
 rw[e];refine a_g ?_;rw[o_0,o_7,o_P h];rfl
def LD (H:Hp) (l:Addr) (ds:List Deed):Prop:=∃as:List Addr,H l=some (.lst (as.map V.ref))/\Paired (DeedBy l H) as ds
def Oks (n:Nat) (ds:List Deed):Prop:=ds.length<=n/\∀d∈ds,d.form/\d.short
theorem LD.grow {H:Hp} {l a:Addr} {as:List Addr} {ds:List Deed} {d:Deed} (h1:H l=some (.lst (as.map V.ref))) (h2:Paired (DeedBy l H) as ds) (hd:DeedBy l H a d):LD (upd H l (.lst (as.map V.ref++ [V.ref a]))) l (ds++ [d]):=
 ⟨as++ [a],by rw[o_W];exact a_b,k_d h1 (a_N h2 (.cons hd .nil))⟩
theorem Oks.snoc {n:Nat} {ds:List Deed} {d:Deed} (h:Oks n ds) (hd:d.form/\d.short):Oks (n+1) (ds++ [d]):=⟨by have:=h.1;simp;omega,λx hx=>by
 rcases o_6.mp hx with q | q
 ·exact h.2 x q
 ·rw[o_T.mp q];exact hd⟩
theorem DNew.by {H H':Hp} {a l:Addr} {d:Deed} {u:HO} (h:DNew H H' a d) (hl:H l=some u):DeedBy l H' a d:=⟨h.at_,λl' e q=>by rw[<-q,h.inn l' e] at hl;cases hl⟩
theorem ChgAt.noAll {H:Hp} {a:Addr} {c:Chg} (h:ChgAt H a c):∀l',¬ H a=some (.tup [.str "all",.ref l']):=λl' e=>by
 have aux:∀{x:Str} {r:List V},H a=some (.tup (.str x::r))->¬ x="all"->False:=λe1 hx=>by
  rw[e1] at e;injection e with e
  injection e with e
  injection e with e _
  injection e with e
  exact hx e
 cases c with
 | bring ρ=>obtain⟨r,h1,_⟩:=h;exact aux h1 (by decide+kernel)
 | alter ρ=>obtain⟨r,h1,_⟩:=h;exact aux h1 (by decide+kernel)
 | cut n=>exact aux h (by decide+kernel)
theorem DNew.of_chg {H H':Hp} {a:Addr} {c:Chg} (h0:H a=none) (s:Same H H') (h:ChgAt H' a c) (hs:c.short):DNew H H' a (.chg c):=⟨h0,s,h,trivial,hs,λl' e=>absurd e (ChgAt.noAll h l')⟩
theorem i_8 {z:Int} (h:11<=z) (h2:z < 15):∃(x:Str) (d:Deed),atI [V.str "begin",V.str "keep",V.str "break",V.str "begin"] (z - 11)=some (.str x)/\¬ x="all"/\(∀H a,H a=some (.tup [.str x])->DeedAt H a d)/\d.form/\d.short:=by
 rcases (show z - 11=0\/z - 11=1\/z - 11=2\/z - 11=3 by omega) with e | e | e | e <;> rw[e]
 ·exact⟨"begin",.begin,a_g (j:=0) rfl,by decide+kernel,λH a h=>h,trivial,trivial⟩
 ·exact⟨"keep",.keep,a_g (j:=1) rfl,by decide+kernel,λH a h=>h,trivial,trivial⟩
 ·exact⟨"break",.brk,a_g (j:=2) rfl,by decide+kernel,λH a h=>h,trivial,trivial⟩
 ·exact⟨"begin",.begin,a_g (j:=3) rfl,by decide+kernel,λH a h=>h,trivial,trivial⟩
section
variable {P:Program} {w:World} {K:PySem.W.Frag} {mg:Str->Option Value} {base:Heap}
def d_J (K:PySem.W.Frag):Sp:=λvs H Q _=>∃(a:Addr) (ns:List Int),vs= [.ref a]/\SqL K H a (ns.map V.int)/\ns.length<=1000/\∀(l:Addr) (ds:List Deed) (H':Hp),H l=none->Same H H'->LD H' l ds->Oks 26 ds->Q (.ref l) H'
theorem b_G:a_s ["_law_script","_law_deeds","_law_k","_law_number","_law_row"] ["_law_script"] (a_m d_n):=⟨rfl,rfl,rfl,by decide+kernel,rfl,by decide+kernel,by decide+kernel⟩
theorem f_z {f fAt fFar fDr:Addr} {fd fdAt fdFar fdDr:FuncData} (F:Fun K "_law_brings_of" "_law_brings_of" d_n f fd) (B:Bt mg) (gAt:Gf K mg "_law_at" fAt fdAt ["_law_script","_law_k"]) (GAt:FnOk P w K mg base CX0 1 fAt fdAt ["_law_script","_law_k"] (m_q K))
 (gFar:Gf K mg "_law_far" fFar fdFar ["_law_number"]) (GFar:FnOk P w K mg base CX0 1 fFar fdFar ["_law_number"] h_M)
 (gDr:Gf K mg "_law_drawn_row" fDr fdDr ["_law_number","_law_cell"]) (GDr:FnOk P w K mg base CX0 2 fDr fdDr ["_law_number","_law_cell"] f_s):FnOk P w K mg base CX0 3 f fd ["_law_script"] (d_J K):=by
 refine F.ok b_G (λvs H Q E h=> ?_) (λcdv A outer s H vs Q E hr h=> ?_)
 ·obtain⟨a,ns,rfl,_⟩:=h
  rfl
 ·obtain⟨a,ns,rfl,hS,c,fin⟩:=h
  have e:Room 1 _:=hr.mono (by decide);have u:Room 2 _:=hr.mono (by decide)
  refine⟨_,(a_d (a_w (i:=1) b_G.nd rfl (Or.inl rfl) (a_R a_c))
   (a_d (c_J PassesOwn.never rfl (c_s rfl B.range (a_a (a_q a_I (a_l GAt e rfl gAt.mg gAt.kp gAt.b .nil a_u (a_a (pv 0) (a_a a_e a_c))) a_e) a_c)) (b_y (i:=2) b_G.nd rfl (Or.inl rfl))
   (a_d (a_w (i:=3) b_G.nd rfl (Or.inl rfl) (a_q a_I (a_q a_J (a_q b_o a_e (pv 2)) (a_l GAt e rfl gAt.mg gAt.kp gAt.b .nil a_u (a_a (pv 0) (a_a a_e a_c)))) a_e))
   (a_d (a_w (i:=4) b_G.nd rfl (Or.inl rfl) (a_l GDr u rfl gDr.mg gDr.kp gDr.b .nil a_u (a_a (a_l GFar e rfl gFar.mg gFar.kp gFar.b .nil a_u (a_a (pv 3) a_c)) (a_a (a_q a_J (a_q b_o a_e (pv 2)) (a_l GAt e rfl gAt.mg gAt.kp gAt.b .nil a_u (a_a (pv 0) (a_a a_e a_c)))) a_c))))
   (a_f (a_y (b_Z p_y p_A p_z a_2 (pv 1) (a_a (a_A (a_a a_j (a_a (pv 4) a_c))) a_c)))))))
   (a_f (a_n (pv 1))))),?_⟩
  refine⟨by show 0<=sizeLine;decide,λl hl=> ?_⟩;have s1:Same H (upd H l (.lst [])):=Same.upd_new hl;refine⟨_,rfl,a,ns,1,rfl,s1.seq hS,c,by decide,by decide,λz H2 s2=> ?_⟩;have e1:=Int.emod_nonneg z (show (27:Int)≠0 by decide);have e2:=Int.emod_lt_of_pos z (show (0:Int) < 27 by decide);have x:=s1.trans s2;refine⟨_,_,rfl,rfl,(show (0:Int) < 27 by decide),_,rfl,by omega,by omega,b_R (lo:=0) (n:=(z % 27).toNat) (λi σ Hx=>∃(ds:List Deed) (v2 v3 v4:Option V),σ= [some (.ref a),some (.ref l),v2,v3,v4]/\Same H Hx/\LD Hx l ds/\Oks i ds) ⟨[],none,none,none,rfl,x,⟨[],s2 _ _ a_b,.nil⟩,by simp[Oks]⟩ ?_ ?_⟩
  ·rintro i σ Hx hi ⟨ds,v2,v3,v4,rfl,sx,⟨as,v,hP⟩,ho⟩
   have C:i < 27:=by omega
   refine⟨_,rfl,_,_,rfl,rfl,.inl ⟨by decide,by decide⟩,_,rfl,a,ns,2,rfl,sx.seq hS,c,by decide,by decide,λz2 H3 s3=> ?_⟩;refine⟨_,_,rfl,rfl,_,_,rfl,rfl,(show (0:Int) < 26 by decide),?_⟩;refine⟨_,rfl,_,rfl,λH4 s4=> ?_⟩;have p:=s3.trans s4;refine⟨_,rfl,_,_,rfl,rfl,.inl ⟨by decide,by decide⟩,_,rfl,a,ns,3,rfl,(sx.trans p).seq hS,c,by decide,by decide,λz3 H5 s5=> ?_⟩;refine⟨_,_,rfl,rfl,_,_,rfl,λr ρ H6 G s6 hρ en ht=> ?_⟩;have k:=(p.trans s5).trans s6;have j:=k _ _ v;refine⟨_,rfl,.inl ⟨rfl,_,SqL.of j⟩,_,rfl,by show 2<=sizeLine;decide,λt m=> ?_⟩;have s7:=Same.upd_new (o:= .tup [.str "bring",.ref r]) m;have g:=s7 _ _ j
   have y:(as.map V.ref).length < sizeLine:=by
    have:=Paired.length hP;have h1:=ho.1;rw[o_O];exact a_4 (by omega)
   have hb:ChgAt (upd H6 t (.tup [.str "bring",.ref r])) t (.bring ρ):=⟨r,a_b,s7 _ _ hρ⟩;have q:ρ.t.length<=2/\ρ.n∈BL:=⟨ht,by rw[en];exact e_A (by omega) (by omega)⟩;have hD:DNew H6 (upd H6 t (.tup [.str "bring",.ref r])) t (.chg (.bring ρ)):= .of_chg m s7 hb q;refine⟨l,_,_,rfl,rfl,g,y,ds++ [.chg (.bring ρ)],_,_,_,rfl,?_, LD.grow g (f_B (k.trans s7) hP) (hD.by j),ho.snoc (d:= .chg (.bring ρ)) ⟨trivial,q⟩⟩;exact (Mov.upd g).same ((sx.trans k).trans s7) λb hb=>by rw[o_T.mp hb];exact hl
  ·rintro σ Hx ⟨ds,v2,v3,v4,rfl,sx,hL,ho⟩
   exact⟨_,rfl,fin l ds Hx hl sx hL ⟨by have:=ho.1;omega,ho.2⟩⟩
def e_Z (K:PySem.W.Frag):Sp:=λvs H Q _=>∃(a:Addr) (ns:List Int),vs= [.ref a]/\SqL K H a (ns.map V.int)/\ns.length<=63/\∀(l:Addr) (ds:List Deed) (H':Hp),H l=none->Same H H'->LD H' l ds->Oks 32 ds->Q (.ref l) H'
theorem a_5:a_s ["_law_cells","_law_deeds","_law_k","_law_way","_law_number","_law_cell","_law_words","_law_some","_law_j","_law_other"] ["_law_cells"] (a_m e_o):=⟨rfl,rfl,rfl,by decide+kernel,rfl,by decide+kernel,by decide+kernel⟩
theorem g_L {f fCh fQu:Addr} {fd fdCh fdQu:FuncData} (F:Fun K "_law_deeds_of" "_law_deeds_of" e_o f fd) (B:Bt mg) (gCh:Gf K mg "_law_change_of" fCh fdCh ["_law_way","_law_number","_law_cell"]) (GCh:FnOk P w K mg base CX0 3 fCh fdCh ["_law_way","_law_number","_law_cell"] d_N)
 (gQu:Gf K mg "_law_question_of" fQu fdQu ["_law_way","_law_number","_law_cell"]) (GQu:FnOk P w K mg base CX0 2 fQu fdQu ["_law_way","_law_number","_law_cell"] c_N):FnOk P w K mg base CX0 4 f fd ["_law_cells"] (e_Z K):=by
 refine F.ok a_5 (λvs H Q E h=> ?_) (λcdv A outer s H vs Q E hr h=> ?_)
 ·obtain⟨a,ns,rfl,_⟩:=h
  rfl
 ·obtain⟨a,ns,rfl,hS,Y,fin⟩:=h
  have z:Room 3 _:=hr.mono (by decide);have G:Room 2 _:=hr.mono (by decide)
  refine⟨_,(a_d (a_w (i:=1) a_5.nd rfl (Or.inl rfl) (a_R a_c))
   (a_d (c_J PassesOwn.never rfl (c_s rfl B.range (a_a (a_q a_U (a_r a_x (by rfl) B.len p_x (a_a (pv 0) a_c)) a_e) a_c)) (b_y (i:=2) a_5.nd rfl (Or.inl rfl))
   (a_d (a_w (i:=3) a_5.nd rfl (Or.inl rfl) (a_q a_I (a_q a_J (a_v a_M (pv 0) (a_q b_o a_e (pv 2)) (λ_ _=>rfl)) (a_q b_o a_e (pv 2))) a_e))
   (a_d (a_w (i:=4) a_5.nd rfl (Or.inl rfl) (a_q b_N (a_q a_I (a_q a_J (a_q a_U (a_v a_M (pv 0) (a_q b_o a_e (pv 2)) (λ_ _=>rfl)) a_e) (a_q b_o a_e (pv 2))) a_e) a_e))
   (a_d (a_w (i:=5) a_5.nd rfl (Or.inl rfl) (a_v a_M (pv 0) (a_q a_J (a_q b_o a_e (pv 2)) a_e) (λ_ _=>rfl)))
   (a_f (a_B (a_k f_a (pv 3) a_e (a_o _)) (a_f (a_y (b_Z p_y p_A p_z a_2 (pv 1) (a_a (a_l GCh z rfl gCh.mg gCh.kp gCh.b .nil a_u (a_a (pv 3) (a_a (pv 4) (a_a (pv 5) a_c)))) a_c)))) (a_f (a_B (a_k f_a (pv 3) a_e (a_o _)) (a_f (a_y (b_Z p_y p_A p_z a_2 (pv 1) (a_a (a_l GQu G rfl gQu.mg gQu.kp gQu.b .nil a_u (a_a (a_q b_N (pv 3) a_e) (a_a (pv 4) (a_a (pv 5) a_c)))) a_c)))) (a_f (a_B (a_k f_a (pv 3) a_e (a_o _)) (a_d (a_w (i:=6) a_5.nd rfl (Or.inl rfl) (a_R (a_a a_j (a_a a_j (a_a a_j (a_a a_j a_c))))))
   (a_f (a_y (b_Z p_y p_A p_z a_2 (pv 1) (a_a (a_A (a_a (a_v a_M (pv 6) (a_q b_N (pv 3) a_e) (λ_ _=>rfl)) a_c)) a_c))))) (a_d (a_w (i:=7) a_5.nd rfl (Or.inl rfl) (a_R a_c))
   (a_d (c_J PassesOwn.never rfl (c_s rfl B.range (a_a a_e a_c)) (b_y (i:=8) a_5.nd rfl (Or.inl rfl))
   (a_d (a_w (i:=9) a_5.nd rfl (Or.inl rfl) (a_q a_I (a_q a_J (pv 4) (a_q b_o a_e (pv 8))) a_e))
   (a_f (a_y (b_Z p_y p_A p_z a_2 (pv 7) (a_a (a_l GCh z rfl gCh.mg gCh.kp gCh.b .nil a_u (a_a (a_q a_J (pv 5) (pv 8)) (a_a (pv 9) (a_a (a_q a_J (pv 5) (a_q b_o a_e (pv 8))) a_c)))) a_c))))))
   (a_f (a_y (b_Z p_y p_A p_z a_2 (pv 1) (a_a (a_A (a_a a_j (a_a (pv 7) a_c))) a_c))))))))))))))))
   (a_f (a_n (pv 1))))),?_⟩
  refine⟨by show 0<=sizeLine;decide,λl hl=> ?_⟩;have s1:Same H (upd H l (.lst [])):=Same.upd_new hl;have a3:(((ns.map V.int).length:Nat):Int) / 2 < 32:=by rw[o_O];omega
  have C:0<=(((ns.map V.int).length:Nat):Int) / 2:=by rw[o_O];omega
  refine⟨_,rfl,a,_,rfl,.inl (s1.seq hS),_,_,rfl,rfl,⟨by decide,by decide⟩,_,rfl,by omega,by omega,b_R (lo:=0) (n:=((((ns.map V.int).length:Nat):Int) / 2).toNat) (λi σ Hx=>∃(ds:List Deed) (v2 v3 v4 v5 v6 v7 v8 v9:Option V),σ= [some (.ref a),some (.ref l),v2,v3,v4,v5,v6,v7,v8,v9]/\Same H Hx/\LD Hx l ds/\Oks i ds) ⟨[],none,none,none,none,none,none,none,none,rfl,s1,⟨[],a_b,.nil⟩,by simp[Oks]⟩ ?_ ?_⟩
  ·rintro i σ Hx hi ⟨ds,v2,v3,v4,v5,v6,v7,v8,v9,rfl,sx,⟨as,g,hP⟩,ho⟩
   have a8:2 * i+1 < ns.length:=by rw[o_O] at hi;omega
   have a0:i < 32:=by omega
   have a6:=Paired.length hP;have a5:=ho.1
   have m:(as.map V.ref).length < sizeLine:=by
    rw[o_O];exact a_4 (by omega)
   have a1:atI (ns.map V.int) (2 * (0+(i:Int)))=some (.int (ns.getD (2 * i) 0)):=h_m (j:=2 * i) (by omega) (by omega);have a2:atI (ns.map V.int) (2 * (0+(i:Int))+1)=some (.int (ns.getD (2 * i+1) 0)):=h_m (j:=2 * i+1) (by omega) (by omega);refine⟨_,rfl,_,rfl,_,_,rfl,rfl,.inl ⟨by decide,by decide⟩,a,_,_,_,rfl,rfl,sx.seq hS,a1,_,rfl,_,_,rfl,rfl,.inl ⟨by decide,by decide⟩,_,_,rfl,rfl,_,_,rfl,rfl,(show (0:Int) < 16 by decide),?_⟩;refine⟨_,rfl,_,rfl,_,_,rfl,rfl,.inl ⟨by decide,by decide⟩,a,_,_,_,rfl,rfl,sx.seq hS,a1,_,_,rfl,rfl,⟨by decide,by decide⟩,_,rfl,_,_,rfl,rfl,.inl ⟨by decide,by decide⟩,_,_,rfl,rfl,_,_,rfl,rfl,(show (0:Int) < 27 by decide),_,_,rfl,rfl,?_⟩;refine⟨_,rfl,_,rfl,_,_,rfl,rfl,.inl ⟨by decide,by decide⟩,_,_,rfl,rfl,a,_,_,_,rfl,rfl,sx.seq hS,a2,?_⟩;dsimp only;generalize W:(ns.getD (2 * i) 0+3 * (0+(i:Int))) % 16=way;generalize Z:(ns.getD (2 * i) 0 / 16+5 * (0+(i:Int))) % 27 - 1=number;generalize X:ns.getD (2 * i+1) 0=cell;have a4: -1<=number/\number<=25:=by omega
   have done:∀(t:Addr) (d:Deed) (H2:Hp),DNew Hx H2 t d->Same H (upd H2 l (.lst (as.map V.ref++ [V.ref t])))/\LD (upd H2 l (.lst (as.map V.ref++ [V.ref t]))) l (ds++ [d])/\Oks (i+1) (ds++ [d]):=λt d H2 N=>
    ⟨(Mov.upd (N.same _ _ g)).same (sx.trans N.same) λb hb=>by rw[o_T.mp hb];exact hl,LD.grow (N.same _ _ g) (f_B N.same hP) (N.by g),ho.snoc ⟨N.form,N.short⟩⟩
   refine⟨_,rfl,_,_,rfl,rfl,_,rfl,?_⟩;refine a_z (λ_=> ?_) (λ_=> ?_)
   ·refine⟨_,rfl,.inl ⟨rfl,_,SqL.of g⟩,_,rfl,_,rfl,_,rfl,_,_,_,rfl,by omega,by omega,λt ch H2 h0 s2 hc hs=> ?_⟩
    have N:=DNew.of_chg h0 s2 hc hs;obtain⟨d1,d2,d3⟩:=done t _ H2 N;exact⟨l,_,_,rfl,rfl,s2 _ _ g,m,_,_,_,_,_,_,_,_,_,rfl,d1,d2,d3⟩
   refine⟨_,rfl,_,_,rfl,rfl,_,rfl,?_⟩;refine a_z (λ_=> ?_) (λO=> ?_)
   ·refine⟨_,rfl,.inl ⟨rfl,_,SqL.of g⟩,_,rfl,_,_,rfl,rfl,_,rfl,_,rfl,_,_,_,rfl,by omega,by omega,λt d H2 N _=> ?_⟩
    obtain⟨d1,d2,d3⟩:=done t _ H2 N;exact⟨l,_,_,rfl,rfl,N.same _ _ g,m,_,_,_,_,_,_,_,_,_,rfl,d1,d2,d3⟩
   refine⟨_,rfl,_,_,rfl,rfl,_,rfl,?_⟩;refine a_z (λT=> ?_) (λ_=> ?_)
   ·have R:11≤way:=by
     have:¬ way < 11:=λq=>O (p_u q);omega
    obtain⟨x,d,hx,S,hd,U,I⟩:=i_8 R (p_w T);refine⟨by show 4<=sizeLine;decide,λn1 C=> ?_⟩;have s2:=Same.upd_new (o:= .lst [V.str "begin",V.str "keep",V.str "break",V.str "begin"]) C;have v:=s2 _ _ g;refine⟨_,rfl,.inl ⟨rfl,_,SqL.of v⟩,_,rfl,_,rfl,_,_,rfl,rfl,n1,_,_,_,rfl,rfl,SqL.of a_b,hx,by show 1<=sizeLine;decide,λt ht=> ?_⟩;have s3:=Same.upd_new (o:= .tup [.str x]) ht;have N:DNew Hx _ t d:=⟨s2.free ht,s2.trans s3,hd _ _ a_b,U,I,b_b a_b S⟩;obtain⟨d1,d2,d3⟩:=done t _ _ N;exact⟨l,_,_,rfl,rfl,s3 _ _ v,m,_,_,_,_,_,_,_,_,_,rfl,d1,d2,d3⟩
   refine⟨by show 0<=sizeLine;decide,λsm u=> ?_⟩;have s2:=Same.upd_new (o:= .lst []) u
   refine⟨3,rfl,by decide,by decide,b_R (lo:=0) (n:=3) (λj σ Hy=>∃(cs:List Chg) (bs:List Addr) (v6 v8 v9:Option V),σ= [some (.ref a),some (.ref l),some (.int (0+(i:Int))),some (.int way),some (.int number),some (.int cell),v6,some (.ref sm),v8,v9]/\Same Hx Hy/\Hy sm=some (.lst (bs.map V.ref))/\Paired (ChgAt Hy) bs cs/\cs.length<=j/\∀c∈cs,c.short)
    ⟨[], [],_,_,_,rfl,s2,a_b,.nil,by simp,by simp⟩ ?_ ?_⟩
   ·rintro j σ Hy hj ⟨cs,bs,w6,w8,w9,rfl,sy,k,hC,J,p⟩
    have a7:=Paired.length hC;have L:(bs.map V.ref).length < sizeLine:=by rw[o_O];exact a_4 (by omega)
    refine⟨_,rfl,_,rfl,_,_,rfl,rfl,.inl ⟨by decide,by decide⟩,_,_,rfl,rfl,_,_,rfl,rfl,(show (0:Int) < 26 by decide),?_⟩;refine⟨_,rfl,.inl ⟨rfl,_,SqL.of k⟩,_,rfl,_,rfl,_,_,rfl,rfl,_,rfl,_,rfl,_,rfl,_,_,rfl,rfl,.inl ⟨by decide,by decide⟩,_,_,rfl,rfl,_,_,_,rfl,by omega,by omega,λt ch H2 h0 s3 hc hs=> ?_⟩;have r:=s3 _ _ k;refine⟨sm,_,_,rfl,rfl,r,L,cs++ [ch],bs++ [t],_,_,_,rfl,(Mov.upd r).same (sy.trans s3) λb hb=>(by rw[o_T.mp hb];exact u),by rw[o_W];exact a_b,?_, by simp;omega,λc M=> ?_⟩
    ·exact b_a (NoTup.keep (NoTup.lst r)) (a_N (b_a (λb xs q=>s3 _ _ q) hC) (.cons hc .nil))
    ·rcases o_6.mp M with q | q
     ·exact p c q
     ·rw[o_T.mp q];exact hs
   ·rintro σ Hy ⟨cs,bs,w6,w8,w9,rfl,sy,k,hC,J,p⟩
    have y:=sy _ _ g;refine⟨_,rfl,.inl ⟨rfl,_,SqL.of y⟩,_,rfl,by show 2<=sizeLine;decide,λt ht=> ?_⟩;have s3:=Same.upd_new (o:= .tup [.str "all",.ref sm]) ht
    have N:DNew Hx (upd Hy t (.tup [.str "all",.ref sm])) t (.all cs):=⟨sy.free ht,sy.trans s3,⟨sm,bs,a_b,s3 _ _ k,b_a (λb xs q=>s3 _ _ q) hC⟩,(show cs.length<=24 by omega),p,λl' e=>by
     rw[a_b] at e;injection e with e
     injection e with e
     injection e with _ e
     injection e with e _
     injection e with e
     rw[<-e];exact u⟩
    obtain⟨d1,d2,d3⟩:=done t _ _ N;exact⟨l,_,_,rfl,rfl,s3 _ _ y,m,_,_,_,_,_,_,_,_,_,rfl,d1,d2,d3⟩
  ·rintro σ Hx ⟨ds,v2,v3,v4,v5,v6,v7,v8,v9,rfl,sx,hL,ho⟩
   exact⟨_,rfl,fin l ds Hx hl sx hL ⟨by have:=ho.1;omega,ho.2⟩⟩
end
section
variable {P:Program} {w:World} {K:PySem.W.Frag} {mg:Str->Option Value} {base:Heap}
def g_q:Sp:=λvs H Q _=>∃c,vs= [.int c]/\∀i H',Same H H'->Q (.int i) H'
theorem k_I (a b c d e f z:Int):∃v:Int,atI [V.int a,V.int b,V.int c,V.int d,V.int e,V.int f] (z % 6)=some (.int v):=by
 rcases (show z % 6=0\/z % 6=1\/z % 6=2\/z % 6=3\/z % 6=4\/z % 6=5 by omega) with e | e | e | e | e | e <;> rw[e]
 ·exact⟨_,a_g (j:=0) rfl⟩
 ·exact⟨_,a_g (j:=1) rfl⟩
 ·exact⟨_,a_g (j:=2) rfl⟩
 ·exact⟨_,a_g (j:=3) rfl⟩
 ·exact⟨_,a_g (j:=4) rfl⟩
 ·exact⟨_,a_g (j:=5) rfl⟩
theorem i_S:a_s ["_law_cell"] ["_law_cell"] (a_m f_I):=⟨rfl,rfl,rfl,by decide+kernel,rfl,by decide+kernel,by decide+kernel⟩
theorem h_J {f:Addr} {fd:FuncData} (F:Fun K "_law_room_of" "_law_room_of" f_I f fd):FnOk P w K mg base CX0 1 f fd ["_law_cell"] g_q:=by
 refine F.ok i_S (λvs H Q E h=> ?_) (λcdv A outer s H vs Q E hr h=> ?_)
 ·obtain⟨c,rfl,_⟩:=h
  rfl
 ·obtain⟨c,rfl,fin⟩:=h
  refine⟨_,(a_f (a_n (a_v a_M (a_R (a_a a_e (a_a a_e (a_a a_e (a_a a_e (a_a (a_q a_J a_e (a_q a_I (a_q a_U (pv 0) a_e) a_e)) (a_a (a_q a_I (pv 0) (a_q g_a a_e a_e)) a_c))))))) (a_q a_I (pv 0) a_e) (λ_ _=>rfl)))),?_⟩;obtain⟨v,hv⟩:=k_I 40 12 26 1000000000000 (13+c / 6 % 60) (c % 10 ^ (30:Int).toNat) c;refine⟨_,rfl,_,_,rfl,rfl,⟨by decide,by decide⟩,_,_,rfl,rfl,(show (0:Int) < 60 by decide),_,_,rfl,rfl,_,rfl,_,_,rfl,rfl,⟨by decide,by decide,by decide⟩,_,_,rfl,rfl,(show (0:Int) < 10 ^ 30 by decide),by show 6<=sizeLine;decide,λl hl=> ?_⟩;exact⟨_,rfl,_,_,rfl,rfl,(show (0:Int) < 6 by decide),l,_,_,_,rfl,rfl,SqL.of a_b,hv,fin v _ (Same.upd_new hl)⟩
theorem a_6:a_s ["_law_deed","_law_seed","_law_word","_law_low"] ["_law_deed","_law_seed"] (a_m b_D):=⟨rfl,rfl,rfl,by decide+kernel,rfl,by decide+kernel,by decide+kernel⟩
def o_f:Sp:=λ_ _ _ _=>False
theorem n_K {f:Addr} {fd:FuncData} {k:Nat} (F:Fun K "_law_moved" "_law_moved" b_D f fd):FnOk P w K mg base CX0 (k+1) f fd ["_law_deed","_law_seed"] o_f:=
 F.ok a_6 (λvs H Q E h=>h.elim) (λcdv A outer s H vs Q E hr h=>h.elim)
def m_D:Sp:=λvs H Q _=>∃(a:Addr) (c:Chg) (sd:Int),vs= [.ref a,.int sd]/\ChgAt H a c/\c.short/\∀(b:Addr) (c':Chg) (H':Hp),H b=none->Same H H'->ChgAt H' b c'->c'.tell sd->Q (.ref b) H'
theorem l_0 {f fRa fRk fSg fRm:Addr} {fd fdRa fdRk fdSg fdRm:FuncData} (F:Fun K "_law_moved" "_law_moved" b_D f fd) (gMv:Gf K mg "_law_moved" f fd ["_law_deed","_law_seed"])
 (gRa:Gf K mg "_law_raised" fRa fdRa ["_law_number","_law_seed"]) (GRa:FnOk P w K mg base CX0 2 fRa fdRa ["_law_number","_law_seed"] c_p) (gRk:Gf K mg "_law_ranked" fRk fdRk ["_law_rank","_law_seed"]) (GRk:FnOk P w K mg base CX0 2 fRk fdRk ["_law_rank","_law_seed"] c_T)
 (gSg:Gf K mg "_law_signed" fSg fdSg ["_law_letters","_law_seed"]) (GSg:FnOk P w K mg base CX0 1 fSg fdSg ["_law_letters","_law_seed"] c_Y) (gRm:Gf K mg "_law_row_moved" fRm fdRm ["_law_row","_law_seed"]) (GRm:FnOk P w K mg base CX0 3 fRm fdRm ["_law_row","_law_seed"] f_F):
 FnOk P w K mg base CX0 5 f fd ["_law_deed","_law_seed"] m_D:=by
 have GMv:FnOk P w K mg base CX0 4 f fd ["_law_deed","_law_seed"] o_f:=n_K F;refine F.ok a_6 (λvs H Q E h=> ?_) (λcdv A outer s H vs Q E hr h=> ?_)
 ·obtain⟨a,c,sd,rfl,_⟩:=h
  rfl
 ·obtain⟨a,c,sd,rfl,hc,hs,fin⟩:=h
  have e:Room 1 _:=hr.mono (by decide);have d:Room 2 _:=hr.mono (by decide);have k:Room 3 _:=hr.mono (by decide);have g:Room 4 _:=hr.mono (by decide)
  refine⟨_,(a_d (a_w (i:=2) a_6.nd rfl (Or.inl rfl) (a_v a_t (pv 0) a_e (λ_ _=>rfl)))
   (a_d (a_B (PW.pt (d_I (a_k a_L (pv 2) a_j (a_o _)) (b_9 (a_k a_L (pv 2) a_j (a_o _))))) (a_f (a_n (a_A (a_a (pv 2) (a_a (a_l GRm k rfl gRm.mg gRm.kp gRm.b .nil a_u (a_a (a_v a_t (pv 0) a_e (λ_ _=>rfl)) (a_a (pv 1) a_c))) a_c))))) a_p)
   (a_d (a_B (PW.pt (d_I (a_k a_L (pv 2) a_j (a_o _)) (b_9 (a_k a_L (pv 2) a_j (a_o _))))) (a_f (a_n (a_A (a_a (pv 2) (a_a (a_l GRa d rfl gRa.mg gRa.kp gRa.b .nil a_u (a_a (a_v a_t (pv 0) a_e (λ_ _=>rfl)) (a_a (pv 1) a_c))) a_c))))) a_p)
   (a_d (a_B (a_k a_L (pv 2) a_j (a_o _)) (a_f (a_n (a_A (a_a (pv 2) (a_a (i_o (x:="_law_one") (fns:= ["_law_seed"]) (js:= [1]) rfl ⟨rfl,by decide+kernel,by decide+kernel,rfl,by decide+kernel,by decide+kernel,rfl,by simp[Env.kindOf];exact rfl,rfl,by decide+kernel⟩ (c_C (a_v a_t (pv 0) a_e (λ_ _=>rfl))) (λ_ _ _ _=>g_w) (λ_ _ _ _=>(a_l GMv g rfl gMv.mg gMv.kp gMv.b .nil a_u (a_a (pv 0) (a_a (pv 1) a_c))))) a_c))))) a_p)
   (a_d (a_B (a_k a_L (pv 2) a_j (a_o _)) (a_f (a_n (a_A (a_a (pv 2) (a_a (a_v a_t (pv 0) a_e (λ_ _=>rfl)) (a_a (a_l GRa d rfl gRa.mg gRa.kp gRa.b .nil a_u (a_a (a_v a_t (pv 0) a_e (λ_ _=>rfl)) (a_a (pv 1) a_c))) a_c)))))) a_p)
   (a_d (a_B (PW.pt (d_Z (a_k a_L (pv 2) a_j (a_o _)) (c_B (a_k a_L (a_v a_t (pv 0) a_e (λ_ _=>rfl)) a_j (a_o _))))) (a_f (a_n (a_A (a_a (pv 2) (a_a (a_v a_t (pv 0) a_e (λ_ _=>rfl)) (a_a (a_l GSg e rfl gSg.mg gSg.kp gSg.b .nil a_u (a_a (a_v a_t (pv 0) a_e (λ_ _=>rfl)) (a_a (pv 1) a_c))) (a_a (a_l GSg e rfl gSg.mg gSg.kp gSg.b .nil a_u (a_a (a_v a_t (pv 0) a_e (λ_ _=>rfl)) (a_a (pv 1) a_c))) a_c))))))) a_p)
   (a_d (a_B (a_k a_L (pv 2) a_j (a_o _)) (a_f (a_n (a_A (a_a (pv 2) (a_a (a_v a_t (pv 0) a_e (λ_ _=>rfl)) (a_a (a_l GRk d rfl gRk.mg gRk.kp gRk.b .nil a_u (a_a (a_v a_t (pv 0) a_e (λ_ _=>rfl)) (a_a (pv 1) a_c))) (a_a (a_l GRk d rfl gRk.mg gRk.kp gRk.b .nil a_u (a_a (a_v a_t (pv 0) a_e (λ_ _=>rfl)) (a_a (pv 1) a_c))) a_c))))))) a_p)
   (a_d (a_B (a_k a_L (pv 2) a_j (a_o _)) (a_d (a_w (i:=3) a_6.nd rfl (Or.inl rfl) (a_l GRk d rfl gRk.mg gRk.kp gRk.b .nil a_u (a_a (a_v a_t (pv 0) a_e (λ_ _=>rfl)) (a_a (pv 1) a_c))))
   (a_f (a_n (a_A (a_a (pv 2) (a_a (pv 3) (a_a (a_l GRk d rfl gRk.mg gRk.kp gRk.b .nil a_u (a_a (a_v a_t (pv 0) a_e (λ_ _=>rfl)) (a_a (pv 1) a_c))) (a_a (a_l GSg e rfl gSg.mg gSg.kp gSg.b .nil a_u (a_a (a_v a_t (pv 0) a_e (λ_ _=>rfl)) (a_a (pv 1) a_c))) a_c)))))))) a_p)
   (a_f (a_n (pv 0))))))))))),?_⟩
  have body:True:=trivial;cases c with
  | bring ρ=>
    obtain⟨r,h1,hρ⟩:=hc;refine⟨_,rfl,a,_,_,_,rfl,rfl,SqT.of h1,a_g (j:=0) rfl,?_⟩;refine⟨_,rfl,rfl,_,rfl,a_z (λ_=>k_v ?_) (λq=>absurd (p_u rfl) q)⟩;refine⟨_,rfl,_,rfl,a,_,_,_,rfl,rfl,SqT.of h1,a_g (j:=1) rfl,_,rfl,r,ρ,sd,rfl,hρ,hs.1,λb ρ' H2 hb s2 hρ' en=>⟨by show 2<=sizeLine;decide,λt ht=> ?_⟩⟩;exact fin t (.bring ρ') _ (s2.free ht) (s2.trans (Same.upd_new ht)) ⟨b,a_b,Same.upd_new ht _ _ hρ'⟩ (show ρ'.n∈ML sd by rw[en];exact f_5 hs.2)
  | alter ρ=>
    obtain⟨r,h1,hρ⟩:=hc;refine⟨_,rfl,a,_,_,_,rfl,rfl,SqT.of h1,a_g (j:=0) rfl,?_⟩;refine⟨_,rfl,rfl,_,rfl,a_z (λq=>absurd q (by decide+kernel)) (λ_=> ?_)⟩;refine⟨_,rfl,rfl,_,rfl,a_z (λ_=> ?_) (λq=>absurd (p_u rfl) q)⟩;refine⟨_,rfl,_,rfl,a,_,_,_,rfl,rfl,SqT.of h1,a_g (j:=1) rfl,_,rfl,r,ρ,sd,rfl,hρ,hs.1,λb ρ' H2 hb s2 hρ' en=>⟨by show 2<=sizeLine;decide,λt ht=> ?_⟩⟩;exact fin t (.alter ρ') _ (s2.free ht) (s2.trans (Same.upd_new ht)) ⟨b,a_b,Same.upd_new ht _ _ hρ'⟩ (show ρ'.n∈ML sd by rw[en];exact f_5 hs.2)
  | cut n=>
    refine⟨_,rfl,a,_,_,_,rfl,rfl,SqT.of hc,a_g (j:=0) rfl,?_⟩;refine⟨_,rfl,rfl,_,rfl,a_z (λq=>absurd q (by decide+kernel)) (λ_=> ?_)⟩;refine⟨_,rfl,rfl,_,rfl,a_z (λq=>absurd q (by decide+kernel)) (λ_=> ?_)⟩;refine⟨_,rfl,rfl,_,rfl,a_z (λ_=>k_v ?_) (λq=>absurd (p_u rfl) q)⟩;refine⟨_,rfl,_,rfl,a,_,_,_,rfl,rfl,SqT.of hc,a_g (j:=1) rfl,_,rfl,n,sd,rfl,by show 2<=sizeLine;decide,λt ht=> ?_⟩;exact fin t (.cut (a_3 n sd)) _ ht (Same.upd_new ht) a_b (f_5 hs)
def n_0:Sp:=λvs H Q _=>∃(a:Addr) (d:Deed) (sd:Int),vs= [.ref a,.int sd]/\DeedAt H a d/\d.form/\d.short/\∀(b:Addr) (d':Deed) (H':Hp),Same H H'->DeedAt H' b d'->d'.form->d'.tell sd->(∀l',H' b=some (.tup [.str "all",.ref l'])->H l'=none)->(d.asks->d'.asks)/\(d.plain->d'.plain)->Q (.ref b) H'
theorem n_S {f fRa fRk fSg fRm:Addr} {fd fdRa fdRk fdSg fdRm:FuncData} (F:Fun K "_law_moved" "_law_moved" b_D f fd) (gMv:Gf K mg "_law_moved" f fd ["_law_deed","_law_seed"])
 (gRa:Gf K mg "_law_raised" fRa fdRa ["_law_number","_law_seed"]) (GRa:FnOk P w K mg base CX0 2 fRa fdRa ["_law_number","_law_seed"] c_p) (gRk:Gf K mg "_law_ranked" fRk fdRk ["_law_rank","_law_seed"]) (GRk:FnOk P w K mg base CX0 2 fRk fdRk ["_law_rank","_law_seed"] c_T)
 (gSg:Gf K mg "_law_signed" fSg fdSg ["_law_letters","_law_seed"]) (GSg:FnOk P w K mg base CX0 1 fSg fdSg ["_law_letters","_law_seed"] c_Y) (gRm:Gf K mg "_law_row_moved" fRm fdRm ["_law_row","_law_seed"]) (GRm:FnOk P w K mg base CX0 3 fRm fdRm ["_law_row","_law_seed"] f_F):
 FnOk P w K mg base CX0 6 f fd ["_law_deed","_law_seed"] n_0:=by
 have GMv:FnOk P w K mg base CX0 5 f fd ["_law_deed","_law_seed"] m_D:=l_0 F gMv gRa GRa gRk GRk gSg GSg gRm GRm;refine F.ok a_6 (λvs H Q E h=> ?_) (λcdv A outer s H vs Q E hr h=> ?_)
 ·obtain⟨a,d,sd,rfl,_⟩:=h
  rfl
 ·obtain⟨a,d,sd,rfl,hd,hf,hs,fin⟩:=h
  have B:Room 1 _:=hr.mono (by decide);have g:Room 2 _:=hr.mono (by decide);have R:Room 3 _:=hr.mono (by decide);have O:Room 5 _:=hr
  refine⟨_,(a_d (a_w (i:=2) a_6.nd rfl (Or.inl rfl) (a_v a_t (pv 0) a_e (λ_ _=>rfl)))
   (a_d (a_B (PW.pt (d_I (a_k a_L (pv 2) a_j (a_o _)) (b_9 (a_k a_L (pv 2) a_j (a_o _))))) (a_f (a_n (a_A (a_a (pv 2) (a_a (a_l GRm R rfl gRm.mg gRm.kp gRm.b .nil a_u (a_a (a_v a_t (pv 0) a_e (λ_ _=>rfl)) (a_a (pv 1) a_c))) a_c))))) a_p)
   (a_d (a_B (PW.pt (d_I (a_k a_L (pv 2) a_j (a_o _)) (b_9 (a_k a_L (pv 2) a_j (a_o _))))) (a_f (a_n (a_A (a_a (pv 2) (a_a (a_l GRa g rfl gRa.mg gRa.kp gRa.b .nil a_u (a_a (a_v a_t (pv 0) a_e (λ_ _=>rfl)) (a_a (pv 1) a_c))) a_c))))) a_p)
   (a_d (a_B (a_k a_L (pv 2) a_j (a_o _)) (a_f (a_n (a_A (a_a (pv 2) (a_a (i_o (x:="_law_one") (fns:= ["_law_seed"]) (js:= [1]) rfl ⟨rfl,by decide+kernel,by decide+kernel,rfl,by decide+kernel,by decide+kernel,rfl,by simp[Env.kindOf];exact rfl,rfl,by decide+kernel⟩ (c_C (a_v a_t (pv 0) a_e (λ_ _=>rfl))) (λ_ _ _ _=>g_w) (λ_ _ _ _=>(a_l GMv O rfl gMv.mg gMv.kp gMv.b .nil a_u (a_a (pv 0) (a_a (pv 1) a_c))))) a_c))))) a_p)
   (a_d (a_B (a_k a_L (pv 2) a_j (a_o _)) (a_f (a_n (a_A (a_a (pv 2) (a_a (a_v a_t (pv 0) a_e (λ_ _=>rfl)) (a_a (a_l GRa g rfl gRa.mg gRa.kp gRa.b .nil a_u (a_a (a_v a_t (pv 0) a_e (λ_ _=>rfl)) (a_a (pv 1) a_c))) a_c)))))) a_p)
   (a_d (a_B (PW.pt (d_Z (a_k a_L (pv 2) a_j (a_o _)) (c_B (a_k a_L (a_v a_t (pv 0) a_e (λ_ _=>rfl)) a_j (a_o _))))) (a_f (a_n (a_A (a_a (pv 2) (a_a (a_v a_t (pv 0) a_e (λ_ _=>rfl)) (a_a (a_l GSg B rfl gSg.mg gSg.kp gSg.b .nil a_u (a_a (a_v a_t (pv 0) a_e (λ_ _=>rfl)) (a_a (pv 1) a_c))) (a_a (a_l GSg B rfl gSg.mg gSg.kp gSg.b .nil a_u (a_a (a_v a_t (pv 0) a_e (λ_ _=>rfl)) (a_a (pv 1) a_c))) a_c))))))) a_p)
   (a_d (a_B (a_k a_L (pv 2) a_j (a_o _)) (a_f (a_n (a_A (a_a (pv 2) (a_a (a_v a_t (pv 0) a_e (λ_ _=>rfl)) (a_a (a_l GRk g rfl gRk.mg gRk.kp gRk.b .nil a_u (a_a (a_v a_t (pv 0) a_e (λ_ _=>rfl)) (a_a (pv 1) a_c))) (a_a (a_l GRk g rfl gRk.mg gRk.kp gRk.b .nil a_u (a_a (a_v a_t (pv 0) a_e (λ_ _=>rfl)) (a_a (pv 1) a_c))) a_c))))))) a_p)
   (a_d (a_B (a_k a_L (pv 2) a_j (a_o _)) (a_d (a_w (i:=3) a_6.nd rfl (Or.inl rfl) (a_l GRk g rfl gRk.mg gRk.kp gRk.b .nil a_u (a_a (a_v a_t (pv 0) a_e (λ_ _=>rfl)) (a_a (pv 1) a_c))))
   (a_f (a_n (a_A (a_a (pv 2) (a_a (pv 3) (a_a (a_l GRk g rfl gRk.mg gRk.kp gRk.b .nil a_u (a_a (a_v a_t (pv 0) a_e (λ_ _=>rfl)) (a_a (pv 1) a_c))) (a_a (a_l GSg B rfl gSg.mg gSg.kp gSg.b .nil a_u (a_a (a_v a_t (pv 0) a_e (λ_ _=>rfl)) (a_a (pv 1) a_c))) a_c)))))))) a_p)
   (a_f (a_n (pv 0))))))))))),?_⟩
  have No:∀{x y:Str},(x == y)=false->¬ decide (V.str x=V.str y)=true:=λh q=>by
   have:=p_w q;injection this with this
   rw[this] at h;simp at h
  cases d with
  | chg c=>
    cases c with
    | bring ρ=>
      obtain⟨r,h1,hρ⟩:=hd;refine⟨_,rfl,a,_,_,_,rfl,rfl,SqT.of h1,a_g (j:=0) rfl,?_⟩;refine⟨_,rfl,rfl,_,rfl,a_z (λ_=>k_v ?_) (λq=>absurd (p_u rfl) q)⟩;refine⟨_,rfl,_,rfl,a,_,_,_,rfl,rfl,SqT.of h1,a_g (j:=1) rfl,_,rfl,r,ρ,sd,rfl,hρ,hs.1,λb ρ' H2 hb s2 hρ' en=>⟨by show 2<=sizeLine;decide,λt ht=> ?_⟩⟩;exact fin t (.chg (.bring ρ')) _ (s2.trans (Same.upd_new ht)) ⟨b,a_b,Same.upd_new ht _ _ hρ'⟩ trivial (show ρ'.n∈ML sd by rw[en];exact f_5 hs.2) (b_b a_b (by decide+kernel)) ⟨id,id⟩
    | alter ρ=>
      obtain⟨r,h1,hρ⟩:=hd;refine⟨_,rfl,a,_,_,_,rfl,rfl,SqT.of h1,a_g (j:=0) rfl,?_⟩;refine⟨_,rfl,rfl,_,rfl,a_z (λq=>absurd q (by decide+kernel)) (λ_=> ?_)⟩;refine⟨_,rfl,rfl,_,rfl,a_z (λ_=> ?_) (λq=>absurd (p_u rfl) q)⟩;refine⟨_,rfl,_,rfl,a,_,_,_,rfl,rfl,SqT.of h1,a_g (j:=1) rfl,_,rfl,r,ρ,sd,rfl,hρ,hs.1,λb ρ' H2 hb s2 hρ' en=>⟨by show 2<=sizeLine;decide,λt ht=> ?_⟩⟩;exact fin t (.chg (.alter ρ')) _ (s2.trans (Same.upd_new ht)) ⟨b,a_b,Same.upd_new ht _ _ hρ'⟩ trivial (show ρ'.n∈ML sd by rw[en];exact f_5 hs.2) (b_b a_b (by decide+kernel)) ⟨id,id⟩
    | cut n=>
      refine⟨_,rfl,a,_,_,_,rfl,rfl,SqT.of hd,a_g (j:=0) rfl,?_⟩;refine⟨_,rfl,rfl,_,rfl,a_z (λq=>absurd q (by decide+kernel)) (λ_=> ?_)⟩;refine⟨_,rfl,rfl,_,rfl,a_z (λq=>absurd q (by decide+kernel)) (λ_=> ?_)⟩;refine⟨_,rfl,rfl,_,rfl,a_z (λ_=>k_v ?_) (λq=>absurd (p_u rfl) q)⟩;refine⟨_,rfl,_,rfl,a,_,_,_,rfl,rfl,SqT.of hd,a_g (j:=1) rfl,_,rfl,n,sd,rfl,by show 2<=sizeLine;decide,λt ht=> ?_⟩;exact fin t (.chg (.cut (a_3 n sd))) _ (Same.upd_new ht) a_b trivial (f_5 hs) (b_b a_b (by decide+kernel)) ⟨id,id⟩
  | row n=>
    refine⟨_,rfl,a,_,_,_,rfl,rfl,SqT.of hd,a_g (j:=0) rfl,?_⟩;refine⟨_,rfl,rfl,_,rfl,a_z (λq=>absurd q (by decide+kernel)) (λ_=> ?_)⟩;refine⟨_,rfl,rfl,_,rfl,a_z (λq=>absurd q (by decide+kernel)) (λ_=> ?_)⟩;refine⟨_,rfl,rfl,_,rfl,a_z (λq=>absurd q (by decide+kernel)) (λ_=> ?_)⟩;refine⟨_,rfl,rfl,_,rfl,a_z (λ_=> ?_) (λq=>absurd (p_u rfl) q)⟩;refine⟨_,rfl,_,rfl,a,_,_,_,rfl,rfl,SqT.of hd,a_g (j:=1) rfl,_,rfl,n,sd,rfl,by show 2<=sizeLine;decide,λt ht=> ?_⟩;exact fin t (.row (a_3 n sd)) _ (Same.upd_new ht) a_b trivial (b_s hs) (b_b a_b (by decide+kernel)) ⟨id,id⟩
  | all cs=>
    obtain⟨l,as,h1,h2,h3⟩:=hd;refine⟨_,rfl,a,_,_,_,rfl,rfl,SqT.of h1,a_g (j:=0) rfl,?_⟩;refine⟨_,rfl,rfl,_,rfl,a_z (λq=>absurd q (by decide+kernel)) (λ_=> ?_)⟩;refine⟨_,rfl,rfl,_,rfl,a_z (λq=>absurd q (by decide+kernel)) (λ_=> ?_)⟩;refine⟨_,rfl,rfl,_,rfl,a_z (λq=>absurd q (by decide+kernel)) (λ_=> ?_)⟩;refine⟨_,rfl,rfl,_,rfl,a_z (λq=>absurd q (by decide+kernel)) (λ_=> ?_)⟩;refine⟨_,rfl,rfl,_,rfl,a_z (λ_=> ?_) (λq=>absurd (p_u rfl) q)⟩;refine⟨_,rfl,_,rfl,a,_,_,_,rfl,rfl,SqT.of h1,a_g (j:=1) rfl,l,rfl,⟨_,SqL.of h2⟩,λL hL=> ?_⟩;have s1:=Same.upd_new (o:= .lst []) hL;have T:=Paired.length h3;refine e_D (K:=K) (xs:=as.map V.ref) (λi ys Hx=>Same H Hx/\∃(bs:List Addr) (cs':List Chg),ys=bs.map V.ref/\Paired (ChgAt Hx) bs cs'/\cs'.length=i/\∀c∈cs',c.tell sd) ⟨s1, [], [],rfl,.nil,rfl,by simp⟩ (λi ys Hx _ _ h=>SqL.of (h.1 _ _ h2)) ?_ ?_
    ·rintro i v ys Hx hi hD ⟨sx,bs,cs',rfl,hB,G,C⟩
     rw[o_0] at hi;cases e:as[i]? with
     | none=>rw[e] at hi;cases hi
     | some b=>
       rw[e] at hi;obtain rfl:V.ref b=v:=o_V hi;have S:=(o_2.mp e).1;obtain⟨c,hc⟩:∃c,cs[i]? =some c:=⟨_,o_P (by omega)⟩;obtain⟨b',e',N⟩:=b_E h3 hc;rw[e] at e';obtain rfl:b=b':=o_V e';have U:=Paired.length hB;have p:cs.length<=24:=hf;refine⟨_,rfl,_,rfl,b,c,sd,rfl,N.mono (λx xs q=>sx _ _ q),hs c (p_e hc),λt c' H2 ht s2 J M=> ?_⟩;have z:=s2 _ _ hD;refine⟨z,by rw[o_O];exact a_4 (by omega),(Mov.upd z).same (sx.trans s2) (λx hx=>by rw[o_T.mp hx];exact hL),bs++ [t],cs'++ [c'],by rw[o_W];rfl,?_, by simp;omega,λc hc=> ?_⟩
       ·exact b_a (NoTup.keep (NoTup.lst z)) (a_N (b_a (λx xs q=>s2 _ _ q) hB) (.cons J .nil))
       ·rcases o_6.mp hc with q | q
        ·exact C c q
        ·rw[o_T.mp q];exact M
    ·rintro ys Hx hD ⟨sx,bs,cs',rfl,hB,G,C⟩
     refine⟨by show 2<=sizeLine;decide,λt ht=> ?_⟩;have s2:=Same.upd_new (o:= .tup [.str "all",.ref L]) ht;refine fin t (.all cs') _ (sx.trans s2) ⟨L,bs,a_b,s2 _ _ hD,b_a (λx xs q=>s2 _ _ q) hB⟩ ?_ C (λl' e=> ?_) ⟨id,id⟩
     ·have p:cs.length<=24:=hf
      rw[o_O] at G;show cs'.length<=24;omega
     ·rw[a_b] at e
      injection e with e
      injection e with e
      injection e with _ e
      injection e with e _
      injection e with e
      rw[<-e];exact hL
  | spot x n=>
    refine⟨_,rfl,a,_,_,_,rfl,rfl,SqT.of hd,a_g (j:=0) rfl,?_⟩;refine⟨_,rfl,rfl,_,rfl,a_z (λq=>absurd q (by decide+kernel)) (λ_=> ?_)⟩;refine⟨_,rfl,rfl,_,rfl,a_z (λq=>absurd q (by decide+kernel)) (λ_=> ?_)⟩;refine⟨_,rfl,rfl,_,rfl,a_z (λq=>absurd q (by decide+kernel)) (λ_=> ?_)⟩;refine⟨_,rfl,rfl,_,rfl,a_z (λq=>absurd q (by decide+kernel)) (λ_=> ?_)⟩;refine⟨_,rfl,rfl,_,rfl,a_z (λq=>absurd q (by decide+kernel)) (λ_=> ?_)⟩;refine⟨_,rfl,rfl,_,rfl,a_z (λ_=> ?_) (λq=>absurd (p_u rfl) q)⟩;refine⟨_,rfl,_,rfl,a,_,_,_,rfl,rfl,SqT.of hd,a_g (j:=1) rfl,_,rfl,a,_,_,_,rfl,rfl,SqT.of hd,a_g (j:=2) rfl,_,rfl,n,sd,rfl,by show 3<=sizeLine;decide,λt ht=> ?_⟩;exact fin t (.spot x (a_3 n sd)) _ (Same.upd_new ht) a_b hf (b_s hs) (b_b a_b (by decide+kernel)) ⟨id,id⟩
  | within x lo hi=>
    refine⟨_,rfl,a,_,_,_,rfl,rfl,SqT.of hd,a_g (j:=0) rfl,?_⟩;refine⟨_,rfl,rfl,_,rfl,a_z (λq=>absurd q (by decide+kernel)) (λ_=> ?_)⟩;refine⟨_,rfl,rfl,_,rfl,a_z (λq=>absurd q (by decide+kernel)) (λ_=> ?_)⟩;refine⟨_,rfl,rfl,_,rfl,a_z (λq=>absurd q (by decide+kernel)) (λ_=> ?_)⟩;refine⟨_,rfl,rfl,_,rfl,a_z (λq=>absurd q (by decide+kernel)) (λ_=> ?_)⟩;refine⟨_,rfl,rfl,_,rfl,a_z (λq=>absurd q (by decide+kernel)) (λ_=> ?_)⟩;refine⟨_,rfl,rfl,_,rfl,a_z (λq=>absurd q (by decide+kernel)) (λ_=> ?_)⟩;refine⟨_,rfl,rfl,_,rfl,a_z (λ_=> ?_) (λq=>absurd (p_u rfl) q)⟩;refine⟨_,rfl,a,_,_,_,rfl,rfl,SqT.of hd,a_g (j:=1) rfl,rfl,_,rfl,?_⟩;have p:b_O x lo hi:=hf.1;have I:c_t x:=hf.2;refine a_z (λq=> ?_) (λq=> ?_)
    ·have hx:x="text":=by have:=p_w q;injection this
     rw[b_O,if_pos hx] at p;obtain⟨t1,t2,rfl,rfl⟩:=p;refine⟨_,rfl,_,rfl,a,_,_,_,rfl,rfl,SqT.of hd,a_g (j:=1) rfl,_,rfl,a,_,_,_,rfl,rfl,SqT.of hd,a_g (j:=2) rfl,_,rfl,t1,sd,rfl,hs.1 t1 rfl,λu1 H2 s2=> ?_⟩;refine⟨_,rfl,a,_,_,_,rfl,rfl,SqT.of (s2 _ _ hd),a_g (j:=3) rfl,_,rfl,t2,sd,rfl,hs.2 t2 rfl,λu2 H3 s3=>⟨by show 4<=sizeLine;decide,λt ht=> ?_⟩⟩;refine fin t (.within x (.str u1) (.str u2)) _ ((s2.trans s3).trans (Same.upd_new ht)) a_b ?_ trivial (b_b a_b (by decide+kernel)) ⟨id,id⟩;show b_O x _ _/\c_t x;rw[b_O,if_pos hx];exact⟨⟨_,_,rfl,rfl⟩,I⟩
    ·have hx:¬ x="text":=λe=>q (by rw[e];exact p_u rfl)
     rw[b_O,if_neg hx] at p;obtain⟨i,j,rfl,rfl⟩:=p;refine⟨_,rfl,rfl,_,rfl,a_z (λ_=> ?_) (λq=>absurd (p_u rfl) q)⟩;refine⟨_,rfl,_,rfl,a,_,_,_,rfl,rfl,SqT.of hd,a_g (j:=1) rfl,_,rfl,a,_,_,_,rfl,rfl,SqT.of hd,a_g (j:=2) rfl,_,rfl,i,sd,rfl,λr1=> ?_⟩;refine⟨_,rfl,a,_,_,_,rfl,rfl,SqT.of hd,a_g (j:=3) rfl,_,rfl,j,sd,rfl,λr2=>⟨by show 4<=sizeLine;decide,λt ht=> ?_⟩⟩;refine fin t (.within x (.int r1) (.int r2)) _ (Same.upd_new ht) a_b ?_ trivial (b_b a_b (by decide+kernel)) ⟨id,id⟩;show b_O x _ _/\c_t x;rw[b_O,if_neg hx];exact⟨⟨_,_,rfl,rfl⟩,I⟩
  | both lo hi t0=>
    refine⟨_,rfl,a,_,_,_,rfl,rfl,SqT.of hd,a_g (j:=0) rfl,?_⟩;refine⟨_,rfl,rfl,_,rfl,a_z (λq=>absurd q (by decide+kernel)) (λ_=> ?_)⟩;refine⟨_,rfl,rfl,_,rfl,a_z (λq=>absurd q (by decide+kernel)) (λ_=> ?_)⟩;refine⟨_,rfl,rfl,_,rfl,a_z (λq=>absurd q (by decide+kernel)) (λ_=> ?_)⟩;refine⟨_,rfl,rfl,_,rfl,a_z (λq=>absurd q (by decide+kernel)) (λ_=> ?_)⟩;refine⟨_,rfl,rfl,_,rfl,a_z (λq=>absurd q (by decide+kernel)) (λ_=> ?_)⟩;refine⟨_,rfl,rfl,_,rfl,a_z (λq=>absurd q (by decide+kernel)) (λ_=> ?_)⟩;refine⟨_,rfl,rfl,_,rfl,a_z (λq=>absurd q (by decide+kernel)) (λ_=>d_G ?_)⟩;refine⟨_,rfl,rfl,_,rfl,a_z (λq=>absurd q (by decide+kernel)) (λ_=> ?_)⟩;refine⟨_,rfl,rfl,_,rfl,a_z (λ_=> ?_) (λq=>absurd (p_u rfl) q)⟩;refine⟨_,rfl,a,_,_,_,rfl,rfl,SqT.of hd,a_g (j:=1) rfl,_,rfl,lo,sd,rfl,λr1=> ?_⟩;refine⟨_,rfl,_,rfl,_,rfl,a,_,_,_,rfl,rfl,SqT.of hd,a_g (j:=2) rfl,_,rfl,hi,sd,rfl,λr2=> ?_⟩;refine⟨_,rfl,a,_,_,_,rfl,rfl,SqT.of hd,a_g (j:=3) rfl,_,rfl,t0,sd,rfl,hs,λu H3 s3=>⟨by show 4<=sizeLine;decide,λt ht=> ?_⟩⟩;exact fin t (.both r1 r2 u) _ (s3.trans (Same.upd_new ht)) a_b trivial trivial (b_b a_b (by decide+kernel)) ⟨id,id⟩
  | begin=>
    refine⟨_,rfl,a,_,_,_,rfl,rfl,SqT.of hd,a_g (j:=0) rfl,?_⟩;refine⟨_,rfl,rfl,_,rfl,a_z (λq=>absurd q (by decide+kernel)) (λ_=> ?_)⟩;refine⟨_,rfl,rfl,_,rfl,a_z (λq=>absurd q (by decide+kernel)) (λ_=> ?_)⟩;refine⟨_,rfl,rfl,_,rfl,a_z (λq=>absurd q (by decide+kernel)) (λ_=> ?_)⟩;refine⟨_,rfl,rfl,_,rfl,a_z (λq=>absurd q (by decide+kernel)) (λ_=> ?_)⟩;refine⟨_,rfl,rfl,_,rfl,a_z (λq=>absurd q (by decide+kernel)) (λ_=> ?_)⟩;refine⟨_,rfl,rfl,_,rfl,a_z (λq=>absurd q (by decide+kernel)) (λ_=> ?_)⟩;refine⟨_,rfl,rfl,_,rfl,a_z (λq=>absurd q (by decide+kernel)) (λ_=>d_G ?_)⟩;refine⟨_,rfl,rfl,_,rfl,a_z (λq=>absurd q (by decide+kernel)) (λ_=> ?_)⟩;refine⟨_,rfl,rfl,_,rfl,a_z (λq=>absurd q (by decide+kernel)) (λ_=> ?_)⟩;exact⟨_,rfl,fin a (.begin) H (Same.refl H) hd hf trivial (b_b hd (by decide+kernel)) ⟨id,id⟩⟩
  | keep=>
    refine⟨_,rfl,a,_,_,_,rfl,rfl,SqT.of hd,a_g (j:=0) rfl,?_⟩;refine⟨_,rfl,rfl,_,rfl,a_z (λq=>absurd q (by decide+kernel)) (λ_=> ?_)⟩;refine⟨_,rfl,rfl,_,rfl,a_z (λq=>absurd q (by decide+kernel)) (λ_=> ?_)⟩;refine⟨_,rfl,rfl,_,rfl,a_z (λq=>absurd q (by decide+kernel)) (λ_=> ?_)⟩;refine⟨_,rfl,rfl,_,rfl,a_z (λq=>absurd q (by decide+kernel)) (λ_=> ?_)⟩;refine⟨_,rfl,rfl,_,rfl,a_z (λq=>absurd q (by decide+kernel)) (λ_=> ?_)⟩;refine⟨_,rfl,rfl,_,rfl,a_z (λq=>absurd q (by decide+kernel)) (λ_=> ?_)⟩;refine⟨_,rfl,rfl,_,rfl,a_z (λq=>absurd q (by decide+kernel)) (λ_=>d_G ?_)⟩;refine⟨_,rfl,rfl,_,rfl,a_z (λq=>absurd q (by decide+kernel)) (λ_=> ?_)⟩;refine⟨_,rfl,rfl,_,rfl,a_z (λq=>absurd q (by decide+kernel)) (λ_=> ?_)⟩;exact⟨_,rfl,fin a (.keep) H (Same.refl H) hd hf trivial (b_b hd (by decide+kernel)) ⟨id,id⟩⟩
  | brk=>
    refine⟨_,rfl,a,_,_,_,rfl,rfl,SqT.of hd,a_g (j:=0) rfl,?_⟩;refine⟨_,rfl,rfl,_,rfl,a_z (λq=>absurd q (by decide+kernel)) (λ_=> ?_)⟩;refine⟨_,rfl,rfl,_,rfl,a_z (λq=>absurd q (by decide+kernel)) (λ_=> ?_)⟩;refine⟨_,rfl,rfl,_,rfl,a_z (λq=>absurd q (by decide+kernel)) (λ_=> ?_)⟩;refine⟨_,rfl,rfl,_,rfl,a_z (λq=>absurd q (by decide+kernel)) (λ_=> ?_)⟩;refine⟨_,rfl,rfl,_,rfl,a_z (λq=>absurd q (by decide+kernel)) (λ_=> ?_)⟩;refine⟨_,rfl,rfl,_,rfl,a_z (λq=>absurd q (by decide+kernel)) (λ_=> ?_)⟩;refine⟨_,rfl,rfl,_,rfl,a_z (λq=>absurd q (by decide+kernel)) (λ_=>d_G ?_)⟩;refine⟨_,rfl,rfl,_,rfl,a_z (λq=>absurd q (by decide+kernel)) (λ_=> ?_)⟩;refine⟨_,rfl,rfl,_,rfl,a_z (λq=>absurd q (by decide+kernel)) (λ_=> ?_)⟩;exact⟨_,rfl,fin a (.brk) H (Same.refl H) hd hf trivial (b_b hd (by decide+kernel)) ⟨id,id⟩⟩
  | «from» x k m=>
    refine⟨_,rfl,a,_,_,_,rfl,rfl,SqT.of hd,a_g (j:=0) rfl,?_⟩;refine⟨_,rfl,rfl,_,rfl,a_z (λq=>absurd q (by decide+kernel)) (λ_=> ?_)⟩;refine⟨_,rfl,rfl,_,rfl,a_z (λq=>absurd q (by decide+kernel)) (λ_=> ?_)⟩;refine⟨_,rfl,rfl,_,rfl,a_z (λq=>absurd q (by decide+kernel)) (λ_=> ?_)⟩;refine⟨_,rfl,rfl,_,rfl,a_z (λq=>absurd q (by decide+kernel)) (λ_=> ?_)⟩;refine⟨_,rfl,rfl,_,rfl,a_z (λq=>absurd q (by decide+kernel)) (λ_=> ?_)⟩;refine⟨_,rfl,rfl,_,rfl,a_z (λq=>absurd q (by decide+kernel)) (λ_=> ?_)⟩;refine⟨_,rfl,rfl,_,rfl,a_z (λq=>absurd q (by decide+kernel)) (λ_=>d_G ?_)⟩;refine⟨_,rfl,rfl,_,rfl,a_z (λq=>absurd q (by decide+kernel)) (λ_=> ?_)⟩;refine⟨_,rfl,rfl,_,rfl,a_z (λq=>absurd q (by decide+kernel)) (λ_=> ?_)⟩;exact⟨_,rfl,fin a (.from x k m) H (Same.refl H) hd hf trivial (b_b hd (by decide+kernel)) ⟨id,id⟩⟩
end
def f_n (room:Int) (kd mk:Addr):List (Key×V):= [(Sum.inr "room",.int room),(Sum.inr "kept",.ref kd),(Sum.inr "marks",.ref mk)]
theorem n_i:¬ ((Sum.inr ("room":Str):Key)=Sum.inr ("kept":Str)):=by decide+kernel
theorem o_g:¬ ((Sum.inr ("room":Str):Key)=Sum.inr ("marks":Str)):=by decide+kernel
theorem o_b:¬ ((Sum.inr ("kept":Str):Key)=Sum.inr ("marks":Str)):=by decide+kernel
theorem j_M (room:Int) (kd mk:Addr):c_K (f_n room kd mk) (Sum.inr "room")=some (.int room):=b_u rfl
theorem j_R (room:Int) (kd mk:Addr):c_K (f_n room kd mk) (Sum.inr "kept")=some (.ref kd):=(b_c n_i).trans (b_u rfl)
theorem h_N (room:Int) (kd mk:Addr):c_K (f_n room kd mk) (Sum.inr "marks")=some (.ref mk):=(b_c o_g).trans ((b_c o_b).trans (b_u rfl))
theorem j_2 {H:Hp} {st kd mk:Addr} {room:Int} (h:H st=some (.dK (f_n room kd mk))):DGet H st (.str "room") (some (.int room)):=j_M room kd mk ▸ DGet.k (k:=Sum.inr "room") h
theorem e_x {H:Hp} {st kd mk:Addr} {room:Int} (h:H st=some (.dK (f_n room kd mk))):DGet H st (.str "kept") (some (.ref kd)):=j_R room kd mk ▸ DGet.k (k:=Sum.inr "kept") h
theorem b_V {H:Hp} {st kd mk:Addr} {room:Int} (h:H st=some (.dK (f_n room kd mk))):DGet H st (.str "marks") (some (.ref mk)):=h_N room kd mk ▸ DGet.k (k:=Sum.inr "marks") h
theorem e_v {H:Hp} {d:Addr} {kvs:List (Key×V)} {n:Int} (h:H d=some (.dK kvs)):DGet H d (.int n) (c_K kvs (Sum.inl n)):=DGet.k (k:=Sum.inl n) h
theorem k_E {H:Hp} {d:Addr} {kvs:List (Key×V)} {o:HO} (h:H d=some (.dK kvs)):∀b xs,H b=some (.tup xs)->(upd H d o) b=some (.tup xs):=λb xs e=>by
 rw[a_i (λq=>by rw[q,h] at e;cases e)];exact e
theorem k_2 {H:Hp} {o:HO} (d:Addr):∀b u,H b=some u->b≠d->(upd H d o) b=some u:=λb u e hn=>by rw[a_i hn];exact e
section
variable {P:Program} {w:World} {K:PySem.W.Frag} {mg:Str->Option Value} {base:Heap}
def e_9:Sp:=λvs H Q _=>∃(st kd mk a:Addr) (room:Int) (l:List Row) (c:Chg),vs= [.ref st,.ref a]/\H st=some (.dK (f_n room kd mk))/\KeptAt H kd l/\ChgAt H a c/\l.length<=1000/\
 ∀H',KeptAt H' kd (b_p room l c).1->(∀b u,H b=some u->b≠kd->H' b=some u)->Q (.str (b_p room l c).2) H'
theorem e_7:a_s ["_law_store","_law_deed","_law_kept"] ["_law_store","_law_deed"] (a_m d_9):=⟨rfl,rfl,rfl,by decide+kernel,rfl,by decide+kernel,by decide+kernel⟩
theorem h_a {f:Addr} {fd:FuncData} (F:Fun K "_law_changed" "_law_changed" d_9 f fd) (B:Bt mg):FnOk P w K mg base CX0 1 f fd ["_law_store","_law_deed"] e_9:=by
 refine F.ok e_7 (λvs H Q E h=> ?_) (λcdv A outer s H vs Q E hr h=> ?_)
 ·obtain⟨st,kd,mk,a,room,l,c,rfl,_⟩:=h
  rfl
 ·obtain⟨st,kd,mk,a,room,l,c,rfl,o,⟨rs,hk,hR⟩,hc,hl,fin⟩:=h
  have g:=e_u hr
  refine⟨_,(a_d (a_w (i:=2) e_7.nd rfl (Or.inl rfl) (b_U g (pv 0) a_j (λ_ _=>rfl)))
   (a_d (a_B (a_k a_L (a_v a_t (pv 1) a_e (λ_ _=>rfl)) a_j (a_o _)) (a_d (a_B (d_C (k_q g (a_v a_t (a_v a_t (pv 1) a_e (λ_ _=>rfl)) a_e (λ_ _=>rfl)) (pv 2))) (a_f (a_n a_j)) a_p)
   (a_d (a_B (a_k l_D (a_r f_c (by rfl) B.len p_x (a_a (pv 2) a_c)) (b_U g (pv 0) a_j (λ_ _=>rfl)) (a_o _)) (a_f (a_n a_j)) a_p)
   (a_f (e_p g (pv 2) (a_v a_t (a_v a_t (pv 1) a_e (λ_ _=>rfl)) a_e (λ_ _=>rfl)) (a_v a_t (pv 1) a_e (λ_ _=>rfl)) rfl)))) (a_f (a_B (a_k a_L (a_v a_t (pv 1) a_e (λ_ _=>rfl)) a_j (a_o _)) (a_d (a_B (d_C (c_3 g (a_v a_t (a_v a_t (pv 1) a_e (λ_ _=>rfl)) a_e (λ_ _=>rfl)) (pv 2))) (a_f (a_n a_j)) a_p)
   (a_f (e_p g (pv 2) (a_v a_t (a_v a_t (pv 1) a_e (λ_ _=>rfl)) a_e (λ_ _=>rfl)) (a_v a_t (pv 1) a_e (λ_ _=>rfl)) rfl))) (a_d (a_B (d_C (c_3 g (a_v a_t (pv 1) a_e (λ_ _=>rfl)) (pv 2))) (a_f (a_n a_j)) a_p)
   (a_f (a_y (g_m (pv 2) (a_v a_t (pv 1) a_e (λ_ _=>rfl)) ⟨rfl,rfl,rfl,rfl⟩)))))))
   (a_f (a_n a_j)))),?_⟩
  have p:(a_O rs l).length < sizeLine:=by rw[c_F hR];exact a_4 hl
  refine⟨_,rfl,st,_,rfl,e_x o,?_⟩;have same:∀b u,H b=some u->b≠kd->H b=some u:=λb u h _=>h;cases c with
  | bring ρ=>
    obtain⟨r,h1,hρ⟩:=hc;obtain⟨v1,v2⟩:=b_K (n:=ρ.n) hR;refine⟨_,rfl,a,_,_,_,rfl,rfl,SqT.of h1,a_g (j:=0) rfl,rfl,_,rfl,a_z (λ_=> ?_) (λq=>absurd (p_u rfl) q)⟩;refine⟨_,rfl,a,_,_,_,rfl,rfl,SqT.of h1,a_g (j:=1) rfl,r,_,_,_,rfl,rfl,SqT.of hρ,a_g (j:=0) rfl,_,rfl,kd,_,rfl,e_v hk,_,rfl,?_⟩;rw[v1];refine a_z (λc1=> ?_) (λc1=> ?_)
    ·have e:b_p room l (.bring ρ)=(l,("taken":Str)):=by simp[b_p,c1]
     have:=fin H;rw[e] at this;exact this ⟨rs,hk,hR⟩ same
    refine⟨_,rfl,kd,_,rfl,hk,_,rfl,st,_,rfl,j_2 o,_,_,rfl,rfl,_,rfl,?_⟩;refine a_z (λc2=> ?_) (λc2=> ?_)
    ·have m:room<=(l.length:Int):=by have:=p_w c2;rw[c_F hR] at this;exact this
     have e:b_p room l (.bring ρ)=(l,("full":Str)):=by simp[b_p,c1,m]
     have:=fin H;rw[e] at this;exact this ⟨rs,hk,hR⟩ same
    have m:¬ room<=(l.length:Int):=λq=>c2 (p_u (by rw[c_F hR];exact q));obtain⟨rs',e1,e2⟩:=f_1 hρ hR;refine⟨_,rfl,a,_,_,_,rfl,rfl,SqT.of h1,a_g (j:=1) rfl,_,rfl,_,rfl,a,_,_,_,rfl,rfl,SqT.of h1,a_g (j:=1) rfl,r,_,_,_,rfl,rfl,SqT.of hρ,a_g (j:=0) rfl,kd,_,rfl,DPut.k (k:=Sum.inl ρ.n) hk p,?_⟩;have e:b_p room l (.bring ρ)=(b_P l ρ,("done":Str)):=by simp only[b_p,if_neg c1,if_neg m]
    have:=fin (upd H kd (.dK (c_r (a_O rs l) (Sum.inl ρ.n) (V.ref r))));rw[e] at this;exact this ⟨rs',by rw[e1];exact a_b,e2.same (k_E hk)⟩ (k_2 kd)
  | alter ρ=>
    obtain⟨r,h1,hρ⟩:=hc;obtain⟨v1,v2⟩:=b_K (n:=ρ.n) hR;refine⟨_,rfl,a,_,_,_,rfl,rfl,SqT.of h1,a_g (j:=0) rfl,rfl,_,rfl,a_z (λq=>absurd q (by decide+kernel)) (λ_=> ?_)⟩;refine⟨_,rfl,a,_,_,_,rfl,rfl,SqT.of h1,a_g (j:=0) rfl,rfl,_,rfl,a_z (λ_=> ?_) (λq=>absurd (p_u rfl) q)⟩;refine⟨_,rfl,a,_,_,_,rfl,rfl,SqT.of h1,a_g (j:=1) rfl,r,_,_,_,rfl,rfl,SqT.of hρ,a_g (j:=0) rfl,_,rfl,kd,_,rfl,e_v hk,_,rfl,?_⟩;rw[v1];refine a_z (λc1=> ?_) (λc1=> ?_)
    ·have d:¬ b_g l ρ.n=true:=λq=>by rw[q] at c1;cases c1
     have e:b_p room l (.alter ρ)=(l,("missing":Str)):=by simp only[b_p,if_neg d]
     have:=fin H;rw[e] at this;exact this ⟨rs,hk,hR⟩ same
    have d:b_g l ρ.n=true:=by
     cases q:b_g l ρ.n with
     | true=>rfl
     | false=>rw[q] at c1;exact absurd rfl c1
    obtain⟨rs',e1,e2⟩:=f_1 hρ hR;refine⟨_,rfl,a,_,_,_,rfl,rfl,SqT.of h1,a_g (j:=1) rfl,_,rfl,_,rfl,a,_,_,_,rfl,rfl,SqT.of h1,a_g (j:=1) rfl,r,_,_,_,rfl,rfl,SqT.of hρ,a_g (j:=0) rfl,kd,_,rfl,DPut.k (k:=Sum.inl ρ.n) hk p,?_⟩;have e:b_p room l (.alter ρ)=(b_P l ρ,("done":Str)):=by simp only[b_p,if_pos d]
    have:=fin (upd H kd (.dK (c_r (a_O rs l) (Sum.inl ρ.n) (V.ref r))));rw[e] at this;exact this ⟨rs',by rw[e1];exact a_b,e2.same (k_E hk)⟩ (k_2 kd)
  | cut n=>
    obtain⟨v1,v2⟩:=b_K (n:=n) hR;refine⟨_,rfl,a,_,_,_,rfl,rfl,SqT.of hc,a_g (j:=0) rfl,rfl,_,rfl,a_z (λq=>absurd q (by decide+kernel)) (λ_=> ?_)⟩;refine⟨_,rfl,a,_,_,_,rfl,rfl,SqT.of hc,a_g (j:=0) rfl,rfl,_,rfl,a_z (λq=>absurd q (by decide+kernel)) (λ_=> ?_)⟩;refine⟨_,rfl,a,_,_,_,rfl,rfl,SqT.of hc,a_g (j:=1) rfl,_,rfl,kd,_,rfl,e_v hk,_,rfl,?_⟩;rw[v1];refine a_z (λc1=> ?_) (λc1=> ?_)
    ·have d:¬ b_g l n=true:=λq=>by rw[q] at c1;cases c1
     have e:b_p room l (.cut n)=(l,("missing":Str)):=by simp only[b_p,if_neg d]
     have:=fin H;rw[e] at this;exact this ⟨rs,hk,hR⟩ same
    have d:b_g l n=true:=by
     cases q:b_g l n with
     | true=>rfl
     | false=>rw[q] at c1;exact absurd rfl c1
    obtain⟨rs',e1,e2⟩:=d_4 (n:=n) hR;obtain⟨r,ρ,g1,_⟩:=v2 d;refine⟨_,rfl,kd,rfl,.inl ⟨_,.inl hk⟩,_,rfl,a,_,_,_,rfl,rfl,SqT.of hc,a_g (j:=1) rfl,_,Sum.inl n,_,hk,rfl,g1,?_⟩;have e:b_p room l (.cut n)=(a_Z l n,("done":Str)):=by simp only[b_p,if_pos d]
    have:=fin (upd H kd (.dK (c_I (a_O rs l) (Sum.inl n))));rw[e] at this;exact this ⟨rs',by rw[e1];exact a_b,e2.same (k_E hk)⟩ (k_2 kd)
end
end K1
namespace L2
open PySem PySem.Spec PyProof.Rows
section
variable {X:Cx}
def m_h:V->List V->Hp->VK->Prop:=λx vs H Q=>∃a kvs,x= .ref a/\vs= []/\H a=some (.dK kvs)/\∀p,H p=none->Q (.ref p) (upd H p (.dK kvs))
theorem j_Z:MtM X "dict.copy" m_h:=by
 intro pins s σ H x vs v us Q I rx rv h;obtain⟨a,kvs,rfl,rfl,hH,q⟩:=h;cases rx;cases rv;obtain⟨z,hd,ws,rel,dd⟩:=i_G I.hok hH;refine call_meetsIn PySem.F.slot_dict_copy dd.typeIs PySem.F.entry_dict_copy (PySem.F.args_dict_copy_1 _) (meets_dict_copy (a_V X.prog X.w) a hd) ⟨ws,dd,by rw[<-rel.length];exact z,λh' d1 d2 hs=> ?_⟩;exact⟨.ref s.heap.objs.size,_,I.laid (a:=s.heap.objs.size) (o:= .dK kvs) (t':=s.toks) hs (o_X _) (e_I z (beq_eq_false_iff_ne.mpr (Ne.symm (p_c I.big))) rel d1),rfl,q _ (I.hok.fresh (o_X _))⟩
end
end L2
namespace K1
open PySem L2 TO
section
variable {P:Program} {w:World} {K:PySem.W.Frag} {mg:Str->Option Value} {base:Heap}
def d_S:Sp:=λvs H Q _=>∃room,vs= [.int room]/\∀(st kd mk:Addr) (H':Hp),H st=none->H kd=none->H mk=none-> [st,kd,mk].Nodup->Same H H'->H' st=some (.dK (f_n room kd mk))->H' kd=some (.dK [])->H' mk=some (.lst [])->Q (.ref st) H'
theorem o_z:¬ ((Sum.inr ("marks":Str):Key)=Sum.inr ("kept":Str)):=by decide+kernel
theorem k_y (room:Int) (kd mk bd:Addr):c_r (f_n room kd mk) (Sum.inr ("kept":Str)) (.ref bd)=f_n room bd mk:=by
 unfold c_r f_n;simp only[List.any_cons,o_3,List.map_nil,if_neg n_i,if_neg o_z,if_true,decide_true,Bool.true_or,Bool.or_true]
theorem g_3:a_s ["_law_room"] ["_law_room"] (a_m d_h):=⟨rfl,rfl,rfl,by decide+kernel,rfl,by decide+kernel,by decide+kernel⟩
theorem m_t (x y z:V):d_r [] [((Sum.inr ("room":Str):Key),x),(Sum.inr ("kept":Str),y),(Sum.inr ("marks":Str),z)]= [(Sum.inr ("room":Str),x),(Sum.inr ("kept":Str),y),(Sum.inr ("marks":Str),z)]:=by
 have e1:c_r ([]:List (Key×V)) (Sum.inr ("room":Str)) x= [(Sum.inr ("room":Str),x)]:=c_2 _ rfl;have e2:c_r [((Sum.inr ("room":Str):Key),x)] (Sum.inr ("kept":Str)) y= [(Sum.inr ("room":Str),x),(Sum.inr ("kept":Str),y)]:=c_2 _ (b_c n_i);have e3:c_r [((Sum.inr ("room":Str):Key),x),(Sum.inr ("kept":Str),y)] (Sum.inr ("marks":Str)) z= [(Sum.inr ("room":Str),x),(Sum.inr ("kept":Str),y),(Sum.inr ("marks":Str),z)]:=c_2 _ ((b_c o_g).trans (b_c o_b));simp only[d_r,List.foldl_cons,List.foldl_nil,e1,e2,e3]
theorem f_0 {f:Addr} {fd:FuncData} (F:Fun K "_law_new_store" "_law_new_store" d_h f fd):FnOk P w K mg base CX0 1 f fd ["_law_room"] d_S:=by
 refine F.ok g_3 (λvs H Q E h=> ?_) (λcdv A outer s H vs Q E hr h=> ?_)
 ·obtain⟨room,rfl,_⟩:=h
  rfl
 ·obtain⟨room,rfl,fin⟩:=h
  refine⟨_,(a_f (a_n (k_6 (e_w a_j (pv 0) (e_w a_j g_h (e_w a_j (a_R a_c) k_U))) rfl rfl (by simp) (by decide)))),?_⟩;intro st d;refine⟨_,rfl,λkd c=>⟨by show 0<=sizeLine;decide,λmk a=> ?_⟩⟩;have s1:Same H (upd H st (.dK [])):=Same.upd_new d;have s2:=Same.upd_new (o:= .dK []) c;have s3:=Same.upd_new (o:= .lst []) a;have n1:st≠kd:=a_h a_b c;have n2:st≠mk:=a_h (s2 _ _ a_b) a;have n3:kd≠mk:=a_h a_b a;refine⟨s3 _ _ (s2 _ _ a_b), [(Sum.inr ("room":Str),.int room),(Sum.inr ("kept":Str),.ref kd),(Sum.inr ("marks":Str),.ref mk)],rfl,by show 3<=15;decide,?_⟩;rw[m_t];refine fin st kd mk _ d (s1.free c) (s1.free (s2.free a)) (by simp[n1,n2,n3]) (λb u h=> ?_) a_b (by rw[a_i n1.symm];exact s3 _ _ a_b) (by rw[a_i n2.symm];exact a_b);rw[a_i (a_h h d)];exact s3 _ _ (s2 _ _ (s1 _ _ h))
end
end K1
namespace TO
open PySem L2
end TO
namespace K1
open PySem L2 TO
section
variable {P:Program} {w:World} {K:PySem.W.Frag} {mg:Str->Option Value} {base:Heap}
end
end K1
namespace TO
open PySem L2
section
variable {X:Cx}
end
end TO
namespace K1
open PySem L2 TO
section
variable {P:Program} {w:World} {K:PySem.W.Frag} {mg:Str->Option Value} {base:Heap}
end
end K1
namespace TO
open PySem L2
structure Sto.nums (s:Sto):Prop where
 kept:c_m s.kept
 marks:∀k∈s.marks,c_m k
theorem f_j {room:Int} {l0:List Row} (h0:c_m l0):∀{cs:List Chg} {i:Nat} {l:List Row},c_m l->c_m (l_k room l0 i l cs).1
 | [],i,l,h=>h
 | c::r,i,l,h=>by
   unfold l_k;dsimp only;split
   ·exact f_j h0 (e_U h)
   ·exact h0
theorem h_Z {room:Int} {s:Sto} {d:Deed} (h:s.nums):(s.step room d).1.nums:=by
 cases d with
 | chg c=>exact⟨e_U h.kept,h.marks⟩
 | all cs=>exact⟨f_j h.kept h.kept,h.marks⟩
 | begin=>exact⟨h.kept,fun k hk=>by
    rcases o_Z.mp hk with e | e
    ·rw[e];exact h.kept
    ·exact h.marks k e⟩
 | keep=>
   unfold Sto.step;cases e:s.marks with
   | nil=>exact h
   | cons a r=>exact⟨h.kept,λk hk=>h.marks k (by rw[e];exact o_R _ hk)⟩
 | brk=>
   unfold Sto.step;cases e:s.marks with
   | nil=>exact h
   | cons a r=>exact⟨h.marks a (by rw[e];exact o_S ..),λk hk=>h.marks k (by rw[e];exact o_R _ hk)⟩
 | _=>exact h
theorem g_U {room:Int} {s:Sto} {d:Deed}:(s.step room d).1.marks.length<=s.marks.length+1:=by
 cases d with
 | keep=>
   unfold Sto.step;cases e:s.marks with
   | nil=>simp[e]
   | cons a r=>simp;omega
 | brk=>
   unfold Sto.step;cases e:s.marks with
   | nil=>simp[e]
   | cons a r=>simp;omega
 | begin=>simp[Sto.step]
 | _=>exact Nat.le_succ _
theorem b_m {H H':Hp} (tk:K1.a_F H H'):∀{ms:List Addr} {ls:List (List Row)},Paired (KeptAt H) ms ls->(∀b∈ms,∀u,H b=some u->H' b=some u)->Paired (KeptAt H') ms ls
 | _,_,.nil,_=> .nil
 | _,_,.cons h t,hk=> .cons (by
    obtain⟨rs,h1,h2⟩:=h;exact⟨rs,hk _ (o_S ..) _ h1,h2.same tk⟩) (b_m tk t λb hb=>hk b (o_R _ hb))
end TO
namespace K1
open PySem L2 TO
structure StoAt (H:Hp) (st kd mk:Addr) (mas:List Addr) (room:Int) (s:Sto):Prop where
 sto:H st=some (.dK (f_n room kd mk))
 kept:KeptAt H kd s.kept
 marks:H mk=some (.lst (mas.map V.ref))
 ms:Paired (KeptAt H) mas s.marks.reverse
 nd:(st::mk::kd::mas).Nodup
theorem StoAt.same {H H':Hp} {st kd mk:Addr} {mas:List Addr} {room:Int} {s:Sto} (S:StoAt H st kd mk mas room s) (h:Same H H'):StoAt H' st kd mk mas room s:=
 ⟨h _ _ S.sto,KeptAt.same S.kept h,h _ _ S.marks,b_m (λb xs q=>h _ _ q) S.ms λb _ u q=>h _ _ q,S.nd⟩
theorem StoAt.dicts {H:Hp} {st kd mk:Addr} {mas:List Addr} {room:Int} {s:Sto} (S:StoAt H st kd mk mas room s):∀b∈mas,∃kvs,H b=some (.dK kvs):=by
 have aux:∀{ms:List Addr} {ls:List (List Row)},Paired (KeptAt H) ms ls->∀b∈ms,∃kvs,H b=some (.dK kvs):=by
  intro ms ls h;induction h with
  | nil=>intro b hb;cases hb
  | cons h t ih=>
    intro b hb;rcases o_Z.mp hb with e | e
    ·obtain⟨rs,q,_⟩:=h;rw[e];exact⟨_,q⟩
    ·exact ih b e
 exact aux S.ms
theorem StoAt.fpin {H:Hp} {st kd mk:Addr} {mas:List Addr} {room:Int} {s:Sto} (S:StoAt H st kd mk mas room s):∀b∈st::mk::kd::mas,(∃u,H b=some u)/\∀xs,H b≠some (.tup xs):=λb hb=>by
 rcases o_Z.mp hb with e | hb
 ·rw[e];exact⟨⟨_,S.sto⟩,λxs q=>by rw[S.sto] at q;cases q⟩
 rcases o_Z.mp hb with e | hb
 ·rw[e];exact⟨⟨_,S.marks⟩,λxs q=>by rw[S.marks] at q;cases q⟩
 rcases o_Z.mp hb with e | hb
 ·obtain⟨rs,q,_⟩:=S.kept
  rw[e];exact⟨⟨_,q⟩,λxs q'=>by rw[q] at q';cases q'⟩
 ·obtain⟨kvs,q⟩:=S.dicts b hb
  exact⟨⟨_,q⟩,λxs q'=>by rw[q] at q';cases q'⟩
def WD (x:Str):Deed->Prop
 | .chg _=>inV (.str x) [V.str "bring",V.str "alter",V.str "cut"]=true
 | .all _=>x="all"
 | .begin=>x="begin"
 | .keep=>x="keep"
 | .brk=>x="break"
 | _=>inV (.str x) [V.str "bring",V.str "alter",V.str "cut"]=false/\¬ V.str x=V.str "all"/\¬ V.str x=V.str "begin"/\inV (.str x) [V.str "keep",V.str "break"]=false
theorem i_s {H:Hp} {a:Addr} {d:Deed} (hd:DeedAt H a d):∃(x:Str) (r:List V),H a=some (.tup (.str x::r))/\WD x d:=by
 cases d with
 | chg c=>
   cases c with
   | bring ρ=>obtain⟨r,h1,h2⟩:=id hd;exact⟨"bring",_,h1,show inV _ _=true by decide+kernel⟩
   | alter ρ=>obtain⟨r,h1,h2⟩:=id hd;exact⟨"alter",_,h1,show inV _ _=true by decide+kernel⟩
   | cut n=>exact⟨"cut",_,hd,show inV _ _=true by decide+kernel⟩
 | all cs=>obtain⟨l,as,h1,_⟩:=id hd;exact⟨_,_,h1,rfl⟩
 | begin=>exact⟨_,_,hd,rfl⟩
 | keep=>exact⟨_,_,hd,rfl⟩
 | brk=>exact⟨_,_,hd,rfl⟩
 | row n=>exact⟨_,_,hd,by decide+kernel,by decide+kernel,by decide+kernel,by decide+kernel⟩
 | within x lo hi=>exact⟨_,_,hd,by decide+kernel,by decide+kernel,by decide+kernel,by decide+kernel⟩
 | both lo hi t=>exact⟨_,_,hd,by decide+kernel,by decide+kernel,by decide+kernel,by decide+kernel⟩
 | «from» x k m=>exact⟨_,_,hd,by decide+kernel,by decide+kernel,by decide+kernel,by decide+kernel⟩
 | spot x n=>exact⟨_,_,hd,by decide+kernel,by decide+kernel,by decide+kernel,by decide+kernel⟩
theorem c_b {α β:Type} {F:α->β->Prop} {b:β}:∀{l:List α} {B:List β},Paired F l (B++ [b])->∃l0 a,l=l0++ [a]/\Paired F l0 B/\F a b
 | [],B,h=>by have:=Paired.length h;simp at this
 | x::r, [],h=>by
   cases h with
   | cons h t=>
     cases t;exact⟨[],x,rfl,.nil,h⟩
 | x::r,c::B,h=>by
   cases h with
   | cons h t=>
     obtain⟨l0,a,e,p,q⟩:=c_b t;exact⟨x::l0,a,by rw[e];rfl,.cons h p,q⟩
abbrev n_Y (H:Hp) (st kd mk:Addr) (mas:List Addr) (room:Int) (Q:VK) (r:Sto×D):Prop:=∀(v:V) (kd':Addr) (mas':List Addr) (H':Hp),StoAt H' st kd' mk mas' room r.1->Stp H H' (st::mk::kd::mas) (st::mk::kd'::mas')->a_F H H'->Ans H' (st::mk::kd'::mas') r.2 v->NewA H H' v->Q v H'
section
variable {P:Program} {w:World} {K:PySem.W.Frag} {mg:Str->Option Value} {base:Heap}
theorem d_2:a_s ["_law_store","_law_deed","_law_before"] ["_law_store","_law_deed"] (a_m d_w):=⟨rfl,rfl,rfl,by decide+kernel,rfl,by decide+kernel,by decide+kernel⟩
def d_B:Sp:=λvs H Q _=>∃(st kd mk a:Addr) (mas:List Addr) (room sd:Int) (s:Sto) (d:Deed),vs= [.ref st,.ref a]/\StoAt H st kd mk mas room s/\DeedAt H a d/\d.plain/\d.tell sd/\s.inML sd/\s.nums/\s.marks.length<=900/\n_Y H st kd mk mas room Q (s.step room d)
theorem f_J {f fCd:Addr} {fd fdCd:FuncData} (F:Fun K "_law_answered" "_law_answered" d_w f fd) (B:Bt mg) (gCd:Gf K mg "_law_changed" fCd fdCd ["_law_store","_law_deed"]) (GCd:FnOk P w K mg base CX0 1 fCd fdCd ["_law_store","_law_deed"] e_9):FnOk P w K mg base CX0 3 f fd ["_law_store","_law_deed"] d_B:=by
 refine F.ok d_2 (λvs H Q E h=> ?_) (λcdv A outer s H vs Q E hr h=> ?_)
 ·obtain⟨st,kd,mk,a,mas,room,sd,so,d,rfl,_⟩:=h
  rfl
 ·obtain⟨st,kd,mk,a,mas,room,sd,so,d,rfl,S,hd,a4,ab,a5,a3,hm,fin⟩:=h
  have L:=e_u hr;have hu:=hr.units0;have a6:Room 1 _:=hr.mono (by decide);have aa:Room 2 _:=hr.mono (by decide)
  refine⟨_,(a_d (a_B (a_k d_f (a_v a_t (pv 1) a_e (λ_ _=>rfl)) (a_R (a_a a_j (a_a a_j (a_a a_j a_c)))) (by with_unfolding_all rfl)) (a_f (a_n (a_l GCd a6 rfl gCd.mg gCd.kp gCd.b .nil a_u (a_a (pv 0) (a_a (pv 1) a_c))))) a_p)
   (a_d (a_B (a_k a_L (a_v a_t (pv 1) a_e (λ_ _=>rfl)) a_j (a_o _)) (a_d (a_y (b_Z p_y p_A p_z a_2 (b_U L (pv 0) a_j (λ_ _=>rfl)) (a_a (d_a PySem.F.plainAttrs_dict PySem.F.slot_dict_copy PySem.F.type_dict_copy j_Z (b_U L (pv 0) a_j (λ_ _=>rfl))) a_c)))
   (a_f (a_n a_j))) a_p)
   (a_d (a_B (a_k d_f (a_v a_t (pv 1) a_e (λ_ _=>rfl)) (a_R (a_a a_j (a_a a_j a_c))) (by with_unfolding_all rfl)) (a_d (a_B (a_k (g_E hu) (b_U L (pv 0) a_j (λ_ _=>rfl)) (a_R a_c) (a_o _)) (a_f (a_n a_j)) a_p)
   (a_d (a_w (i:=2) d_2.nd rfl (Or.inl rfl) (d_a p_y PySem.F.slot_list_pop PySem.F.type_list_pop e_5 (b_U L (pv 0) a_j (λ_ _=>rfl))))
   (a_d (a_B (a_k a_L (a_v a_t (pv 1) a_e (λ_ _=>rfl)) a_j (a_o _)) (a_f (e_p L (pv 0) a_j (pv 2) rfl)) a_p)
   (a_f (a_n a_j))))) a_p)
   (a_f (a_n a_j))))),?_⟩
  obtain⟨t,hk,y,I,n⟩:=id S;have a9:so.kept.length < 64:=j_s a3.kept a5.kept;have U:mas.length=so.marks.length:=by rw[Paired.length I,p_q]
  have n_sm:st≠mk:=λe=>by simp[e] at n
  have n_sk:st≠kd:=λe=>by simp[e] at n
  have n_mk:mk≠kd:=λe=>by simp[e] at n
  have n_s:∀b∈mas,b≠st:=λb hb e=>by rw[e] at hb;simp[hb] at n
  have n_m:∀b∈mas,b≠mk:=λb hb e=>by rw[e] at hb;simp[hb] at n
  have n_k:∀b∈mas,b≠kd:=λb hb e=>by rw[e] at hb;simp[hb] at n
  have n_d:mas.Nodup:=by simp at n;exact n.2.2.2
  obtain⟨rs,O,hR⟩:=id hk;have tkO:∀{H1 H2:Hp},Same H H1->(∀b u,H1 b=some u->b∉st::mk::kd::mas->H2 b=some u)->a_F H H2:=λs1 k2 b xs q=>k2 _ _ (s1 _ _ q) λhb=>(S.fpin b hb).2 xs q;have stp:∀{H1 H2:Hp} {f:List Addr},Same H H1->(∀b u,H1 b=some u->b∉st::mk::kd::mas->H2 b=some u)->(∀b∈f,b∈st::mk::kd::mas\/H b=none)->Stp H H2 (st::mk::kd::mas) f:=λs1 k2 hf=>⟨λb u q hb=>k2 _ _ (s1 _ _ q) hb,hf⟩;have msK:∀{H1 H2:Hp},Same H H1->a_F H H2->(∀b∈mas,∀u,H1 b=some u->H2 b=some u)->Paired (KeptAt H2) mas so.marks.reverse:=λs1 tk k=>b_m tk I λb hb u q=>k b hb u (s1 _ _ q);obtain⟨x,rr,hw,v⟩:=i_s hd;refine⟨_,rfl,a,_,_,_,rfl,rfl,SqT.of hw,a_g (j:=0) rfl,by show 3<=sizeLine;decide,λn1 a7=> ?_⟩;have s1:=Same.upd_new (o:= .lst [V.str "bring",V.str "alter",V.str "cut"]) a7;refine⟨n1,_,rfl,.inl (SqL.of a_b),rfl,rfl,_,rfl,?_⟩;generalize upd H n1 (.lst [V.str "bring",V.str "alter",V.str "cut"])=H1 at s1 ⊢;have J:=s1 _ _ hw;cases d with
  | chg c=>
    refine a_z (λ_=> ?_) (λq=>absurd (show inV _ _=true from v) q);refine⟨_,rfl,_,rfl,st,kd,mk,a,room,so.kept,c,rfl,s1 _ _ t,KeptAt.same hk s1,ChgAt.mono (H:=H) (λb xs q=>s1 _ _ q) hd,by omega,λH2 k2 s2=> ?_⟩;have a1:∀b u,H1 b=some u->b∉st::mk::kd::mas->H2 b=some u:=λb u h hn=>s2 _ _ h λe=>hn (by rw[e];simp);have tk:=tkO s1 a1;exact fin (.str (b_p room so.kept c).2) kd mas H2 ⟨s2 _ _ (s1 _ _ t) n_sk,k2,s2 _ _ (s1 _ _ y) n_mk,msK s1 tk λb hb u h=>s2 _ _ h (n_k b hb),n⟩ (stp s1 a1 λb hb=> .inl hb) tk (.str _) (NewA.str _)
  | begin=>
    have v:x="begin":=v;subst v;refine a_z (λq=>absurd (show inV _ _=true from q) (by decide+kernel)) (λ_=> ?_);refine⟨_,rfl,a,_,_,_,rfl,rfl,SqT.of J,a_g (j:=0) rfl,rfl,_,rfl,a_z (λ_=> ?_) (λq=>absurd (p_u rfl) q)⟩;refine⟨_,rfl,st,_,rfl,b_V (s1 _ _ t),.inl ⟨rfl,_,SqL.of (s1 _ _ y)⟩,_,rfl,st,_,rfl,e_x (s1 _ _ t),.inr (.inr (.inl ⟨rfl,.inl ⟨_,s1 _ _ O⟩⟩)),kd,_,rfl,rfl,s1 _ _ O,λbd N=> ?_⟩;have s2:=Same.upd_new (o:= .dK (a_O rs so.kept)) N;have Y:(upd H1 bd (.dK (a_O rs so.kept))) bd=some (.dK (a_O rs so.kept)):=a_b;generalize upd H1 bd (.dK (a_O rs so.kept))=H2 at s2 Y ⊢;have p:=s1.trans s2;have a2:H bd=none:=s1.free N;refine⟨mk,_,_,rfl,rfl,p _ _ y,by rw[o_O];exact a_4 (by omega),?_⟩;have k3:∀b u,H2 b=some u->b∉st::mk::kd::mas->(upd H2 mk (.lst (mas.map V.ref++ [V.ref bd]))) b=some u:=λb u h hn=>by rw[a_i (λe=>hn (by rw[e];simp))];exact h
    have k4:∀b u,H2 b=some u->b≠mk->(upd H2 mk (.lst (mas.map V.ref++ [V.ref bd]))) b=some u:=λb u h hn=>by rw[a_i hn];exact h
    have tk:=tkO p k3
    have nn:∀b∈st::mk::kd::mas,b≠bd:=λb hb z=>by
     obtain⟨⟨u,q⟩,_⟩:=S.fpin b hb;rw[z,a2] at q;cases q
    have i1:=nn st (by simp);have i2:=nn mk (by simp);have i4:=nn kd (by simp);have i3:bd∉mas:=λz=>nn bd (by simp[z]) rfl;refine fin (.str "done") kd (mas++ [bd]) _ ⟨k4 _ _ (p _ _ t) n_sm,⟨rs,k4 _ _ (p _ _ O) n_mk.symm,hR.same tk⟩,?_, ?_, ?_⟩ (stp p k3 λb hb=> ?_) tk (.str _) (NewA.str _)
    ·rw[a_b,o_W];rfl
    ·show Paired _ _ (so.kept::so.marks).reverse
     rw[List.reverse_cons];exact a_N (msK p tk λb hb u h=>k4 _ _ h (n_m b hb)) (.cons ⟨rs,k4 _ _ Y i2.symm,hR.same tk⟩ .nil)
    ·simp[List.nodup_append] at n ⊢;grind
    ·simp at hb ⊢;grind
  | keep=>
    have v:x="keep":=v;subst v;refine a_z (λq=>absurd (show inV _ _=true from q) (by decide+kernel)) (λ_=> ?_);refine⟨_,rfl,a,_,_,_,rfl,rfl,SqT.of J,a_g (j:=0) rfl,rfl,_,rfl,a_z (λq=>absurd q (by decide+kernel)) (λ_=> ?_)⟩;refine⟨_,rfl,a,_,_,_,rfl,rfl,SqT.of J,a_g (j:=0) rfl,by show 2<=sizeLine;decide,λn2 R=> ?_⟩;have s2:=Same.upd_new (o:= .lst [V.str "keep",V.str "break"]) R;refine⟨n2,_,rfl,.inl (SqL.of a_b),rfl,rfl,_,rfl,?_⟩;generalize upd H1 n2 (.lst [V.str "keep",V.str "break"])=H2 at s2 ⊢;have p:=s1.trans s2;refine a_z (λ_=> ?_) (λq=>absurd (show inV _ _=true by decide+kernel) q);refine⟨_,rfl,st,_,rfl,b_V (p _ _ t),by show 0<=sizeLine;decide,λn3 W=> ?_⟩;have s3:=Same.upd_new (o:= .lst []) W;refine⟨mk,n3,_,rfl,rfl,SqL.of (s3 _ _ (p _ _ y)),a_b,_,rfl,?_⟩;generalize upd H2 n3 (.lst [])=H3 at s3 ⊢;have g:=p.trans s3;cases em:so.marks with
    | nil=>
      have e0:mas= []:=p_k.mp (by rw[U,em];rfl);refine a_z (λ_=> ?_) (λq=>absurd (by rw[e0];rfl) q);have es:so.step room .keep=(so,.str "not begun"):=by simp only[Sto.step,em]
      rw[es] at fin;exact fin _ kd mas H3 (S.same g) (stp g (λb u h _=>h) λb hb=> .inl hb) (tkO g λb u h _=>h) (.str _) (NewA.str _)
    | cons m r=>
      rw[em,List.reverse_cons] at I;obtain⟨l,bd,rfl,X,Z⟩:=c_b I;refine a_z (λq=>absurd (show ((l++ [bd]).map V.ref).isEmpty=true from q) (by simp)) (λ_=> ?_);have es:so.step room .keep=({ so with marks:=r },.str "done"):=by simp only[Sto.step,em]
      rw[es] at fin;have G:=g _ _ y;refine⟨_,rfl,st,_,rfl,b_V (g _ _ t),.inl ⟨rfl,_,SqL.of G⟩,mk,_,V.ref bd,rfl,rfl,G,by simp,?_⟩;have edl:((l++ [bd]).map V.ref).dropLast=l.map V.ref:=by rw[o_W];exact List.dropLast_concat
      rw[edl];have k4:∀b u,H3 b=some u->b≠mk->(upd H3 mk (.lst (l.map V.ref))) b=some u:=λb u h hn=>by rw[a_i hn];exact h
      have C:(upd H3 mk (.lst (l.map V.ref))) mk=some (.lst (l.map V.ref)):=a_b;generalize upd H3 mk (.lst (l.map V.ref))=H4 at k4 C ⊢;have M:=k4 _ _ (g _ _ t) n_sm;have T:=k4 _ _ (g _ _ hw) λe=>by rw[e,y] at hw;cases hw
      refine⟨_,rfl,a,_,_,_,rfl,rfl,SqT.of T,a_g (j:=0) rfl,rfl,_,rfl,a_z (λq=>absurd q (by decide+kernel)) (λ_=> ?_)⟩;have a0:∀b u,H3 b=some u->b∉st::mk::kd::(l++ [bd])->H4 b=some u:=λb u h hn=>k4 b u h λe=>hn (by rw[e];simp);have tk:=tkO g a0;refine fin _ kd l H4 ⟨M,?_, C,?_, ?_⟩ (stp g a0 λb hb=> .inl ?_) tk (.str _) (NewA.str _)
      ·exact⟨rs,k4 _ _ (g _ _ O) n_mk.symm,hR.same tk⟩
      ·exact b_m tk X λb hb u h=>k4 _ _ (g _ _ h) (n_m b (p_n _ hb))
      ·simp at n ⊢;grind
      ·simp at hb ⊢;grind
  | brk=>
    have v:x="break":=v;subst v;refine a_z (λq=>absurd (show inV _ _=true from q) (by decide+kernel)) (λ_=> ?_);refine⟨_,rfl,a,_,_,_,rfl,rfl,SqT.of J,a_g (j:=0) rfl,rfl,_,rfl,a_z (λq=>absurd q (by decide+kernel)) (λ_=> ?_)⟩;refine⟨_,rfl,a,_,_,_,rfl,rfl,SqT.of J,a_g (j:=0) rfl,by show 2<=sizeLine;decide,λn2 R=> ?_⟩;have s2:=Same.upd_new (o:= .lst [V.str "keep",V.str "break"]) R;refine⟨n2,_,rfl,.inl (SqL.of a_b),rfl,rfl,_,rfl,?_⟩;generalize upd H1 n2 (.lst [V.str "keep",V.str "break"])=H2 at s2 ⊢;have p:=s1.trans s2;refine a_z (λ_=> ?_) (λq=>absurd (show inV _ _=true by decide+kernel) q);refine⟨_,rfl,st,_,rfl,b_V (p _ _ t),by show 0<=sizeLine;decide,λn3 W=> ?_⟩;have s3:=Same.upd_new (o:= .lst []) W;refine⟨mk,n3,_,rfl,rfl,SqL.of (s3 _ _ (p _ _ y)),a_b,_,rfl,?_⟩;generalize upd H2 n3 (.lst [])=H3 at s3 ⊢;have g:=p.trans s3;cases em:so.marks with
    | nil=>
      have e0:mas= []:=p_k.mp (by rw[U,em];rfl);refine a_z (λ_=> ?_) (λq=>absurd (by rw[e0];rfl) q);have es:so.step room .brk=(so,.str "not begun"):=by simp only[Sto.step,em]
      rw[es] at fin;exact fin _ kd mas H3 (S.same g) (stp g (λb u h _=>h) λb hb=> .inl hb) (tkO g λb u h _=>h) (.str _) (NewA.str _)
    | cons m r=>
      rw[em,List.reverse_cons] at I;obtain⟨l,bd,rfl,X,Z⟩:=c_b I;refine a_z (λq=>absurd (show ((l++ [bd]).map V.ref).isEmpty=true from q) (by simp)) (λ_=> ?_);have es:so.step room .brk=(⟨m,r⟩,.str "done"):=by simp only[Sto.step,em]
      rw[es] at fin;have G:=g _ _ y;refine⟨_,rfl,st,_,rfl,b_V (g _ _ t),.inl ⟨rfl,_,SqL.of G⟩,mk,_,V.ref bd,rfl,rfl,G,by simp,?_⟩;have edl:((l++ [bd]).map V.ref).dropLast=l.map V.ref:=by rw[o_W];exact List.dropLast_concat
      rw[edl];have k4:∀b u,H3 b=some u->b≠mk->(upd H3 mk (.lst (l.map V.ref))) b=some u:=λb u h hn=>by rw[a_i hn];exact h
      have C:(upd H3 mk (.lst (l.map V.ref))) mk=some (.lst (l.map V.ref)):=a_b;generalize upd H3 mk (.lst (l.map V.ref))=H4 at k4 C ⊢;have M:=k4 _ _ (g _ _ t) n_sm;have T:=k4 _ _ (g _ _ hw) λe=>by rw[e,y] at hw;cases hw
      refine⟨_,rfl,a,_,_,_,rfl,rfl,SqT.of T,a_g (j:=0) rfl,rfl,_,rfl,a_z (λ_=> ?_) (λq=>absurd (p_u rfl) q)⟩;refine⟨_,rfl,_,rfl,st,_,rfl,DPut.k (k:=Sum.inr ("kept":Str)) M (by show 3 < sizeLine;decide),?_⟩;rw[k_y]
      have k5:∀b u,H3 b=some u->b∉st::mk::kd::(l++ [bd])->(upd H4 st (.dK (f_n room bd mk))) b=some u:=λb u h hn=>by
       rw[a_i (λe=>hn (by rw[e];simp))];exact k4 b u h λe=>hn (by rw[e];simp)
      have k6:∀b∈l++ [bd],∀u,H b=some u->(upd H4 st (.dK (f_n room bd mk))) b=some u:=λb hb u h=>by
       rw[a_i (n_s b hb)];exact k4 _ _ (g _ _ h) (n_m b hb)
      have tk:=tkO g k5;obtain⟨rb,N,a8⟩:=Z;refine fin _ bd l _ ⟨a_b,?_, ?_, ?_, ?_⟩ (stp g k5 λb hb=> .inl ?_) tk (.str _) (NewA.str _)
      ·exact⟨rb,k6 bd (by simp) _ N,a8.same tk⟩
      ·rw[a_i n_sm.symm];exact C
      ·exact b_m tk X λb hb u h=>k6 b (p_n _ hb) u h
      ·simp[List.nodup_append] at n ⊢;grind
      ·simp at hb ⊢;grind
  | _=>exact a4.elim
end
mutual
theorem Bears.same {H H':Hp} (s:Same H H'):∀{d:D} {v:V},Bears H d v->Bears H' d v
 | _,_,.int i=> .int i
 | _,_,.str x=> .str x
 | _,_,.lst h t=> .lst (s _ _ h) (BearsL.same s t)
 | _,_,.tup h t=> .tup (s _ _ h) (BearsL.same s t)
theorem BearsL.same {H H':Hp} (s:Same H H'):∀{ds:List D} {vs:List V},BearsL H ds vs->BearsL H' ds vs
 | _,_,.nil=> .nil
 | _,_,.cons h t=> .cons (Bears.same s h) (BearsL.same s t)
end
theorem m_Y (ρ:Row):(j_k ρ).wt=4:=by simp[j_k,D.wt,D.wts]
theorem g_C {room:Int}:∀{ds:List Deed} {s:Sto},s.nums->(s.run room ds).1.nums
 | [],s,h=>h
 | d::r,s,h=>g_C (ds:=r) (h_Z h)
theorem e_T {room:Int}:∀{ds:List Deed} {s:Sto},(s.run room ds).1.marks.length<=s.marks.length+ds.length
 | [],s=>o_X _
 | d::r,s=>by
   have h1:=g_U (room:=room) (s:=s) (d:=d);have h2:=e_T (room:=room) (ds:=r) (s:=(s.step room d).1);show ((s.step room d).1.run room r).1.marks.length<=_;rw[o_U];omega
end K1
namespace TO
open PySem L2
end TO
namespace K1
open PySem L2 TO
theorem e_j {H0 H1 H2:Hp} {f f':List Addr} (sm:Same H0 H1) (fp:∀b∈f,H0 b=none) (F:Stp H1 H2 f f'):Same H0 H2/\∀b∈f',H0 b=none:=
 ⟨λb u hb=>F.keep _ _ (sm _ _ hb) λhc=>(by rw[fp b hc] at hb;cases hb),λb hb=>(F.new b hb).elim (fp b) λq=>sm.free q⟩
theorem i_X (ns:List Int) (lo hi:Option Int):∃ns':List Int,h_9 (ns.map V.int) lo hi=ns'.map V.int/\ns'.length<=ns.length:=by
 refine⟨(ns.drop (HT.sIx (ns.map V.int).length 0 lo)).take (HT.sIx (ns.map V.int).length (ns.map V.int).length hi - HT.sIx (ns.map V.int).length 0 lo),?_, ?_⟩
 ·unfold h_9
  rw[List.map_take,List.map_drop]
 ·rw[p_a,List.length_drop]
  omega
def j_0 (K:PySem.W.Frag):Sp:=λvs H Q _=>∃(a:Addr) (ns:List Int),vs= [.ref a]/\SqL K H a (ns.map V.int)/\ns.length<=63/\∀H',Q (.bl true) H'
end K1
namespace L2
open PySem PySem.Spec PyProof.Rows
def b_H (CX:CXT) (X:Cx) (σ:St) (E:XK):Prop:=∀(pins:List (Addr×Obj)) (H:Hp) (s:Shared) (e:Value) (s':Shared),Inv X pins σ H s->CX X.stack H s E e s'->X.xe e s'
def l_1 (X:Cx) (σ:St) (e:Expr) (t:TE):Prop:=
 ∀(pins:List (Addr×Obj)) (s:Shared) (H:Hp) (Q:VK),Inv X pins σ H s->t σ H Q->wpAny (model X.prog X.w) X.A (eval e X.env) (EP X pins σ Q) X.xe s
section
variable {X:Cx} {CX:CXT} {k:Nat} {f C:Addr} {fd:FuncData} {ps:List Str} {sp:Sp} {dvs:List V} {ds:List Value} {E:XK} {x m:Str} {p pos apos:Pos} {e o:Expr} {es:List Expr} {ta:TE} {t:TA} {σ:St}
theorem l_x {pins:List (Addr×Obj)} {H:Hp} {s:Shared} {Q:VK} {us:List Value} {vs:List V} (F:FnOk X.prog X.w X.K X.mg X.base CX k f fd ps sp) (hr:Room k X.A) (hb:Binds X.K fd ps ds) (hd:Vals dvs ds) (hx:b_H CX X σ E)
 (I:Inv X pins σ H s) (r:Vals vs us) (h:sp (vs++dvs) H Q E):wpAny (model X.prog X.w) X.A (call (.ref f) us) (EP X pins σ Q) X.xe s:=by
 have r2:Vals (vs++dvs) (us++ds):=r.append hd;have hl:(us++ds).length=ps.length:=by rw[<-r2.length];exact F.len _ _ _ _ h
 refine wpAny_call (codeAny_mono (F.run X.A X.stack s H ⟨us, []⟩ (us++ds) (vs++dvs) Q E hr I.env0 (hb s us I.kIn hl) r2 h) λr s' hq=> ?_);cases r with
 | error e=>exact hx pins H s e s' I hq
 | ok fl=>
   cases fl with
   | ret u=>exact I.after hq
   | next=>exact False.elim hq
   | brk=>exact False.elim hq
   | cont=>exact False.elim hq
theorem e_b (F:FnOk X.prog X.w X.K X.mg X.base CX k f fd ps sp) (hr:Room k X.A) (hg:Gl X x) (hm:X.mg x=some (.ref f)) (hk:PySem.W.keepIn X.K (.ref f)=true) (hb:Binds X.K fd ps ds) (hd:Vals dvs ds) (hx:b_H CX X σ E)
 (ha:PA X (e::es) t) (hdb:(x == ("__debug__":Str))=false:=by decide) (he:starEach (e::es) X.env=(false,eval e X.env)::starEach es X.env:=by rfl) (hpl:(backTo pos (starEach es X.env)).any (·.1)=false:=by rfl):
 l_1 X σ (.Call (.Name x p) (e::es) [] pos) (k_M sp dvs E t):=by
 intro pins s H Q I h;refine wpAny_Call_Name_kw (b_I I hg hm ?_ hdb);refine PySem.W.callWith_K (h₀:=X.base) I.ok.mod.kin hk (thn (ha pos pins s σ H _ I h) λus s1 ⟨vs,H1,I1,r,q⟩=>⟨I1.kIn,?_⟩) he hpl;exact l_x F hr hb hd hx I1 r q
theorem h_x {pins:List (Addr×Obj)} {H:Hp} {s:Shared} {Q:VK} {us:List Value} {vs:List V} (M:Mk X.K C f) (F:FnOk X.prog X.w X.K X.mg X.base CX k f fd ps sp) (hr:Room (k+1) X.A) (hb:Binds X.K fd ps ds) (hd:Vals dvs ds)
 (hx:b_H CX X σ E) (I:Inv X pins σ H s) (r:Vals vs us)
 (h:∀x dx,H x=none->H dx=none->dx≠x->sp (.ref x::(vs++dvs)) (upd (upd H dx (.own x)) x (.ins C dx [])) (λv H2=>v= .non/\Q (.ref x) H2) E):
 wpAny (model X.prog X.w) X.A (call (.ref C) us) (EP X pins σ Q) X.xe s:=by
 have hq:=h (s.heap.objs.size+1) s.heap.objs.size (I.hok.fresh (Nat.le_succ _)) (I.hok.fresh (o_X _)) (p_c (Nat.lt_succ_self _));have I2:=Inv.made (C:=C) I;have r2:Vals (V.ref (s.heap.objs.size+1)::(vs++dvs)) (Value.ref (s.heap.objs.size+1)::(us++ds)):= .cons rfl (r.append hd)
 have hl:(Value.ref (s.heap.objs.size+1)::us++ds).length=ps.length:=by
  have e:=r2.length;rw[F.len _ _ _ _ hq] at e;exact e.symm
 refine wpAny_call (g_b (f:=f) I.kIn M.makes M.init (beq_iff_eq.mp M.fn) (codeAny_mono (F.run _ X.stack _ _ ⟨Value.ref (s.heap.objs.size+1)::us, []⟩ (Value.ref (s.heap.objs.size+1)::(us++ds)) _ _ E (hr.make C us [])
  (I2.env0.make C us []) (hb _ (Value.ref (s.heap.objs.size+1)::us) I2.kIn hl) r2 hq) λr s' a=> ?_))
 cases r with
 | error e=>exact hx pins _ _ e s' I2 a
 | ok fl=>
   cases fl with
   | ret u=>
     obtain⟨v,H',I3,rv,ev,q3⟩:=I2.after a;subst ev;exact⟨rv,⟨V.ref (s.heap.objs.size+1),H',I3,rfl,q3⟩⟩
   | next=>exact False.elim a
   | brk=>exact False.elim a
   | cont=>exact False.elim a
theorem j_G (M:Mk X.K C f) (F:FnOk X.prog X.w X.K X.mg X.base CX k f fd ps sp) (hr:Room (k+1) X.A) (hg:Gl X x) (hm:X.mg x=some (.ref C)) (hb:Binds X.K fd ps ds) (hd:Vals dvs ds) (hx:b_H CX X σ E)
 (ha:PA X (e::es) t) (hdb:(x == ("__debug__":Str))=false:=by decide) (he:starEach (e::es) X.env=(false,eval e X.env)::starEach es X.env:=by rfl) (hpl:(backTo pos (starEach es X.env)).any (·.1)=false:=by rfl):
 l_1 X σ (.Call (.Name x p) (e::es) [] pos) (l_6 C sp dvs E t):=by
 intro pins s H Q I h;refine wpAny_Call_Name_kw (b_I I hg hm ?_ hdb);refine PySem.W.callWith_K (h₀:=X.base) I.ok.mod.kin M.kp (thn (ha pos pins s σ H _ I h) λus s1 ⟨vs,H1,I1,r,q⟩=>⟨I1.kIn,?_⟩) he hpl;exact h_x M F hr hb hd hx I1 r q
end
def l_q (tb:XK->TE) (K:PySem.W.Frag) (C:Addr) (th:Value->e_y->St->Hp->Prop):TS:=λD σ H=>tb (λc _ H'=>PySem.W.exmOne K c (.ref C)=some true/\th c D σ H') σ H λ_ H'=>D.nx σ H'
section
variable {X:Cx} {pins:List (Addr×Obj)} {σ:St} {H:Hp} {s:Shared}
theorem Inv.addPinZ {a:Addr} {ob:Obj} (I:Inv X pins σ H s) (h1:s.heap.get? a=some ob) (h2:H a=none) (h3:a≠X.env.locals) (h4:a∉X.fs) (h5:∀v,ob.data≠ .cell v):Inv X (pins++ [(a,ob)]) σ H s:=
 ⟨I.ok,I.os,I.bare,I.base,I.loc,I.cell,I.free,I.freeC,fun p hp=>by
   rw[<-List.append_assoc] at hp;rcases o_6.mp hp with q | q
   ·exact I.pin p q
   ·rw[o_T.mp q];exact⟨h1,h2,h3,h4,h5⟩,I.hok,I.len⟩
theorem e_a {M:Model} {A:Around} {E:Value->Shared->Prop} {i:Nat} {x:Str} {pos:Pos} {Q:Unit->Shared->Prop} (I:Inv X pins σ H s) (hN:X.N.Nodup) (hi:X.N[i]? =some x) (hk:X.env.kindOf x=some .local)
 (h:∀s',Inv X pins (σ.set i none) H s'->Q () s'):wpAny M A (do bindName X.env x .none;unbindBehindTheSuite X.env x pos) Q E s:=by
 obtain⟨m,hn,hl⟩:=id I.loc;have g:(X.env.scope.kind == .class||(X.env.scope.kind == .module&&X.env.locals != X.env.globals))=false:=by rw[I.ok.kind];rfl
 have hiσ:i < σ.length:=by rw[I.len];exact (o_2.mp hi).1
 have cne:=I.cne
 have tracked:∀{a:Addr} {h':Heap},(∃o,s.heap.get? a=some o/\H a=none)->Heap.SameBut a s.heap h'->HOk X.prog X.w H h':=λ{a h'} ha hs b ob e=>by
  obtain⟨_,_,f⟩:=ha;refine (I.hok b ob e).stay (λc w' hc q=>(hs.2 c ?_).trans q) (λ_ q=>q) λ_ _ q=>q;rintro rfl;rcases hc with rfl | hc
  ·rw[f] at e;cases e
  ·rw[f] at hc;cases hc
 refine wpAny_nameGoes_keeps hk hn g λh' v l hs=> ?_;obtain⟨oL,_,_,r,_⟩:=id hn;refine h _ ⟨I.ok,I.os,I.bare,⟨λb o e n hb hx=> ?_, λb o e n hb hx=> ?_, I.base.free,λb o e hx=> ?_, I.base.tups,I.base.frzs,I.base.tbls⟩,⟨_,l,λj y v' e1 e2 e3=> ?_⟩,λy c e=> ?_, I.free,I.freeC,λp hp=> ?_, tracked ⟨oL,r,I.free⟩ hs,by simpa using I.len⟩
 ·exact (hs.2 b (p_c (o_4 (Heap.lt_size e) I.ok.above))).trans (I.base.keep b o e n hb hx)
 ·obtain⟨sl,e1⟩:=I.base.slot b o e n hb hx
  exact⟨sl,(hs.2 b (p_c (o_4 (Heap.lt_size e) I.ok.above))).trans e1⟩
 ·obtain⟨o',e1⟩:=I.base.there b o e hx
  exact⟨o',(hs.2 b (p_c (o_4 (Heap.lt_size e) I.ok.above))).trans e1⟩
 ·by_cases hj:j=i
  ·subst hj
   rw[List.getElem?_set_self hiσ] at e2;cases e2
  ·rw[List.getElem?_set_ne (Ne.symm hj)] at e2
   obtain⟨u',r',q⟩:=hl j y v' e1 e2 e3;refine⟨u',r',?_⟩;rcases q with⟨k,e⟩ | ⟨k,c,e,z⟩
   ·refine .inl ⟨k,?_⟩
    have:y≠x:=λe=>hj (d_8 hN e1 (e ▸ hi));simp[this,e]
   ·exact .inr ⟨k,c,e,z.sameBut hs (cne y c e)⟩
 ·obtain⟨w',z⟩:=I.cell y c e
  exact⟨w',z.sameBut hs (cne y c e)⟩
 ·obtain⟨e,n,ne,nf,d⟩:=I.pin p hp
  exact⟨(hs.2 p.1 ne).trans e,n,ne,nf,d⟩
end
theorem h_k {X:Cx} {c:Expr} {epos:Pos} {h0:ExceptHandler} {pos:Pos} {tb:XK->TE} {C:Addr} {th:Value->e_y->St->Hp->Prop}
 (hh:∀{pins:List (Addr×Obj)} {σ:St} {H1 H:Hp} {s1 s:Shared} {a C':Addr} {a0:Value} {B:Heap} {D:e_y},Inv X pins σ H1 s1→s.os=s1.os→AllBare s.gens→FlyB X.prog X.w X.stack H1 s1.heap a (.ref C') H s.heap B a0→PySem.W.exmOne X.K (.ref C') (.ref C)=some true→th (.ref C') D σ H→
   wpAny (model X.prog X.w) X.A (handleBy (.ref a) X.env [h0]) (SP X pins D) X.xe s)
 (hb:∀(σ:St) (pn:List (Addr×Obj)) (xe:Value->Shared->Prop) (E:XK),b_H (CXR X.prog X.w) (X.pw pn xe) σ E->l_1 (X.pw pn xe) σ c (tb E)) (hsw:swapsWith c none epos.line X.env=pure false:=by rfl) (hst:X.stack=X.env::X.outer:=by rfl) (hfr:X.env.frame=some X.env.locals:=by rfl):
 PS X (.Try [.Expr c epos] [h0] [] [] pos) (l_q tb X.K C th):=by
 intro pins s σ H D I h;refine wpAny_Try_except ?_
 have hB:=hb σ (X.pn++pins) (λe s₁=>wpAny (model X.prog X.w) X.A (noteFrame e X.env) (λ_ s₂=>wpAny (model X.prog X.w) X.A (setFlight e none) (λ_ s₃=>wpAny (model X.prog X.w) X.A (handleBy e X.env [h0]) (SP X pins D) X.xe s₃) X.xe s₂) X.xe s₁)
  (λc _ H'=>PySem.W.exmOne X.K c (.ref C)=some true/\th c D σ H') ?_ [] s H _ (I.pnIn _) h
 ·refine wpAny_mono (wpAny_execs_cons (thn (wpAny_Expr_any (Q:=SP (X.pw (X.pn++pins) _) [] D) (thn hB λv s1 ⟨x,H1,I1,r1,q1⟩=>⟨σ,H1,I1,q1⟩) (I.pnIn (λ_ _=>False)).quiet hsw) λf s1 q=> ?_)) (λf s1 q=>q) λ_ _ z=>z
  have q2:=q.pnOut;cases f with
  | next=>exact wpAny_execs_nil (wpAny_execs_nil q2)
  | brk=>exact q2
  | cont=>exact q2
  | ret u=>exact q2
 ·rintro p2 H1 s1 e s' I1 ⟨a,C',H',rfl,os,bare,F,q1,q2⟩
  have I2:Inv X pins σ H1 s1:=Inv.pnOut I1;obtain⟨B,a0,fl,hB⟩:=F.fly;have F1:FlyB X.prog X.w X.stack H1 s1.heap a (.ref C') H' s'.heap B a0:=⟨fl,hB,F.un,F.hok⟩;have J:=I2.call' os F1.un F1.hok bare k_m;have b:=F1.fl;rw[hst] at b;refine wpAny_looks_onW (outer:=X.outer) (by rw[<-hst];exact I2.ok.frames) hfr b λh2 held up=> ?_;refine wpAny_landsW held λh3 d g=> ?_;rw[<-hst] at d;exact hh (s:={ s' with heap:=h3 }) I2 os bare (F1.on d (up.trans g) J.stkFree) q1 q2
theorem g_r {X:Cx} {c:Expr} {epos hpos np pos:Pos} {x:Str} {b0:Stmt} {suite:List Stmt} {tb:XK->TE} {C:Addr} {t:TS} (hg:Gl X x) (hm:X.mg x=some (.ref C)) (hd:(x == ("__debug__":Str))=false) (hs:∀e,PSs (X.hand e) (b0::suite) t)
 (hb:∀(σ:St) (pn:List (Addr×Obj)) (xe:Value->Shared->Prop) (E:XK),b_H (CXR X.prog X.w) (X.pw pn xe) σ E->l_1 (X.pw pn xe) σ c (tb E)) (hsw:swapsWith c none epos.line X.env=pure false:=by rfl) (hst:X.stack=X.env::X.outer:=by rfl) (hfr:X.env.frame=some X.env.locals:=by rfl):
 PS X (.Try [.Expr c epos] [.ExceptHandler (some (.Name x np)) none (b0::suite) hpos] [] [] pos) (l_q tb X.K C λ_ D σ H=>t D σ H):=
 h_k (λI os bare F hx h=>e_h I (.cons hg hm hd hs .nil) os bare F (.inl ⟨hx,h⟩)) hb hsw hst hfr
theorem d_V {h B:Heap}:∀{l:List Env},h.FunFrames B l->∀b∈frs l,∃o,h.get? b=some o/\∀vs,o.data≠ .fields vs
 | [],_,b,hb=>by simp[frs] at hb
 | env::r,⟨_,⟨L,o,hf,_,ho,hv⟩,hr⟩,b,hb=>by
   unfold frs at hb;rw[List.filterMap_cons,hf] at hb;rcases o_Z.mp hb with e | e
   ·exact⟨o,e ▸ ho,hv⟩
   ·exact d_V hr b e
theorem Inv.dropPinZ {X:Cx} {pins p2:List (Addr×Obj)} {σ:St} {H:Hp} {s:Shared} (I:Inv X (pins++p2) σ H s):Inv X pins σ H s:=
 ⟨I.ok,I.os,I.bare,I.base,I.loc,I.cell,I.free,I.freeC,λp hp=>I.pin p (by rw[<-List.append_assoc];exact p_n _ hp),I.hok,I.len⟩
abbrev asD (D:e_y) (i:Nat):e_y:={ nx:=λσ H=>D.nx (σ.set i none) H,rt:=D.rt,bk:=λσ H=>D.bk (σ.set i none) H,ct:=λσ H=>D.ct (σ.set i none) H }
theorem g_I {X:Cx} {c:Expr} {epos hpos np pos:Pos} {x n:Str} {i:Nat} {b0:Stmt} {suite:List Stmt} {tb:XK->TE} {C:Addr} {t:Addr->Addr->TS} (hN:X.N.Nodup) (hi:X.N[i]? =some n) (hk:X.env.scope.names.lookup n=some .local) (hkk:X.env.kindOf n=some .local) (hg:Gl X x) (hm:X.mg x=some (.ref C)) (hd:(x == ("__debug__":Str))=false)
 (hs:∀(C' a:Addr) (ob:Obj) (pn:List (Addr×Obj)),ob.cls= .ref C'->PySem.W.notCls ob=true->(a,ob)∈pn->PSs ((X.hand (.ref a)).pw pn λ_ _=>False) (b0::suite) (t C' a))
 (hb:∀(σ:St) (pn:List (Addr×Obj)) (xe:Value->Shared->Prop) (E:XK),b_H (CXR X.prog X.w) (X.pw pn xe) σ E->l_1 (X.pw pn xe) σ c (tb E)) (hsw:swapsWith c none epos.line X.env=pure false:=by rfl) (hst:X.stack=X.env::X.outer:=by rfl) (hfr:X.env.frame=some X.env.locals:=by rfl):
 PS X (.Try [.Expr c epos] [.ExceptHandler (some (.Name x np)) (some n) (b0::suite) hpos] [] [] pos) (l_q tb X.K C λcv D σ H=>∃C',cv= .ref C'/\∀a,H a=none->t C' a (asD D i) (σ.set i (some (.ref a))) H):=by
 refine h_k (λ{pins σ H1 H s1 s a C' a0 B D} I1 os bare F hx h=> ?_) hb hsw hst hfr;obtain⟨_,e0,h⟩:=h;cases e0;have J:=I1.call' os F.un F.hok bare k_m;obtain⟨oe,he,hc⟩:=F.fl.there
 have LT:PySem.W.Looks (model X.prog X.w) s.heap (typeOf (.ref a)) (.ref C'):=by
  rw[<-hc];exact (PySem.W.Looks.ld he).andThen .now
 refine wpAny_handleBy_cons (codeAny_handlers_test (b_I (X:=X.hand (.ref a)) (J.hand _) hg hm ?_ hd)) (by intro q;cases q);refine (PySem.W.exm_one J.kIn LT hx).here ?_;refine codeAny_handlers_suite_as (wpAny_setFlight_noneW F.fl.1 F.fl.2.2.1 F.fl.2.2.2.at λh2 k1 k2 k3 k4=> ?_);have F2:=F.on ⟨k1,F.fl.2.1,k2,k3⟩ (λb o hb hn=>⟨o.slots,k4 b o hb hn⟩) J.stkFree;have J2:Inv X pins σ H { s with heap:=h2 }:=I1.call' (s':={ s with heap:=h2 }) os F2.un F2.hok bare k_m;obtain⟨ob,vs,T,oT,ts,d,⟨r,_⟩,g,_⟩:=k3
 have k:a≠X.env.locals:=λz=>by
  obtain⟨m,⟨o,es,ep,ho,j,_⟩,_⟩:=J2.loc;rw[<-z] at ho;rw[show h2.get? a=some o from ho] at d;cases d;rw[g] at j;cases j
 have l:a∉frs X.stack:=λz=>by
  obtain⟨o,ho,hv⟩:=d_V k2 a z;rw[show h2.get? a=some o from ho] at d;cases d;exact hv _ g
 have p:H a=none:=by
  cases q:H a with
  | none=>rfl
  | some u=>
    have:=F2.hB a ob d l (.inl (by rw[q];simp));rw[F.fl.2.1] at this;cases this
 refine e_L (X:=X.hand (.ref a)) (v:= .ref a) (J2.hand _) hN hi (.inl hk) rfl (λs3 I3 L=> ?_) (.inr hk);obtain⟨aL,sb,A⟩:=L
 have G:a≠aL:=by
  rcases A with e | e
  ·rw[e];exact k
  ·intro z
   obtain⟨w',o,ho,j⟩:=J2.cell _ _ e;rw[<-z] at ho;rw[show h2.get? a=some o from ho] at d;cases d;rw[g] at j;cases j
 have I:s3.heap.get? a=some ob:=(sb.2 a G).trans d;have y:a∉(X.hand (.ref a)).fs:=λz=>l (by rw[hst];unfold frs;rw[List.filterMap_cons,hfr];exact o_R _ z);have I5:=(I3.addPinZ I p k y (λv z=>by rw[g] at z;cases z)).pnIn λ_ _=>False;refine wpAny_mono (hs C' a ob _ r (by unfold PySem.W.notCls;rw[g]) (by simp) [] s3 _ H (asD D i) I5 (h a p)) (λf s4 q=> ?_) (λ_ _ z=>z.elim);have q3:=(SP.pnOut q).unhand I1.ok;cases f with
 | next=>obtain⟨σ2,H2,I6,q4⟩:=q3;exact e_a I6.dropPinZ hN hi hkk λs5 I7=>⟨_,H2,I7,q4⟩
 | brk=>obtain⟨σ2,H2,I6,q4⟩:=q3;exact e_a I6.dropPinZ hN hi hkk λs5 I7=>⟨_,H2,I7,q4⟩
 | cont=>obtain⟨σ2,H2,I6,q4⟩:=q3;exact e_a I6.dropPinZ hN hi hkk λs5 I7=>⟨_,H2,I7,q4⟩
 | ret u=>obtain⟨v,σ2,H2,I6,rv,q4⟩:=q3;exact e_a I6.dropPinZ hN hi hkk λs5 I7=>⟨v,_,H2,I7,rv,q4⟩
end L2
namespace L2
open PySem PySem.Spec PySem.Calls PyProof.Rows PySem.Builtin PySem.Builtin.ObjectAttr PySem.Builtin.Getset_descriptor
structure ExK (K:PySem.W.Frag) (D:Addr):Prop where
 ga:PySem.W.findIn K (.ref D) "__getattribute__"=some (some (.builtin "BaseException.__getattribute__"))
 gn:PySem.W.findIn K (.ref D) "__getattr__"=some none
 cls:(PySem.W.clsIn K D).isSome=true
 at_:PySem.W.findIn K (.ref D) "__class__"=some (some (.builtin "object.__class__"))
 sp:PySem.W.specialIn K (.builtin "object.__class__") "__get__"=some (some (.builtin "getset_descriptor.__get__"))
 tk:PySem.W.takesIn K (.builtin "object.__class__")=some true
 mro:PySem.W.mroIn K D (.type "object")=some true
 mrb:PySem.W.mroIn K D (.type "BaseException")=some true
section
variable {prog:Program} {w:World} {A:Around} {E:Value->Shared->Prop} {s:Shared} {K:PySem.W.Frag} {a D:Addr} {ob:Obj}
theorem c_1 {M:Model} {h:Heap} (ho:h.get? a=some ob) (hc:ob.cls= .ref D):PySem.W.Looks M h (typeOf (.ref a)) (.ref D):=by
 rw[<-hc];exact (PySem.W.Looks.ld ho).andThen .now
theorem j_n {M:Model} {h:Heap} (k:ExK K D) (X:K.In h):PySem.W.Looks M h (find (.ref a) (.ref D) "__class__") (.bind (.builtin "getset_descriptor.__get__") (.builtin "object.__class__")):=by
 have L3:PySem.W.Looks M h (dataDescriptor? (some (.builtin "object.__class__")) (some (.builtin "getset_descriptor.__get__"))) (some (.builtin "getset_descriptor.__get__",.builtin "object.__class__")):=(PySem.W.looks_takesIn X k.tk).andThen .now;exact (PySem.W.looks_findIn X k.at_).andThen ((PySem.W.looks_specialIn X k.sp).andThen (L3.andThen (PySem.W.Looks.tag .now)))
theorem l_t {tp:Value} {R:Result->Shared->Prop} (k:ExK K D) (X:K.In s.heap) (ho:s.heap.get? a=some ob) (hc:ob.cls= .ref D) (h:R (.ok (.ret (.ref D))) s):
 codeAny (model prog w) A (.call (.builtin "getset_descriptor.__get__") ⟨[.builtin "object.__class__",.ref a,tp], []⟩) R s:=by
 have T:=c_1 (M:=model prog w) ho hc;have L1:=PySem.W.looks_mroIn (M:=model prog w) X k.mro;obtain⟨h0,g,dr,t,os⟩:=s;refine codeAny_call_builtin PySem.W.KF.slot_gs.plain PySem.W.KF.entry_gs (PySem.W.KF.slot_gs.check _ _ _ _ _ _ _ _ PySem.W.KF.type_class (PySem.W.KF.args_gs _ _ _) ?_);unfold Builtin.«getset_descriptor.__get__» descrGet;rw[PySem.W.dga_obj];refine wpAny_bind (wpAny_pure ?_);unfold descrGetter descrCheckInstance descrNameAndClass isInstance;simp only[PySem.W.KF.owner_class]
 repeat lk
 exact⟨Code.quiet_builtin _ (by decide+kernel),codeAny_builtin PySem.W.KF.entry_class (by
  unfold Builtin.«object.__class__» shownTypeOf
  repeat lk
  exact h)⟩
theorem i_N {M:Model} {nv:Value} {Q:Unit->Shared->Prop} (k:ExK K D) (X:K.In s.heap) (ho:s.heap.get? a=some ob) (hc:ob.cls= .ref D) (hq:Q () s):wpAny M A (checkBuiltinCall "BaseException.__getattribute__" ⟨[.ref a,nv], []⟩) Q E s:=by
 have hk:builtinKind "BaseException.__getattribute__"=some .slot:=by decide+kernel
 have b:splitId "BaseException.__getattribute__"=some ("BaseException","__getattribute__"):=by decide+kernel
 have T:=c_1 (M:=M) ho hc;have L1:=PySem.W.looks_mroIn (M:=M) X k.mrb;have ha:=F.args_bexc_ga (.ref a) nv;obtain⟨h0,g,dr,t,os⟩:=s;simp only[checkBuiltinCall,hk,b];refine wpAny_bind ?_;unfold isInstance
 repeat (first | lk | wp_step)
 exact hq
theorem h_q (k:ExK K D) (X:K.In s.heap) (ho:s.heap.get? a=some ob) (hc:ob.cls= .ref D) {Q:Option Value->Shared->Prop} (h:Q (some (.ref D)) { s with toks:=s.toks+1 }):wpAny (model prog w) A (getAttr? (.ref a) "__class__") Q E s:=by
 have T:=c_1 (M:=model prog w) ho hc;have Lf:=j_n (M:=model prog w) (a:=a) k X;have L1:=PySem.W.looks_findIn (M:=model prog w) X k.ga;have b:=PySem.W.looks_findIn (M:=model prog w) X k.gn;obtain⟨h0,g,d,t,os⟩:=s;have R:=l_t (prog:=prog) (w:=w) (A:=A.in1) (tp:= .ref D) (R:=λr s'=>r= .ok (.ret (.ref D))/\s'=⟨h0,g,d,t+1,os⟩) (s:=⟨h0,g,d,t+1,os⟩) k X ho hc ⟨rfl,rfl⟩;have c:(Value.builtin "BaseException.__getattribute__" == Value.builtin "object.__getattribute__")=false:=by decide+kernel
 unfold getAttr? getAttrBy? getAttrBy;refine wpAny_bind (wpAny_mkText (wpAny_bind (wpAny_attempt (wpAny_holding (wpAny_bind (T.at (wpAny_bind (L1.at ?_))))))));have e:(onTheHeap (Value.ref D)&&Value.builtin "BaseException.__getattribute__" == Value.builtin "object.__getattribute__")=false:=by rw[c];rfl
 dsimp only;rw[if_neg (by rw[e];exact o_5)];unfold getAttrByItsOwn;refine wpAny_bind ?_;show wpAny _ _ (typeLookup (.ref D) "__getattr__") _ _ _;refine b.at ?_;refine wpAny_bind (wpAny_attempt (wpAny_holding ?_));show wpAny _ _ (boundAndCalled (.builtin "BaseException.__getattribute__") (.ref a) _) _ _ _;unfold boundAndCalled;rw[F.excAttr_ValueError.ga.bind (.ref a)];refine wpAny_bind (wpAny_pure ?_);refine wpAny_call (codeAny_call_builtin F.excAttr_ValueError.ga.plain F.entry_bexc_ga (i_N k X ho hc ?_));unfold Builtin.«object.__getattribute__» slotArgs;refine wpAny_bind (wpAny_pure (wpAny_bind (wpAny_pure ?_)));refine wpAny_bind (T.at (wpAny_bind (Lf.at ?_)));show wpAny _ _ (holding [_] (call _ [_,_,_]) >>= ret) _ _ _;refine wpAny_bind (wpAny_holding (wpAny_call (codeAny_mono R λr s' q=> ?_)));obtain⟨rfl,rfl⟩:=q;exact wpAny_pure (PySem.W.handed_on rfl (wpAny_pure h))
theorem g_H (k:ExK K D) (hc:ob.cls= .ref D):PySem.W.KitX K (.ref a) (.ref D) (λh=>h.get? a=some ob) where
 ty:=λ_ _ _ ho=>c_1 ho hc
 it:=λ_ _ X _=>by
  obtain⟨cd,b⟩:=Option.isSome_iff_exists.mp k.cls;unfold PySem.W.clsIn at b;split at b
  ·rename_i ho
   intro A' Q' E' s' kk q;unfold isType loadHead;exact wpAny_bind (wpAny_loadPart (kk _ _ (X _ _ ho)) (wpAny_pure q))
  ·cases b
 ne:=λh tp dd its n sl X c=>by
  obtain⟨cd,b⟩:=Option.isSome_iff_exists.mp k.cls;refine Bool.eq_false_iff.mpr λq=> ?_;obtain rfl:D=tp:=Value.ref.inj (beq_iff_eq.mp q);unfold PySem.W.clsIn at b;split at b
  ·rename_i ho
   have z:=(X _ _ ho).symm.trans c;cases z
  ·cases b
 ca:=λX ho h=>h_q k X ho hc h
def m_7 (K:PySem.W.Frag) (a D:Addr):List V->Hp->VK->Prop:=λxs H Q=>ExK K D/\∃b,((∃C,xs= [.ref a,.ref C]/\PySem.W.kitOne K (.ref D) (.ref C)=some b)\/∃n,xs= [.ref a,.ty n]/\PySem.W.kitOne K (.ref D) (.type n)=some b)/\Q (.bl b) H
theorem a_1 {X:Cx} (K:PySem.W.Frag) (hc:ob.cls= .ref D) (hp:(a,ob)∈X.pn) (hK:X.K=K:=by rfl):d_z X (.builtin "isinstance") (m_7 K a D):=by
 subst hK;intro pins s σ H xs us Q I rv h;obtain⟨k,b,h,q⟩:=h;have c:=(I.pin (a,ob) (p_n _ hp)).1;rcases h with⟨C,rfl,e⟩ | ⟨n,rfl,e⟩
 ·obtain⟨u,v,rfl,ru,rc⟩:=rv.two
  cases ru;cases rc;exact PySem.W.kia_one (g_H k hc) I.kIn c e (λz=>nomatch z) λtk=>⟨.bl b,H,I.tok tk,rfl,q⟩
 ·obtain⟨u,v,rfl,ru,rc⟩:=rv.two
  cases ru;cases rc;exact PySem.W.kia_one (g_H k hc) I.kIn c e (λz=>nomatch z) λtk=>⟨.bl b,H,I.tok tk,rfl,q⟩
end
end L2
namespace L2
open PySem PySem.Spec PyProof.Rows
section
variable {X:Cx}
def m_g (xs:List V):Prop:=∀v∈xs,d_j v v=true
theorem c_l {A:Around} {s:Shared}:∀{xs:List V} {vs ws:List Value},m_g xs->Vals xs vs->Vals xs ws->∀j (h1:j < vs.length) (h2:j < ws.length),SeqAt.EqAt A s vs[j] ws[j] true
 | [],_,_,_,.nil,_,j,h1,_=>by simp at h1
 | x::_,_,_,hf,.cons ra _,.cons rb _,0,_,_=>by
   have:=c_E (A:=A) (s:=s) ra rb (hf x (o_S ..));rw[p_u rfl] at this;exact this
 | _::_,_,_,hf,.cons _ ta,.cons _ tb,j+1,h1,h2=>c_l (λv hv=>hf v (o_R _ hv)) ta tb j (by simpa using h1) (by simpa using h2)
def o_a (K:PySem.W.Frag) (b:Bool):R2:=λx y H Q=>∃l k xs,x= .ref l/\y= .ref k/\SqT K H l xs/\SqT K H k xs/\m_g xs/\Q (.bl b) H
theorem l_j (hu:X.A.units < cLine):OpR X (compareOp .Eq) (o_a X.K true):=by
 intro pins s σ H x y v u Q I rx ry h;obtain⟨l,b,xs,rfl,rfl,hl,hb,hf,q⟩:=h;cases rx;cases ry;obtain⟨its,r,p,_⟩:=I.tuple hl;obtain⟨a,r2,p2,_⟩:=I.tuple hb;have hz:its.length=a.length:=by rw[<-r.length,r2.length]
 refine SeqAt.eq_tupleAt (e:=λ_=>true) p p2 hu (λj h1 h2=> ?_) (a_G I q (by simp[hz]));simpa using c_l hf r r2 j (by simpa using h1) (by simpa using h2)
theorem h_F (hu:X.A.units < cLine):OpR X (compareOp .NotEq) (o_a X.K false):=by
 intro pins s σ H x y v u Q I rx ry h;obtain⟨l,b,xs,rfl,rfl,hl,hb,hf,q⟩:=h;cases rx;cases ry;obtain⟨its,r,p,_⟩:=I.tuple hl;obtain⟨a,r2,p2,_⟩:=I.tuple hb;have hz:its.length=a.length:=by rw[<-r.length,r2.length]
 refine SeqAt.RcNeAt.tuples (A:=X.A) (s:=s) (e:=λ_=>true) p p2 hu (λj h1 h2=> ?_) _ _ _ _ (a_G I q (by simp[hz]));simpa using c_l hf r r2 j (by simpa using h1) (by simpa using h2)
def n_T (K:PySem.W.Frag):R2:=λx y H Q=>∃l k a b xs,x= .ref l/\y= .ref k/\H l=some (.lst [.ref a])/\H k=some (.lst [.ref b])/\SqT K H a xs/\SqT K H b xs/\m_g xs/\Q (.bl false) H
theorem l_p (hu:X.A.units+1 < cLine):OpR X (compareOp .NotEq) (n_T X.K):=by
 intro pins s σ H x y v u Q I rx ry h;obtain⟨l,k,a,b,xs,rfl,rfl,hl,hk,ha,hb,hf,q⟩:=h;cases rx;cases ry;obtain⟨its,r,p,_⟩:=I.list (SqL.of hl:SqL X.K H l [.ref a]);obtain⟨c,r2,p2,_⟩:=I.list (SqL.of hk:SqL X.K H k [.ref b]);have e1:=c_j (as:= [a]) r;have e2:=c_j (as:= [b]) r2;subst e1 e2;obtain⟨ia,ra,pa,_⟩:=I.tuple ha;obtain⟨ib,rb,pb,_⟩:=I.tuple hb;have hz:ia.length=ib.length:=by rw[<-ra.length,rb.length]
 refine SeqAt.RcNeAt.lists (A:=X.A) (s:=s) (e:=λ_=>true) p.isList p2.isList rfl (by omega) (λj h1 h2=> ?_) _ _ _ _ (a_G I q (by rw[g_z];rfl));have hj:j=0:=by simp at h1;exact h1
 subst hj;by_cases e:a=b
 ·rw[e];exact SeqAt.EqAt.same _
 ·refine SeqAt.EqAt.of_refs e ?_
  have z:=SeqAt.RcAt.tuples (A:=X.A.in1) (s:=s) (e:=λ_=>true) pa pb (by first | exact hu | (show X.A.units+1 < cLine;exact hu) | simpa using hu) (λj h1 h2=>by simpa using c_l hf ra rb j (by simpa using h1) (by simpa using h2));rw[g_z] at z;simpa[hz] using z
end
end L2
namespace K1
open PySem L2 TO
section
variable {P:Program} {w:World} {K:PySem.W.Frag} {mg:Str->Option Value} {base:Heap}
def e_q (CS CO CT CF CM CN:Addr):Sp:=λvs H Q E=>∃(A:Ads) (a:Addr) (d:Deed) (N:Nat) (room sd:Int) (s:Sto),vs= [.ref A.o,.ref a]/\SAt CS CO H A N room s/\DeedAt H a d/\d.plain/\d.tell sd/\N<=8000/\
 (b_z room s d="done"->k_z CS CO H A (N+1) room (λ_ H'=>Q (.str "done") H') (s.step room d).1)/\o_B CT CF CM CN (b_z room s d) E H
theorem i_9:a_s ["_law_store","_law_deed"] ["_law_store","_law_deed"] (a_m f_o):=⟨rfl,rfl,rfl,by decide+kernel,rfl,by decide+kernel,by decide+kernel⟩
theorem i_A {f fBr fAl fCu fBe fKe fBk CS CO CT CF CM CN:Addr} {fd fdBr fdAl fdCu fdBe fdKe fdBk:FuncData} (F:Fun K "_law_done_by" "_law_done_by" f_o f fd) (TS:f_k K mg CS CO)
 (mBr:Mf K CS "bring" fBr fdBr ["self","row"]) (GBr:FnOk P w K mg base (CXR P w) 7 fBr fdBr ["self","row"] (f_X CS CO CT CF)) (mAl:Mf K CS "alter" fAl fdAl ["self","row"]) (GAl:FnOk P w K mg base (CXR P w) 7 fAl fdAl ["self","row"] (h_o CS CO CM))
 (mCu:Mf K CS "cut" fCu fdCu ["self","number"]) (GCu:FnOk P w K mg base (CXR P w) 7 fCu fdCu ["self","number"] (m_N CS CO CM)) (mBe:Mf K CS "begin" fBe fdBe ["self"]) (GBe:FnOk P w K mg base CX0 1 fBe fdBe ["self"] (f_M CS CO))
 (mKe:Mf K CS "keep" fKe fdKe ["self"]) (GKe:FnOk P w K mg base (CXR P w) 2 fKe fdKe ["self"] (k_p CS CO CN)) (mBk:Mf K CS "break_off" fBk fdBk ["self"]) (GBk:FnOk P w K mg base (CXR P w) 6 fBk fdBk ["self"] (h_r CS CO CN)):
 FnOk P w K mg base (CXR P w) 8 f fd ["_law_store","_law_deed"] (e_q CS CO CT CF CM CN):=by
 refine F.okX i_9 (λvs H Q E h=> ?_) (λcdv A outer s H vs Q E hr h=> ?_)
 ·obtain⟨A,a,d,N,room,sd,s,rfl,_⟩:=h
  rfl
 ·obtain⟨A,a,d,N,room,sd,so,rfl,S,hd,x,p,hN,k1,k2⟩:=h
  have v:Room 6 _:=hr.mono (by decide);have u:Room 2 _:=hr.mono (by decide);have y:Room 1 _:=hr.mono (by decide)
  have ob:∃fl dx,H A.o=some (.ins CS dx fl)/\∀m:Str,¬ m="room"->¬ m="by_number"->¬ m="by_rank"->¬ m="by_text"->¬ m="steps"->¬ m="marks"->fl.lookup m=none:=by
   obtain⟨l,st,ms,C,_⟩:=S.ex;exact⟨_,_,C.ob,λm a b c d e f=>c_P a b c d e f⟩
  obtain⟨fl,dx,g,i⟩:=ob
  refine⟨_,a_d (a_B (a_k a_L (a_v a_t (pv 1) a_e (λ_ _=>rfl)) a_j (a_o _)) (a_f (a_y (a_Q (pv 0) TS.cl mBr.m GBr hr mBr.b .nil (d_H (E':=E) λ_ _ _ h=>h) (a_a (a_v a_t (pv 1) a_e (λ_ _=>rfl)) a_c))))
   (a_f (a_B (a_k a_L (a_v a_t (pv 1) a_e (λ_ _=>rfl)) a_j (a_o _)) (a_f (a_y (a_Q (pv 0) TS.cl mAl.m GAl hr mAl.b .nil (d_H (E':=E) λ_ _ _ h=>h) (a_a (a_v a_t (pv 1) a_e (λ_ _=>rfl)) a_c))))
   (a_f (a_B (a_k a_L (a_v a_t (pv 1) a_e (λ_ _=>rfl)) a_j (a_o _)) (a_f (a_y (a_Q (pv 0) TS.cl mCu.m GCu hr mCu.b .nil (d_H (E':=E) λ_ _ _ h=>h) (a_a (a_v a_t (pv 1) a_e (λ_ _=>rfl)) a_c))))
   (a_f (a_B (a_k a_L (a_v a_t (pv 1) a_e (λ_ _=>rfl)) a_j (a_o _)) (a_f (a_y (b_5 (pv 0) TS.cl mBe.m GBe y mBe.b .nil a_u)))
   (a_f (a_B (a_k a_L (a_v a_t (pv 1) a_e (λ_ _=>rfl)) a_j (a_o _)) (a_f (a_y (b_5 (pv 0) TS.cl mKe.m GKe u mKe.b .nil (d_H (E':=E) λ_ _ _ h=>h))))
   (a_f (a_y (b_5 (pv 0) TS.cl mBk.m GBk v mBk.b .nil (d_H (E':=E) λ_ _ _ h=>h))))))))))))) (a_f (a_n a_j)),?_⟩
  cases d with
  | chg c=>
    cases c with
    | bring ρ=>
      obtain⟨r,h1,hρ⟩:=hd;refine⟨_,rfl,a,_,_,_,rfl,rfl,SqT.of h1,a_g (j:=0) rfl,rfl,_,rfl,a_z (λ_=> ?_) (λq=>absurd (p_u rfl) q)⟩;refine⟨_,rfl,A.o,dx,_,rfl,g,i _ (by decide+kernel) (by decide+kernel) (by decide+kernel) (by decide+kernel) (by decide+kernel) (by decide+kernel),_,rfl,a,_,_,_,rfl,rfl,SqT.of h1,a_g (j:=1) rfl,A,r,ρ,N,room,so,rfl,S,hρ,f_S p,hN,λc=>k2.t ?_, λc c2=>k2.f ?_, λc c2=> ?_⟩
      ·simp[b_z,b_p,c]
      ·simp[b_z,b_p,c,c2]
      ·have e:b_p room so.kept (.bring ρ)=(b_P so.kept ρ,("done":Str)):=by simp only[b_p];rw[if_neg (by rw[c];simp),if_neg c2]
       have k3:=k1 (by show (b_p room so.kept (.bring ρ)).2=_;rw[e]);have e2:(so.step room (.chg (.bring ρ))).1={ so with kept:=b_P so.kept ρ }:=by show ({ so with kept:=(b_p room so.kept (.bring ρ)).1 }:Sto)=_;rw[e]
       rw[e2] at k3;exact k3
    | alter ρ=>
      obtain⟨r,h1,hρ⟩:=hd;refine⟨_,rfl,a,_,_,_,rfl,rfl,SqT.of h1,a_g (j:=0) rfl,rfl,_,rfl,a_z (λq=>absurd q (by decide+kernel)) (λ_=> ?_)⟩;refine⟨_,rfl,a,_,_,_,rfl,rfl,SqT.of h1,a_g (j:=0) rfl,rfl,_,rfl,a_z (λ_=> ?_) (λq=>absurd (p_u rfl) q)⟩;refine⟨_,rfl,A.o,dx,_,rfl,g,i _ (by decide+kernel) (by decide+kernel) (by decide+kernel) (by decide+kernel) (by decide+kernel) (by decide+kernel),_,rfl,a,_,_,_,rfl,rfl,SqT.of h1,a_g (j:=1) rfl,A,r,ρ,N,room,so,rfl,S,hρ,f_S p,hN,λc=>k2.m ?_, λc=> ?_⟩
      ·simp[b_z,b_p,c]
      ·have e:b_p room so.kept (.alter ρ)=(b_P so.kept ρ,("done":Str)):=by simp only[b_p];rw[if_pos c]
       have k3:=k1 (by show (b_p room so.kept (.alter ρ)).2=_;rw[e]);have e2:(so.step room (.chg (.alter ρ))).1={ so with kept:=b_P so.kept ρ }:=by show ({ so with kept:=(b_p room so.kept (.alter ρ)).1 }:Sto)=_;rw[e]
       rw[e2] at k3;exact k3
    | cut n=>
      refine⟨_,rfl,a,_,_,_,rfl,rfl,SqT.of hd,a_g (j:=0) rfl,rfl,_,rfl,a_z (λq=>absurd q (by decide+kernel)) (λ_=> ?_)⟩;refine⟨_,rfl,a,_,_,_,rfl,rfl,SqT.of hd,a_g (j:=0) rfl,rfl,_,rfl,a_z (λq=>absurd q (by decide+kernel)) (λ_=> ?_)⟩;refine⟨_,rfl,a,_,_,_,rfl,rfl,SqT.of hd,a_g (j:=0) rfl,rfl,_,rfl,a_z (λ_=> ?_) (λq=>absurd (p_u rfl) q)⟩;refine⟨_,rfl,A.o,dx,_,rfl,g,i _ (by decide+kernel) (by decide+kernel) (by decide+kernel) (by decide+kernel) (by decide+kernel) (by decide+kernel),_,rfl,a,_,_,_,rfl,rfl,SqT.of hd,a_g (j:=1) rfl,A,n,N,room,so,rfl,S,f_S p,hN,λc=>k2.m ?_, λc=> ?_⟩
      ·simp[b_z,b_p,c]
      ·have e:b_p room so.kept (.cut n)=(a_Z so.kept n,("done":Str)):=by simp only[b_p];rw[if_pos c]
       have k3:=k1 (by show (b_p room so.kept (.cut n)).2=_;rw[e]);have e2:(so.step room (.chg (.cut n))).1={ so with kept:=a_Z so.kept n }:=by show ({ so with kept:=(b_p room so.kept (.cut n)).1 }:Sto)=_;rw[e]
       rw[e2] at k3;exact k3
  | begin=>
    refine⟨_,rfl,a,_,_,_,rfl,rfl,SqT.of hd,a_g (j:=0) rfl,rfl,_,rfl,a_z (λq=>absurd q (by decide+kernel)) (λ_=> ?_)⟩;refine⟨_,rfl,a,_,_,_,rfl,rfl,SqT.of hd,a_g (j:=0) rfl,rfl,_,rfl,a_z (λq=>absurd q (by decide+kernel)) (λ_=> ?_)⟩;refine⟨_,rfl,a,_,_,_,rfl,rfl,SqT.of hd,a_g (j:=0) rfl,rfl,_,rfl,a_z (λq=>absurd q (by decide+kernel)) (λ_=> ?_)⟩;refine⟨_,rfl,a,_,_,_,rfl,rfl,SqT.of hd,a_g (j:=0) rfl,rfl,_,rfl,a_z (λ_=> ?_) (λq=>absurd (p_u rfl) q)⟩;exact⟨_,rfl,A.o,dx,_,rfl,g,i _ (by decide+kernel) (by decide+kernel) (by decide+kernel) (by decide+kernel) (by decide+kernel) (by decide+kernel),A,N,room,so,rfl,S,hN,k1 rfl⟩
  | keep=>
    refine⟨_,rfl,a,_,_,_,rfl,rfl,SqT.of hd,a_g (j:=0) rfl,rfl,_,rfl,a_z (λq=>absurd q (by decide+kernel)) (λ_=> ?_)⟩;refine⟨_,rfl,a,_,_,_,rfl,rfl,SqT.of hd,a_g (j:=0) rfl,rfl,_,rfl,a_z (λq=>absurd q (by decide+kernel)) (λ_=> ?_)⟩;refine⟨_,rfl,a,_,_,_,rfl,rfl,SqT.of hd,a_g (j:=0) rfl,rfl,_,rfl,a_z (λq=>absurd q (by decide+kernel)) (λ_=> ?_)⟩;refine⟨_,rfl,a,_,_,_,rfl,rfl,SqT.of hd,a_g (j:=0) rfl,rfl,_,rfl,a_z (λq=>absurd q (by decide+kernel)) (λ_=> ?_)⟩;refine⟨_,rfl,a,_,_,_,rfl,rfl,SqT.of hd,a_g (j:=0) rfl,rfl,_,rfl,a_z (λ_=> ?_) (λq=>absurd (p_u rfl) q)⟩;refine⟨_,rfl,A.o,dx,_,rfl,g,i _ (by decide+kernel) (by decide+kernel) (by decide+kernel) (by decide+kernel) (by decide+kernel) (by decide+kernel),A,N,room,so,rfl,S,λc=>k2.n (by simp[b_z,c]),λk r c A' H' S' e' F' tk=> ?_⟩;have k3:=k1 (by simp[b_z,c]);have e2:(so.step room .keep).1={ so with marks:=r }:=by unfold Sto.step;rw[c]
    rw[e2] at k3;exact k3 A' H' (S'.mono (Nat.le_succ _)) e' F' tk
  | brk=>
    refine⟨_,rfl,a,_,_,_,rfl,rfl,SqT.of hd,a_g (j:=0) rfl,rfl,_,rfl,a_z (λq=>absurd q (by decide+kernel)) (λ_=> ?_)⟩;refine⟨_,rfl,a,_,_,_,rfl,rfl,SqT.of hd,a_g (j:=0) rfl,rfl,_,rfl,a_z (λq=>absurd q (by decide+kernel)) (λ_=> ?_)⟩;refine⟨_,rfl,a,_,_,_,rfl,rfl,SqT.of hd,a_g (j:=0) rfl,rfl,_,rfl,a_z (λq=>absurd q (by decide+kernel)) (λ_=> ?_)⟩;refine⟨_,rfl,a,_,_,_,rfl,rfl,SqT.of hd,a_g (j:=0) rfl,rfl,_,rfl,a_z (λq=>absurd q (by decide+kernel)) (λ_=> ?_)⟩;refine⟨_,rfl,a,_,_,_,rfl,rfl,SqT.of hd,a_g (j:=0) rfl,rfl,_,rfl,a_z (λq=>absurd q (by decide+kernel)) (λ_=> ?_)⟩;refine⟨_,rfl,A.o,dx,_,rfl,g,i _ (by decide+kernel) (by decide+kernel) (by decide+kernel) (by decide+kernel) (by decide+kernel) (by decide+kernel),A,N,room,so,rfl,S,hN,λc=>k2.n (by simp[b_z,c]),λk r c A' H' S' e' F' tk=> ?_⟩;have k3:=k1 (by simp[b_z,c]);have e2:(so.step room .brk).1=⟨k,r⟩:=by unfold Sto.step;rw[c]
    rw[e2] at k3;exact k3 A' H' (S'.mono (Nat.le_succ _)) e' F' tk
  | _=>exact x.elim
end
def SaidV (H:Hp) (w:Str) (v:V):Prop:=(w="done"/\v= .str "done")\/(¬ w="done"/\∃t,v= .ref t/\H t=some (.tup [.str "refused",.str w]))
def c_M (l:List Row) (n:Int):D:=match b_Y l n with
 | some ρ=>j_k ρ
 | none=> .tup [.str "refused",.str "missing"]
section
variable {P:Program} {w:World} {K:PySem.W.Frag} {mg:Str->Option Value} {base:Heap}
def j_5 (CS CO:Addr):Sp:=λvs H Q _=>∃(A:Ads) (a:Addr) (d:Deed) (N:Nat) (room sd:Int) (s:Sto),vs= [.ref A.o,.ref a]/\SAt CS CO H A N room s/\DeedAt H a d/\d.plain/\d.tell sd/\N<=8000/\
 ∀(v:V) (A':Ads) (H':Hp),SAt CS CO H' A' (N+1) room (s.step room d).1->A'.o=A.o->Stp H H' A.fp A'.fp->a_F H H'->SaidV H' (b_z room s d) v->Q v H'
theorem m_e:a_s ["_law_store","_law_deed"] ["_law_store","_law_deed"] (a_m k_H):=⟨rfl,rfl,rfl,by decide+kernel,rfl,by decide+kernel,by decide+kernel⟩
theorem l_K {f fD CS CO CT CF CM CN CNo:Addr} {fd fdD:FuncData} (F:Fun K "_law_said" "_law_said" k_H f fd) (ex:k_n K mg CT CF CM CN) (xm:l_A K CT CM CF CN CNo)
 (gD:Gf K mg "_law_done_by" fD fdD ["_law_store","_law_deed"]) (GD:FnOk P w K mg base (CXR P w) 8 fD fdD ["_law_store","_law_deed"] (e_q CS CO CT CF CM CN)):
 FnOk P w K mg base CX0 9 f fd ["_law_store","_law_deed"] (j_5 CS CO):=by
 refine F.ok m_e (λvs H Q E h=> ?_) (λcdv A outer s H vs Q E hr h=> ?_)
 ·obtain⟨A,a,d,N,room,sd,s,rfl,_⟩:=h
  rfl
 ·obtain⟨A,a,d,N,room,sd,so,rfl,S,hd,c,g,hN,fin⟩:=h
  refine⟨_,a_f (k_j (.cons rfl ex.t.at_ (by decide) (λe=>a_f (a_n (a_A (a_a a_j (a_a a_j a_c))))) (.cons rfl ex.m.at_ (by decide) (λe=>a_f (a_n (a_A (a_a a_j (a_a a_j a_c))))) (.cons rfl ex.f.at_ (by decide) (λe=>a_f (a_n (a_A (a_a a_j (a_a a_j a_c))))) (.cons rfl ex.n.at_ (by decide) (λe=>a_f (a_n (a_A (a_a a_j (a_a a_j a_c))))) .nil))))
   λpn xe E hx=>a_f (a_n (a_l GD hr rfl gD.mg gD.kp gD.b .nil hx (a_a (pv 0) (a_a (pv 1) a_c))))),?_⟩
  refine⟨_,rfl,_,rfl,A,a,d,N,room,sd,so,rfl,S,hd,c,g,hN,λhw A' H' S' e' F' tk=> ?_, ?_⟩
  ·exact fin _ A' H' S' e' F' tk (.inl ⟨hw,rfl⟩)
  ·have go:∀y:Str,b_z room so d=y→¬ y="done"→2≤sizeLine∧∀t,H t=none→Q (.ref t) (upd H t (.tup [.str "refused",.str y])):=fun y e hy=>⟨by decide,fun t ht=>by
    have s1:=Same.upd_new (o:= .tup [V.str "refused",V.str y]) ht;refine fin _ A _ ?_ rfl (Stp.of_same s1) (h_1 s1) (.inr ⟨by rw[e];exact hy,t,rfl,by rw[e];exact a_b⟩);rw[j_r c (by rw[e];exact hy)];exact (S.same s1).mono (Nat.le_succ _)⟩
   refine⟨λe=> ?_, λe=> ?_, λe=> ?_, λe=> ?_⟩
   ·exact .inl ⟨xm.tt,go _ e (by decide+kernel)⟩
   ·exact .inr ⟨xm.ft,.inr ⟨xm.fm,.inl ⟨xm.ff,go _ e (by decide+kernel)⟩⟩⟩
   ·exact .inr ⟨xm.mt,.inl ⟨xm.mm,go _ e (by decide+kernel)⟩⟩
   ·exact .inr ⟨xm.nt,.inr ⟨xm.nm,.inr ⟨xm.nf,.inl ⟨xm.nn,go _ e (by decide+kernel)⟩⟩⟩⟩
def i_z:Sp:=λvs H Q _=>∃x:Str,vs= [.str x]/\∀(v:V) (H':Hp),Same H H'->SaidV H' x v->Q v H'
theorem k_C:a_s ["_law_word"] ["_law_word"] (a_m i_Q):=⟨rfl,rfl,rfl,by decide+kernel,rfl,by decide+kernel,by decide+kernel⟩
theorem j_j {f:Addr} {fd:FuncData} (F:Fun K "_law_as_due" "_law_as_due" i_Q f fd):FnOk P w K mg base CX0 1 f fd ["_law_word"] i_z:=by
 refine F.ok k_C (λvs H Q E h=> ?_) (λcdv A outer s H vs Q E hr h=> ?_)
 ·obtain⟨x,rfl,_⟩:=h
  rfl
 ·obtain⟨x,rfl,fin⟩:=h
  refine⟨_,a_d (a_B (a_k a_L (pv 0) a_j (a_o _)) (a_f (a_n (pv 0))) a_p) (a_f (a_n (a_A (a_a a_j (a_a (pv 0) a_c))))),?_⟩;refine⟨_,rfl,rfl,_,rfl,a_z (λq=> ?_) (λq=> ?_)⟩
  ·have e:x="done":=by have:=p_w q;injection this
   exact⟨_,rfl,fin _ H (Same.refl H) (.inl ⟨e,by rw[e]⟩)⟩
  ·have e:¬ x="done":=λz=>q (by rw[z];exact p_u rfl)
   exact⟨_,rfl,by show 2<=sizeLine;decide,λt ht=>fin _ _ (Same.upd_new ht) (.inr ⟨e,t,rfl,a_b⟩)⟩
def f_W (CS CO:Addr):Sp:=λvs H Q _=>∃(A:Ads) (n:Int) (N:Nat) (room:Int) (s:Sto),vs= [.ref A.o,.int n]/\SAt CS CO H A N room s/\g_J n/\∀(v:V) (H':Hp),Same H H'->Bears H' (c_M s.kept n) v->Q v H'
theorem l_z:a_s ["_law_store","_law_number"] ["_law_store","_law_number"] (a_m h_S):=⟨rfl,rfl,rfl,by decide+kernel,rfl,by decide+kernel,by decide+kernel⟩
theorem j_X {f fR CS CO CT CF CM CN CNo:Addr} {fd fdR:FuncData} (F:Fun K "_law_row_or" "_law_row_or" h_S f fd) (TS:f_k K mg CS CO) (ex:k_n K mg CT CF CM CN) (xm:l_A K CT CM CF CN CNo)
 (mR:Mf K CS "row_of" fR fdR ["self","number"]) (GR:FnOk P w K mg base (CXR P w) 1 fR fdR ["self","number"] (e_r CS CO CM)):FnOk P w K mg base CX0 2 f fd ["_law_store","_law_number"] (f_W CS CO):=by
 refine F.ok l_z (λvs H Q E h=> ?_) (λcdv A outer s H vs Q E hr h=> ?_)
 ·obtain⟨A,n,N,room,s,rfl,_⟩:=h
  rfl
 ·obtain⟨A,n,N,room,so,rfl,S,a,fin⟩:=h
  obtain⟨l,st,ms,C,hs,hp,_,_⟩:=S.ex;have hn:=hs.nums;have hf:b_Y so.kept n=b_Y l n:=(g_R hn hp n).symm
  refine⟨_,a_f (k_j (.cons rfl ex.m.at_ (by decide) (λe=>a_f (a_n (a_A (a_a a_j (a_a a_j a_c))))) .nil)
   λpn xe E hx=>a_f (a_n (a_Q (pv 0) TS.cl mR.m GR hr mR.b .nil hx (a_a (pv 1) a_c)))),?_⟩
  refine⟨_,rfl,A.o,A.dx,_,rfl,C.ob,c_P (by decide+kernel) (by decide+kernel) (by decide+kernel) (by decide+kernel) (by decide+kernel) (by decide+kernel),_,rfl,A,n,room,l,st,ms,rfl,C,a,λh1 r ρ h2 h3=> ?_, λh1=> ?_⟩
  ·refine fin _ H (Same.refl H) ?_
   unfold c_M;rw[hf,h2];exact RowAt.bears h3
  ·refine .inl ⟨xm.mm,by show 2<=sizeLine;decide,λt ht=>fin _ _ (Same.upd_new ht) ?_⟩
   have h2:b_Y l n=none:=b_3 h1;unfold c_M;rw[hf,h2];exact .tup a_b (.cons (.str _) (.cons (.str _) .nil))
def d_1 (CS CO:Addr):Sp:=λvs H Q _=>∃(A:Ads) (n:Int) (N:Nat) (room r2:Int) (s:Sto) (st kd mk:Addr),vs= [.ref A.o,.ref st,.int n]/\SAt CS CO H A N room s/\g_J n/\H st=some (.dK (f_n r2 kd mk))/\KeptAt H kd s.kept/\∀H',Same H H'->Q (.bl true) H'
theorem g_9:a_s ["_law_store","_law_plain","_law_number"] ["_law_store","_law_plain","_law_number"] (a_m d_g):=⟨rfl,rfl,rfl,by decide+kernel,rfl,by decide+kernel,by decide+kernel⟩
theorem j_O (l:List Row) (n:Int):(c_M l n).wt<=4:=by
 unfold c_M;split
 ·simp[j_k,D.wt,D.wts]
 ·simp[D.wt,D.wts]
theorem f_x {f fRo fSa CS CO:Addr} {fd fdRo fdSa:FuncData} (F:Fun K "_law_row_right" "_law_row_right" d_g f fd) (gRo:Gf K mg "_law_row_or" fRo fdRo ["_law_store","_law_number"]) (GRo:FnOk P w K mg base CX0 2 fRo fdRo ["_law_store","_law_number"] (f_W CS CO))
 (gSa:Gf K mg "_law_same" fSa fdSa ["_law_found","_law_due"]) (GSa:FnOk P w K mg base CX0 2 fSa fdSa ["_law_found","_law_due"] i_L):FnOk P w K mg base CX0 3 f fd ["_law_store","_law_plain","_law_number"] (d_1 CS CO):=by
 refine F.ok g_9 (λvs H Q E h=> ?_) (λcdv A outer s H vs Q E hr h=> ?_)
 ·obtain⟨A,n,N,room,r2,s,st,kd,mk,rfl,_⟩:=h
  rfl
 ·obtain⟨A,n,N,room,r2,so,st,kd,mk,rfl,S,e,i,hk,fin⟩:=h
  have d:=e_u hr;refine⟨_,a_f (a_n (a_l GSa hr rfl gSa.mg gSa.kp gSa.b .nil a_u (a_a (a_l GRo hr rfl gRo.mg gRo.kp gRo.b .nil a_u (a_a (pv 0) (a_a (pv 2) a_c))) (a_a (i_4 d (b_U d (pv 1) a_j (λ_ _=>rfl)) (pv 2) (a_A (a_a a_j (a_a a_j a_c))) ⟨rfl,rfl,rfl,rfl⟩) a_c)))),?_⟩;refine⟨_,rfl,_,rfl,A,n,N,room,so,rfl,S,e,λv H1 s1 b1=> ?_⟩;obtain⟨rs,c,hR⟩:=id hk;refine⟨_,rfl,st,_,rfl,e_x (s1 _ _ i),kd,rfl,.inl ⟨_,.inl (s1 _ _ c)⟩,_,rfl,by show 2<=sizeLine;decide,λt ht=> ?_⟩;have s2:=Same.upd_new (o:= .tup [V.str "refused",V.str "missing"]) ht;have et:(upd H1 t (.tup [V.str "refused",V.str "missing"])) t=some (.tup [V.str "refused",V.str "missing"]):=a_b;generalize upd H1 t (.tup [V.str "refused",V.str "missing"])=H2 at s2 et ⊢;have a:=s1.trans s2;have g:RowsAt H2 rs so.kept:=hR.same λb xs q=>a _ _ q;refine⟨_,e_v (a _ _ c),?_⟩;have hw:=j_O so.kept n;obtain⟨k1,k2⟩:=b_K (n:=n) g;refine⟨c_M so.kept n,v,_,rfl,Bears.same s2 b1,?_, by omega,λH3 s3=>fin H3 (a.trans s3)⟩;cases hh:b_g so.kept n with
  | true=>
    obtain⟨r,ρ,e1,e2,e3,_⟩:=k2 hh;rw[e1];unfold c_M;rw[e2];exact RowAt.bears e3
  | false=>
    rw[hh] at k1;cases e1:c_K (a_O rs so.kept) (Sum.inl n) with
    | some v=>rw[e1] at k1;cases k1
    | none=>
      unfold c_M;rw[b_3 hh];exact .tup et (.cons (.str _) (.cons (.str _) .nil))
end
theorem d_7 {X:Cx} {x:Str} {C:Addr} {pos:Pos} (hm:X.mg x=some (.ref C)) (hg:Gl X x:=by rfl) (hd:(x == ("__debug__":Str))=false:=by decide):PE X (.Name x pos) (tC (.ref C)):=f_P hg hm rfl hd
theorem o_d:bootBuiltins "ValueError"=some (.type "ValueError"):=by decide+kernel
structure i_R (K:PySem.W.Frag) (D CF CM CO CN CT CE:Addr) (b1 b2 b3 b4 b5:Bool):Prop where
 k:ExK K D
 e:PySem.W.exmOne K (.ref D) (.ref CE)=some true
 f:PySem.W.kitOne K (.ref D) (.ref CF)=some b1
 m:PySem.W.kitOne K (.ref D) (.ref CM)=some b2
 o:PySem.W.kitOne K (.ref D) (.ref CO)=some b3
 n:PySem.W.kitOne K (.ref D) (.ref CN)=some b4
 t:PySem.W.kitOne K (.ref D) (.ref CT)=some b5
 v:PySem.W.kitOne K (.ref D) (.type "ValueError")=some true
section
variable {P:Program} {w:World} {K:PySem.W.Frag} {mg:Str->Option Value} {base:Heap}
def f_9 (CS CO:Addr):Sp:=λvs H Q _=>∃(A:Ads) (a:Addr) (d:Deed) (N:Nat) (room sd:Int) (s:Sto),vs= [.ref A.o,.ref a]/\SAt CS CO H A N room s/\DeedAt H a d/\d.plain/\d.tell sd/\N<=8000/\¬ b_z room s d="done"/\∀H',Same H H'->Q (.bl true) H'
theorem c_o:a_s ["_law_store","_law_deed","e","_law_kinds"] ["_law_store","_law_deed"] (a_m f_2):=⟨rfl,rfl,rfl,by decide+kernel,rfl,by decide+kernel,by decide+kernel⟩
theorem i_e {f fD CS CO CT CF CM CN CNo CE:Addr} {fd fdD:FuncData} (F:Fun K "_law_refused_by_any" "_law_refused_by_any" f_2 f fd) (B:Bt mg) (hVE:mg "ValueError"=none) (hSE:mg "StoreError"=some (.ref CE)) (ex:k_n K mg CT CF CM CN) (eO:Exc K mg "NoOrder" CNo)
 (kt:i_R K CT CF CM CNo CN CT CE false false false false true) (km:i_R K CM CF CM CNo CN CT CE false true false false false) (kf:i_R K CF CF CM CNo CN CT CE true false false false false) (kn:i_R K CN CF CM CNo CN CT CE false false false true false)
 (gD:Gf K mg "_law_done_by" fD fdD ["_law_store","_law_deed"]) (GD:FnOk P w K mg base (CXR P w) 8 fD fdD ["_law_store","_law_deed"] (e_q CS CO CT CF CM CN)):
 FnOk P w K mg base CX0 9 f fd ["_law_store","_law_deed"] (f_9 CS CO):=by
 refine F.ok c_o (λvs H Q E h=> ?_) (λcdv A outer s H vs Q E hr h=> ?_)
 ·obtain⟨A,a,d,N,room,sd,s,rfl,_⟩:=h
  rfl
 ·obtain⟨A,a,d,N,room,sd,so,rfl,S,hd,c,g,hN,hw,fin⟩:=h
  refine⟨_,a_d (g_I (i:=2) c_o.nd rfl rfl rfl rfl hSE (by decide)
   (fun C' a' ob pn hc _ hp=>a_d (a_w (i:=3) c_o.nd rfl (Or.inl rfl) (a_q a_J (a_K a_P (by rfl) B.int b_8 (a_a (a_r (a_1 K hc hp) (by rfl) B.isi b_F (a_a (pv 2) (a_a (d_7 ex.f.at_) a_c))) a_c)) (a_K a_P (by rfl) B.int b_8 (a_a (a_r (a_1 K hc hp) (by rfl) B.isi b_F (a_a (pv 2) (a_a (d_7 ex.m.at_) a_c))) a_c))))
     (a_d (a_w (i:=3) c_o.nd rfl (Or.inl rfl) (a_q a_J (pv 3) (a_K a_P (by rfl) B.int b_8 (a_a (a_r (a_1 K hc hp) (by rfl) B.isi b_F (a_a (pv 2) (a_a (d_7 eO.at_) a_c))) a_c))))
     (a_d (a_w (i:=3) c_o.nd rfl (Or.inl rfl) (a_q a_J (a_q a_J (pv 3) (a_K a_P (by rfl) B.int b_8 (a_a (a_r (a_1 K hc hp) (by rfl) B.isi b_F (a_a (pv 2) (a_a (d_7 ex.n.at_) a_c))) a_c))) (a_K a_P (by rfl) B.int b_8 (a_a (a_r (a_1 K hc hp) (by rfl) B.isi b_F (a_a (pv 2) (a_a (d_7 ex.t.at_) a_c))) a_c))))
     (a_f (a_n (h_U (b_J a_L (pv 3) a_e (a_o _)) (h_3 (a_r (a_1 K hc hp) (by rfl) B.isi b_F (a_a (pv 2) (a_a (b_M hVE o_d) a_c))))))))))
   (λσ pn xe E hx=>e_b GD hr rfl gD.mg gD.kp gD.b .nil hx (a_a (pv 0) (a_a (pv 1) a_c)))) (a_f (a_n b_6)),?_⟩
  refine⟨_,rfl,_,rfl,A,a,d,N,room,sd,so,rfl,S,hd,c,g,hN,λq=>absurd q hw,?_⟩;have fh:=fin H (Same.refl H);refine⟨λe=>⟨kt.e,_,rfl,λx hx=> ?_⟩,λe=>⟨kf.e,_,rfl,λx hx=> ?_⟩,λe=>⟨km.e,_,rfl,λx hx=> ?_⟩,λe=>⟨kn.e,_,rfl,λx hx=> ?_⟩⟩
  ·exact⟨_,rfl,kt.k,_,.inl ⟨_,rfl,kt.f⟩,.inr ⟨_,rfl,_,rfl,kt.k,_,.inl ⟨_,rfl,kt.m⟩,.inr ⟨_,rfl,_,_,rfl,rfl,_,rfl,_,rfl,kt.k,_,.inl ⟨_,rfl,kt.o⟩,.inr ⟨_,rfl,_,_,rfl,rfl,_,rfl,_,rfl,kt.k,_,.inl ⟨_,rfl,kt.n⟩,.inr ⟨_,rfl,_,_,rfl,rfl,_,rfl,kt.k,_,.inl ⟨_,rfl,kt.t⟩,.inr ⟨_,rfl,_,_,rfl,rfl,_,rfl,rfl,_,rfl,a_z (λ_=>⟨_,rfl,kt.k,_,.inr ⟨_,rfl,kt.v⟩,fh⟩) (λq=>absurd (p_u rfl) q)⟩⟩⟩⟩⟩⟩
  ·exact⟨_,rfl,kf.k,_,.inl ⟨_,rfl,kf.f⟩,.inr ⟨_,rfl,_,rfl,kf.k,_,.inl ⟨_,rfl,kf.m⟩,.inr ⟨_,rfl,_,_,rfl,rfl,_,rfl,_,rfl,kf.k,_,.inl ⟨_,rfl,kf.o⟩,.inr ⟨_,rfl,_,_,rfl,rfl,_,rfl,_,rfl,kf.k,_,.inl ⟨_,rfl,kf.n⟩,.inr ⟨_,rfl,_,_,rfl,rfl,_,rfl,kf.k,_,.inl ⟨_,rfl,kf.t⟩,.inr ⟨_,rfl,_,_,rfl,rfl,_,rfl,rfl,_,rfl,a_z (λ_=>⟨_,rfl,kf.k,_,.inr ⟨_,rfl,kf.v⟩,fh⟩) (λq=>absurd (p_u rfl) q)⟩⟩⟩⟩⟩⟩
  ·exact⟨_,rfl,km.k,_,.inl ⟨_,rfl,km.f⟩,.inr ⟨_,rfl,_,rfl,km.k,_,.inl ⟨_,rfl,km.m⟩,.inr ⟨_,rfl,_,_,rfl,rfl,_,rfl,_,rfl,km.k,_,.inl ⟨_,rfl,km.o⟩,.inr ⟨_,rfl,_,_,rfl,rfl,_,rfl,_,rfl,km.k,_,.inl ⟨_,rfl,km.n⟩,.inr ⟨_,rfl,_,_,rfl,rfl,_,rfl,km.k,_,.inl ⟨_,rfl,km.t⟩,.inr ⟨_,rfl,_,_,rfl,rfl,_,rfl,rfl,_,rfl,a_z (λ_=>⟨_,rfl,km.k,_,.inr ⟨_,rfl,km.v⟩,fh⟩) (λq=>absurd (p_u rfl) q)⟩⟩⟩⟩⟩⟩
  ·exact⟨_,rfl,kn.k,_,.inl ⟨_,rfl,kn.f⟩,.inr ⟨_,rfl,_,rfl,kn.k,_,.inl ⟨_,rfl,kn.m⟩,.inr ⟨_,rfl,_,_,rfl,rfl,_,rfl,_,rfl,kn.k,_,.inl ⟨_,rfl,kn.o⟩,.inr ⟨_,rfl,_,_,rfl,rfl,_,rfl,_,rfl,kn.k,_,.inl ⟨_,rfl,kn.n⟩,.inr ⟨_,rfl,_,_,rfl,rfl,_,rfl,kn.k,_,.inl ⟨_,rfl,kn.t⟩,.inr ⟨_,rfl,_,_,rfl,rfl,_,rfl,rfl,_,rfl,a_z (λ_=>⟨_,rfl,kn.k,_,.inr ⟨_,rfl,kn.v⟩,fh⟩) (λq=>absurd (p_u rfl) q)⟩⟩⟩⟩⟩⟩
def h_4 (C CNo:Addr):Sp:=λvs H Q E=>∃(p dx:Addr) (x:Str),vs= [.ref p,.str x]/\H p=some (.ins C dx [])/\d_d x=none/\(PySem.reprText x).length<=1000/\∀H',Same H H'->E (.ref CNo) none H'
theorem j_T {f fCW C CNo:Addr} {fd fdCW:FuncData} (F:Fun K "__init__" "Order.__init__" j_x f fd) (gCW:Gf K mg "check_word" fCW fdCW ["word"]) (GCW:FnOk P w K mg base (CXR P w) 1 fCW fdCW ["word"] (l_d CNo)):FnOk P w K mg base (CXR P w) 2 f fd ["self","word"] (h_4 C CNo):=by
 refine F.okX k_h (λvs H Q E h=> ?_) (λcdv A outer s H vs Q E hr h=> ?_)
 ·obtain⟨p,dx,x,rfl,_⟩:=h
  rfl
 ·obtain⟨p,dx,x,rfl,hp,hn,a,k⟩:=h
  refine⟨_,a_d (a_y (a_l GCW hr rfl gCW.mg gCW.kp gCW.b .nil (d_H (E':=E) λ_ _ _ h=>h) (a_a (pv 1) a_c)))
   (a_d (b_T (pv 0) (pv 1) rfl) (a_f (b_T (pv 0) (a_R a_c) rfl))),?_⟩
  exact⟨_,rfl,x,rfl,λw hw=>(by rw[hn] at hw;cases hw),λ_=>⟨a,k⟩⟩
def i_m:Sp:=λvs H Q _=>∃x:Str,vs= [.str x]/\d_d x=none/\(PySem.reprText x).length<=1000/\∀H',Same H H'->Q (.bl true) H'
theorem b_W:a_s ["_law_word","_law_refused","e","_law_kinds"] ["_law_word"] (a_m i_M):=⟨rfl,rfl,rfl,by decide+kernel,rfl,by decide+kernel,by decide+kernel⟩
theorem j_a {f fCW fI CO CT CF CM CN CNo CE:Addr} {fd fdCW fdI:FuncData} (F:Fun K "_law_no_order" "_law_no_order" i_M f fd) (T:Txt K mg CO) (B:Bt mg) (hVE:mg "ValueError"=none) (hSE:mg "StoreError"=some (.ref CE)) (ex:k_n K mg CT CF CM CN) (eO:Exc K mg "NoOrder" CNo)
 (ko:i_R K CNo CF CM CNo CN CT CE false false true false false) (oo:PySem.W.exmOne K (.ref CNo) (.ref CNo)=some true) (gCW:Gf K mg "check_word" fCW fdCW ["word"]) (GCW:FnOk P w K mg base (CXR P w) 1 fCW fdCW ["word"] (l_d CNo))
 (M:Mk K CO fI) (bI:Binds K fdI ["self","word"] []) (GI:FnOk P w K mg base (CXR P w) 2 fI fdI ["self","word"] (h_4 CO CNo)):FnOk P w K mg base CX0 4 f fd ["_law_word"] i_m:=by
 refine F.ok b_W (λvs H Q E h=> ?_) (λcdv A outer s H vs Q E hr h=> ?_)
 ·obtain⟨x,rfl,_⟩:=h
  rfl
 ·obtain⟨x,rfl,hn,a,fin⟩:=h
  have c:Room 1 _:=hr.mono (by decide);have d:Room 3 _:=hr
  refine⟨_,a_d (a_w (i:=1) b_W.nd rfl (Or.inl rfl) a_e)
   (a_d (g_r rfl eO.at_ (by decide) (λe=>a_f (a_w (i:=1) b_W.nd rfl (Or.inl rfl) (a_q a_J (pv 1) a_e))) (λσ pn xe E hx=>e_b GCW c rfl gCW.mg gCW.kp gCW.b .nil hx (a_a (pv 0) a_c)))
   (a_d (g_r rfl eO.at_ (by decide) (λe=>a_f (a_w (i:=1) b_W.nd rfl (Or.inl rfl) (a_q a_J (pv 1) a_e))) (λσ pn xe E hx=>j_G M GI d rfl T.mgC bI .nil hx (a_a (pv 0) a_c)))
   (a_d (g_I (i:=2) b_W.nd rfl rfl rfl rfl hSE (by decide)
     (fun C' a' ob pn hc _ hp=>a_d (a_w (i:=3) b_W.nd rfl (Or.inl rfl) (a_q a_J (a_K a_P (by rfl) B.int b_8 (a_a (a_r (a_1 K hc hp) (by rfl) B.isi b_F (a_a (pv 2) (a_a (d_7 ex.f.at_) a_c))) a_c)) (a_K a_P (by rfl) B.int b_8 (a_a (a_r (a_1 K hc hp) (by rfl) B.isi b_F (a_a (pv 2) (a_a (d_7 ex.m.at_) a_c))) a_c))))
       (a_d (a_w (i:=3) b_W.nd rfl (Or.inl rfl) (a_q a_J (a_q a_J (pv 3) (a_K a_P (by rfl) B.int b_8 (a_a (a_r (a_1 K hc hp) (by rfl) B.isi b_F (a_a (pv 2) (a_a (d_7 ex.n.at_) a_c))) a_c))) (a_K a_P (by rfl) B.int b_8 (a_a (a_r (a_1 K hc hp) (by rfl) B.isi b_F (a_a (pv 2) (a_a (d_7 ex.t.at_) a_c))) a_c))))
       (a_f (a_w (i:=1) b_W.nd rfl (Or.inl rfl) (a_q a_J (pv 1) (a_K a_P (by rfl) B.int b_8 (a_a (h_U (b_J a_L (pv 3) a_e (a_o _)) (h_3 (a_r (a_1 K hc hp) (by rfl) B.isi b_F (a_a (pv 2) (a_a (b_M hVE o_d) a_c))))) a_c)))))))
     (λσ pn xe E hx=>e_b GCW c rfl gCW.mg gCW.kp gCW.b .nil hx (a_a (pv 0) a_c)))
   (a_f (a_n (b_J a_L (pv 1) a_e (a_o _))))))),?_⟩
  have no:∀{R:Prop} w,d_d x=some w->R:=λw hw=>by rw[hn] at hw;cases hw
  refine⟨_,rfl,x,rfl,λw hw=>no w hw,λ_=>⟨a,λH1 s1=>⟨oo,_,rfl,_,_,rfl,rfl,?_⟩⟩⟩;refine⟨_,rfl,λp dx hp j l=>⟨p,dx,x,rfl,a_b,hn,a,λH2 s2=>⟨oo,_,rfl,_,_,rfl,rfl,?_⟩⟩⟩;have g:Same H1 H2:=λb u hb=>s2 _ _ (by rw[a_i (a_h hb hp),a_i (a_h hb j)];exact hb);refine⟨_,rfl,x,rfl,λw hw=>no w hw,λ_=>⟨a,λH3 s3=>⟨ko.e,_,rfl,λx' o=> ?_⟩⟩⟩;have fh:=fin H3 ((s1.trans g).trans s3);refine⟨_,rfl,ko.k,_,.inl ⟨_,rfl,ko.f⟩,.inr ⟨_,rfl,_,rfl,ko.k,_,.inl ⟨_,rfl,ko.m⟩,.inr ⟨_,rfl,_,_,rfl,rfl,_,rfl,_,rfl,ko.k,_,.inl ⟨_,rfl,ko.n⟩,.inr ⟨_,rfl,_,_,rfl,rfl,_,rfl,ko.k,_,.inl ⟨_,rfl,ko.t⟩,.inr ⟨_,rfl,_,_,rfl,rfl,?_⟩⟩⟩⟩⟩;refine⟨_,rfl,_,rfl,rfl,_,rfl,a_z (λ_=> ?_) (λq=>absurd (p_u rfl) q)⟩;refine⟨_,rfl,ko.k,_,.inr ⟨_,rfl,ko.v⟩,.inr ⟨_,rfl,_,_,rfl,rfl,?_⟩⟩;exact⟨_,rfl,rfl,fh⟩
end
theorem g_Q {X:Cx} (K:PySem.W.Frag) (hK:X.K=K:=by rfl):OpR X (compareOp .In) (rIn K false):=by subst hK;exact d_f
def Kd (CS:Addr) (u:HO):Prop:=(∃xs,u= .lst xs)\/(∃kvs,u= .dK kvs)\/∃d fl,u= .ins CS d fl
theorem Kd.tup {CS:Addr} {H H':Hp} {f:List Addr} (keep:∀b u,H b=some u->b∉f->H' b=some u) (kd:∀b∈f,∀u,H b=some u->Kd CS u):a_F H H':=λb xs e=>keep b _ e λhb=>by
 rcases kd b hb _ e with⟨_,z⟩ | ⟨_,z⟩ | ⟨_,_,z⟩ <;> cases z
section
variable {CS CO:Addr} {H H':Hp} {A:Ads} {room:Int} {f:List Addr}
theorem StrC.off {ln l1 l2:List Row} {st:List a_W} {ms:List Nat} (h:StrC CS CO H A room ln l1 l2 st ms) (cc:CS≠CO) (keep:∀b u,H b=some u->b∉f->H' b=some u) (kd:∀b∈f,∀u,H b=some u->Kd CS u) (hf:∀b∈A.fp,b∉f):
 StrC CS CO H' A room ln l1 l2 st ms:=by
 have tk:=Kd.tup keep kd
 have lst:∀{bas:List Addr} {B:List (List Row)},Paired (LstAt H) bas B->(∀b∈bas,b∉f)->Paired (LstAt H') bas B:=by
  intro bas B p;induction p with
  | nil=>intro _;exact .nil
  | cons h t ih=>
    intro hn;obtain⟨as,q1,q2⟩:=h;exact .cons ⟨as,keep _ _ q1 (hn _ (o_S ..)),q2.same tk⟩ (ih λb hb=>hn b (o_R _ hb))
 have ord:∀{w:Bool} {o bl:Addr} {bas:List Addr} {B:List (List Row)},OrdAt CO w H o bl bas B->(∀b∈bl::bas,b∉f)->OrdAt CO w H' o bl bas B:=by
  rintro w o bl bas B ⟨⟨dx,z1⟩,z2,z3,z4⟩ hn;refine⟨⟨dx,keep _ _ z1 λhb=> ?_⟩,keep _ _ z2 (hn _ (o_S ..)),lst z3 λb hb=>hn b (o_R _ hb),z4⟩;rcases kd _ hb _ z1 with⟨_,z⟩ | ⟨_,z⟩ | ⟨_,_,z⟩
  ·cases z
  ·cases z
  ·injection z with z
   exact cc z.symm
 have hl:∀b∈A.ls,b∉f:=λb hb=>hf b (o_R _ (o_R _ hb));obtain⟨B1,O1,g1⟩:=h.O1;obtain⟨B2,O2,g2⟩:=h.O2;obtain⟨rs,n1,n2⟩:=h.nb
 exact⟨keep _ _ h.ob (hf _ (by simp[Ads.fp])),⟨rs,keep _ _ n1 (hf _ (by simp[Ads.fp])),n2.same tk⟩,
  ⟨B1,ord O1 λb hb=>hl b (by unfold Ads.ls;simp only[o_Z,o_6] at hb ⊢;grind),g1⟩,⟨B2,ord O2 λb hb=>hl b (by unfold Ads.ls;simp only[o_Z,o_6] at hb ⊢;grind),g2⟩,
  keep _ _ h.sls (hl _ (by simp[Ads.ls])),b_v tk h.sts,keep _ _ h.mls (hl _ (by simp[Ads.ls])),h.nd⟩
theorem SAt.off {N:Nat} {s:Sto} (h:SAt CS CO H A N room s) (cc:CS≠CO) (keep:∀b u,H b=some u->b∉f->H' b=some u) (kd:∀b∈f,∀u,H b=some u->Kd CS u) (hf:∀b∈A.fp,b∉f):SAt CS CO H' A N room s:=by
 obtain⟨l,st,ms,a,r⟩:=h.ex;exact⟨l,st,ms,a.off cc keep kd hf,r⟩
theorem SAt.there {N:Nat} {s:Sto} (h:SAt CS CO H A N room s):∀b∈A.fp,∃u,H b=some u/\Kd CS u:=λb hb=>by
 obtain⟨l,st,ms,a,r⟩:=h.ex;rcases o_Z.mp hb with e | hb
 ·rw[e];exact⟨_,a.ob,.inr (.inr ⟨_,_,rfl⟩)⟩
 rcases o_Z.mp hb with e | hb
 ·obtain⟨rs,q,_⟩:=a.nb
  rw[e];exact⟨_,q,.inr (.inl ⟨_,rfl⟩)⟩
 ·obtain⟨xs,q⟩:=a.list b hb
  exact⟨_,q,.inl ⟨_,rfl⟩⟩
theorem SAt.kd {N:Nat} {s:Sto} (h:SAt CS CO H A N room s):∀b∈A.fp,∀u,H b=some u->Kd CS u:=λb hb u e=>by
 obtain⟨v,q,k⟩:=h.there b hb;rw[q] at e;exact o_V e ▸ k
theorem SAt.no {N:Nat} {s:Sto} (h:SAt CS CO H A N room s) {b:Addr} (hn:H b=none):b∉A.fp:=λhb=>by
 obtain⟨v,q,_⟩:=h.there b hb;rw[hn] at q;cases q
theorem SAt.ob7 {N:Nat} {s:Sto} (h:SAt CS CO H A N room s):∃fl,H A.o=some (.ins CS A.dx fl)/\∀m:Str,¬ m="room"->¬ m="by_number"->¬ m="by_rank"->¬ m="by_text"->¬ m="steps"->¬ m="marks"->fl.lookup m=none:=by
 obtain⟨l,st,ms,C,_⟩:=h.ex;exact⟨_,C.ob,λm a b c d e f=>c_P a b c d e f⟩
theorem StoAt.off {st kd mk:Addr} {mas:List Addr} {s:Sto} (S:StoAt H st kd mk mas room s) (keep:∀b u,H b=some u->b∉f->H' b=some u) (tk:a_F H H') (hf:∀b∈st::mk::kd::mas,b∉f):StoAt H' st kd mk mas room s:=by
 obtain⟨rs,q1,q2⟩:=S.kept;exact⟨keep _ _ S.sto (hf st (by simp)),⟨rs,keep _ _ q1 (hf kd (by simp)),q2.same tk⟩,keep _ _ S.marks (hf mk (by simp)),b_m tk S.ms λb hb u h=>keep _ _ h (hf b (by simp[hb])),S.nd⟩
theorem StoAt.kd {st kd mk:Addr} {mas:List Addr} {s:Sto} (S:StoAt H st kd mk mas room s):∀b∈st::mk::kd::mas,∀u,H b=some u->Kd CS u:=λb hb u e=>by
 rcases o_Z.mp hb with q | hb
 ·rw[q,S.sto] at e;cases e;exact .inr (.inl ⟨_,rfl⟩)
 rcases o_Z.mp hb with q | hb
 ·rw[q,S.marks] at e;cases e;exact .inl ⟨_,rfl⟩
 rcases o_Z.mp hb with q | hb
 ·obtain⟨rs,z,_⟩:=S.kept
  rw[q,z] at e;cases e;exact .inr (.inl ⟨_,rfl⟩)
 ·obtain⟨kvs,z⟩:=S.dicts b hb
  rw[z] at e;cases e;exact .inr (.inl ⟨_,rfl⟩)
end
structure Lp (CS CO:Addr) (Hs H:Hp) (A:Ads) (o st kd mk:Addr) (mas:List Addr) (N:Nat) (room:Int) (sA sP:Sto):Prop where
 S:SAt CS CO H A N room sA
 o:A.o=o
 P:StoAt H st kd mk mas room sP
 sm:Same Hs H
 fa:∀b∈A.fp,Hs b=none
 fp:∀b∈st::mk::kd::mas,Hs b=none
 dj:∀b∈A.fp,b∉st::mk::kd::mas
section
variable {CS CO:Addr} {Hs H H':Hp} {A A':Ads} {o st kd mk kd':Addr} {mas mas':List Addr} {N M:Nat} {room:Int} {sA sP s':Sto}
theorem Lp.same (L:Lp CS CO Hs H A o st kd mk mas N room sA sP) (e:Same H H'):Lp CS CO Hs H' A o st kd mk mas N room sA sP:=⟨L.S.same e,L.o,L.P.same e,L.sm.trans e,L.fa,L.fp,L.dj⟩
theorem Lp.said (L:Lp CS CO Hs H A o st kd mk mas N room sA sP) (S':SAt CS CO H' A' M room s') (e:A'.o=A.o) (F:Stp H H' A.fp A'.fp) (tk:a_F H H'):Lp CS CO Hs H' A' o st kd mk mas M room s' sP:=by
 obtain⟨q1,q2⟩:=e_j L.sm L.fa F;refine⟨S',e.trans L.o,L.P.off F.keep tk λb hb hc=>L.dj b hc hb,q1,q2,L.fp,λb hb hc=> ?_⟩;rcases F.new b hb with z | z
 ·exact L.dj b z hc
 ·obtain⟨⟨u,q⟩,_⟩:=L.P.fpin b hc
  rw[z] at q;cases q
theorem Lp.ans (L:Lp CS CO Hs H A o st kd mk mas N room sA sP) (cc:CS≠CO) (P':StoAt H' st kd' mk mas' room s') (F:Stp H H' (st::mk::kd::mas) (st::mk::kd'::mas')):Lp CS CO Hs H' A o st kd' mk mas' N room sA s':=by
 obtain⟨q1,q2⟩:=e_j L.sm L.fp F;refine⟨L.S.off cc F.keep L.P.kd L.dj,L.o,P',q1,L.fa,q2,λb hb hc=> ?_⟩;rcases F.new b hc with z | z
 ·exact L.dj b hb z
 ·exact L.S.no z hb
end
structure Lq (CS CO:Addr) (Hs H:Hp) (A:Ads) (o:Addr) (N:Nat) (room:Int) (s:Sto):Prop where
 S:SAt CS CO H A N room s
 o:A.o=o
 sm:Same Hs H
 fa:∀b∈A.fp,Hs b=none
section
variable {CS CO:Addr} {Hs H H':Hp} {A A':Ads} {o:Addr} {N M:Nat} {room:Int} {s s':Sto}
theorem Lq.same (L:Lq CS CO Hs H A o N room s) (e:Same H H'):Lq CS CO Hs H' A o N room s:=⟨L.S.same e,L.o,L.sm.trans e,L.fa⟩
theorem Lq.said (L:Lq CS CO Hs H A o N room s) (S':SAt CS CO H' A' M room s') (e:A'.o=A.o) (F:Stp H H' A.fp A'.fp):Lq CS CO Hs H' A' o M room s':=by
 obtain⟨q1,q2⟩:=e_j L.sm L.fa F;exact⟨S',e.trans L.o,q1,q2⟩
end
theorem j_t {H H':Hp} (tk:a_F H H') {a:Addr} {d:Deed} (hp:d.plain) (h:DeedAt H a d):DeedAt H' a d:=by
 cases d with
 | chg c=>exact ChgAt.mono (H:=H) tk h
 | begin=>exact tk _ _ h
 | keep=>exact tk _ _ h
 | brk=>exact tk _ _ h
 | _=>exact hp.elim
theorem b_X {H H':Hp} (tk:a_F H H'):∀{as:List Addr} {ds:List Deed},(∀d∈ds,d.plain)->Paired (DeedAt H) as ds->Paired (DeedAt H') as ds
 | _,_,_,.nil=> .nil
 | _::_,d::_,hq,.cons h t=> .cons (j_t tk (hq d (o_S ..)) h) (b_X tk (λe he=>hq e (o_R _ he)) t)
theorem f_3 {K:PySem.W.Frag} {a Da:Addr} {σ:L2.St} {js:List Nat} {tt:TT} {te:TE} {QQ:Hp->Prop} {H:Hp} {as:List Addr} {ds:List Deed} (sd:Int) (ha:H a=some (.lst (as.map .ref))) (hP:Paired (DeedAt H) as ds) (hf:∀d∈ds,d.form/\d.short) (hD:H Da=none) (hsz:ds.length<=900)
 (ht:∀b d H2 (Qb:Bool->Hp->Prop),Same H H2->DeedAt H2 b d->(d.plain->Qb true H2)->(¬ d.plain->Qb false H2)->tt (b_L σ js (some (.ref b))) H2 Qb)
 (he:∀b d H2 (Q:VK),Same H H2->DeedAt H2 b d->d.form->d.short->d.plain->(∀(b':Addr) (d':Deed) (H3:Hp),Same H2 H3->DeedAt H3 b' d'->d'.plain->d'.tell sd->Q (.ref b') H3)->te (b_L σ js (some (.ref b))) H2 Q)
 (hd:∀H' bs ds',Same H H'->H' Da=some (.lst (bs.map V.ref))->Paired (DeedAt H') bs ds'->ds'.length<=ds.length->(∀d∈ds',d.plain/\d.tell sd)->QQ H'):∃W:Nat->Nat->Hp->Prop,(∃m,W 0 m (upd H Da (.lst [])))/\h_P (Itl K a) Da σ js tt te QQ W:=by
 have l:=Paired.length hP;refine e_D (K:=K) (xs:=as.map V.ref) (λi ys H5=>Same H H5/\∃(bs:List Addr) (ds':List Deed),ys=bs.map V.ref/\Paired (DeedAt H5) bs ds'/\ds'.length<=i/\∀d∈ds',d.plain/\d.tell sd) ⟨Same.upd_new hD, [], [],rfl,.nil,o_X _,by simp⟩ (λi ys H5 _ _ h=>SqL.of (h.1 _ _ ha)) ?_ ?_
 ·rintro i v ys H5 hi c ⟨s5,bs,ds',rfl,hb,hl,hg⟩
  rw[o_0] at hi;cases e:as[i]? with
  | none=>rw[e] at hi;cases hi
  | some r=>
    rw[e] at hi;obtain rfl:V.ref r=v:=o_V hi;have n:=(o_2.mp e).1;obtain⟨d,hdd⟩:∃d,ds[i]? =some d:=⟨_,o_P (by omega)⟩;obtain⟨a',e',j⟩:=b_E hP hdd;rw[e] at e';obtain rfl:r=a':=o_V e';obtain⟨f1,f2⟩:=hf d (p_e hdd);have f:=DeedAt.same s5 j;refine ht r d H5 _ s5 f (λk=>k_v (he r d H5 _ s5 f f1 f2 k λb' d' H6 s6 h1 h2 h3=> ?_)) (λ_=>d_G ⟨c,s5,bs,ds',rfl,hb,by omega,hg⟩);refine⟨s6 _ _ c,?_, λb u g=> ?_, bs++ [b'],ds'++ [d'],by rw[o_W];rfl,?_, by simp;omega,λx hx=> ?_⟩
    ·have:=Paired.length hb
     rw[o_O];exact a_4 (by omega)
    ·rw[a_i (a_h g hD)]
     exact s6 _ _ (s5 _ _ g)
    ·have tk:a_F H6 (upd H6 Da (.lst (bs.map V.ref++ [V.ref b']))):=fun b xs q=>by
      rw[a_i λz=>by rw[z,s6 _ _ c] at q;cases q];exact q
     refine b_X tk (λx hx=> ?_) (a_N (b_d s6 hb) (.cons h1 .nil));rcases o_6.mp hx with q | q
     ·exact (hg x q).1
     ·rw[o_T.mp q];exact h2
    ·rcases o_6.mp hx with q | q
     ·exact hg x q
     ·rw[o_T.mp q];exact⟨h2,h3⟩
 ·rintro ys H5 c ⟨s5,bs,ds',rfl,hb,hl,hg⟩
  rw[o_O] at hl;exact hd H5 bs ds' s5 c hb (by omega) hg
section
variable {P:Program} {w:World} {K:PySem.W.Frag} {mg:Str->Option Value} {base:Heap}
def d_p (CS CO:Addr):Sp:=λvs H Q _=>∃(l r:Addr) (ρ:Row),vs= [.int 1,.ref l]/\H l=some (.lst [.ref r])/\RowAt H r ρ/\g_J ρ.n/\∀(A:Ads) (H':Hp),SAt CS CO H' A 1 1 ⟨[ρ], []⟩->(∀b∈A.fp,H b=none)->Same H H'->Q (.ref A.o) H'
theorem c_e:a_s ["room","rows","store","row"] ["room","rows"] (a_m c_A):=⟨rfl,rfl,rfl,by decide+kernel,rfl,by decide+kernel,by decide+kernel⟩
theorem f_g {f fI fB CS CO CT CF:Addr} {fd fdI fdB:FuncData} (F:Fun K "store_with" "store_with" c_A f fd) (TS:f_k K mg CS CO) (M:Mk K CS fI) (bI:Binds K fdI ["self","room"] []) (GI:FnOk P w K mg base CX0 4 fI fdI ["self","room"] (f_D CS CO))
 (mBr:Mf K CS "bring" fB fdB ["self","row"]) (GBr:FnOk P w K mg base (CXR P w) 7 fB fdB ["self","row"] (f_X CS CO CT CF)):FnOk P w K mg base CX0 8 f fd ["room","rows"] (d_p CS CO):=by
 refine F.ok c_e (λvs H Q E h=> ?_) (λcdv A outer s H vs Q E hr h=> ?_)
 ·obtain⟨l,r,ρ,rfl,_⟩:=h
  rfl
 ·obtain⟨l,r,ρ,rfl,hl,hρ,g,fin⟩:=h
  have a:Room 5 _:=hr.mono (by decide)
  refine⟨_,a_d (a_w (i:=2) c_e.nd rfl (Or.inl rfl) (e_m M GI a rfl TS.mgS bI .nil a_u (a_a (pv 0) a_c)))
   (a_d (c_J PassesOwn.never rfl (c_C (pv 1)) (b_y (i:=3) c_e.nd rfl (Or.inl rfl)) (a_f (a_y (a_Q (pv 2) TS.cl mBr.m GBr hr mBr.b .nil m_z (a_a (pv 3) a_c))))) (a_f (a_n (pv 2)))),?_⟩
  refine⟨_,rfl,λp dx np nd ne=>⟨p,dx,1,rfl,a_b,λA H1 S e hf kp=>⟨rfl,?_⟩⟩⟩;have s1:=e_6 np nd kp;have fa:∀b∈A.fp,H b=none:=λb hb=>e_1 np nd (hf b hb);refine⟨_,rfl,l,rfl,⟨_,SqL.of (s1 _ _ hl)⟩,e_s (K:=K) (xs:= [V.ref r]) (λi σ Hx=>∃v,σ= [some (.int 1),some (.ref l),some (.ref p),v]/\Same H Hx/\∃A':Ads,A'.o=p/\(∀b∈A'.fp,H b=none)/\SAt CS CO Hx A' i 1 ⟨if i=0 then [] else [ρ], []⟩) ⟨none,rfl,s1,A,e,fa,S⟩ (λi σ Hx _ h=> ?_) ?_ ?_⟩
  ·obtain⟨v,_,sx,_⟩:=h
   exact SqL.of (sx _ _ hl)
  ·rintro i x σ Hx hx ⟨v,rfl,sx,A',e',fa',S'⟩
   cases i with
   | succ i=>simp at hx
   | zero=>
     obtain rfl:V.ref r=x:=o_V hx;subst e';have S2:SAt CS CO Hx A' 0 1 ⟨[], []⟩:=S';obtain⟨fl,j,d⟩:=S2.ob7;refine⟨_,rfl,A'.o,A'.dx,_,rfl,j,d _ (by decide+kernel) (by decide+kernel) (by decide+kernel) (by decide+kernel) (by decide+kernel) (by decide+kernel),_,rfl,A',r,ρ,0,1,⟨[], []⟩,rfl,S2,sx _ _ hρ,g,by omega,λc=> ?_, λc c2=> ?_, λc c2 A2 H2 S3 e2 F2 k=> ?_⟩
     ·simp[b_g] at c
     ·simp at c2
     ·obtain⟨q1,q2⟩:=e_j sx fa' F2
      exact⟨_,rfl,q1,A2,e2,q2,S3⟩
  ·rintro σ Hx ⟨v,rfl,sx,A',e',fa',S'⟩
   subst e';exact⟨_,rfl,fin A' Hx S' fa' sx⟩
end
def h_b (f:List Addr) (H:Hp):Hp:=λb=>if b∈f then none else H b
theorem k_c {f:List Addr} {H:Hp} {b:Addr} (hn:b∉f):h_b f H b=H b:=if_neg hn
theorem c_Z {f:List Addr} {H:Hp} {b:Addr} (h:b∈f):h_b f H b=none:=if_pos h
theorem g_t {f:List Addr} {H:Hp}:Same (h_b f H) H:=λb u h=>by
 by_cases c:b∈f
 ·rw[c_Z c] at h;cases h
 ·rw[k_c c] at h;exact h
theorem g_G {f:List Addr} {H:Hp}:∀b u,H b=some u->b∉f->h_b f H b=some u:=λb u h hn=>by rw[k_c hn];exact h
def ρz:Row:=⟨3,5,"z"⟩
def i_O (x:Str):Bool:=inV (.str x) [V.str "bring",V.str "alter",V.str "cut",V.str "begin",V.str "keep",V.str "break"]
theorem g_X {H:Hp} {a:Addr} {d:Deed} (hd:DeedAt H a d):∃(x:Str) (r:List V),H a=some (.tup (.str x::r))/\(d.plain->i_O x=true)/\(¬ d.plain->i_O x=false):=by
 cases d with
 | chg c=>
   cases c with
   | bring ρ=>obtain⟨r,h1,h2⟩:=id hd;exact⟨_,_,h1,λ_=>by decide+kernel,λq=>absurd trivial q⟩
   | alter ρ=>obtain⟨r,h1,h2⟩:=id hd;exact⟨_,_,h1,λ_=>by decide+kernel,λq=>absurd trivial q⟩
   | cut n=>exact⟨_,_,hd,λ_=>by decide+kernel,λq=>absurd trivial q⟩
 | all cs=>obtain⟨l,as,h1,_⟩:=id hd;exact⟨_,_,h1,λq=>q.elim,λ_=>by decide+kernel⟩
 | begin=>exact⟨_,_,hd,λ_=>by decide+kernel,λq=>absurd trivial q⟩
 | keep=>exact⟨_,_,hd,λ_=>by decide+kernel,λq=>absurd trivial q⟩
 | brk=>exact⟨_,_,hd,λ_=>by decide+kernel,λq=>absurd trivial q⟩
 | row n=>exact⟨_,_,hd,λq=>q.elim,λ_=>by decide+kernel⟩
 | within x lo hi=>exact⟨_,_,hd,λq=>q.elim,λ_=>by decide+kernel⟩
 | both lo hi t=>exact⟨_,_,hd,λq=>q.elim,λ_=>by decide+kernel⟩
 | «from» x k m=>exact⟨_,_,hd,λq=>q.elim,λ_=>by decide+kernel⟩
 | spot x n=>exact⟨_,_,hd,λq=>q.elim,λ_=>by decide+kernel⟩
theorem l_M (x y:Str):m_g [V.str x,V.str y]:=λv hv=>by
 rcases o_Z.mp hv with e | hv
 ·rw[e];rfl
 ·rw[o_T.mp hv];rfl
theorem j_3 (ρ:Row):m_g (c_V ρ):=λv hv=>by
 rcases o_Z.mp hv with e | hv
 ·rw[e];rfl
 rcases o_Z.mp hv with e | hv
 ·rw[e];rfl
 ·rw[o_T.mp hv];rfl
theorem c_v {n:Int} (h1: -1<=n) (h2:n<=9):n∈ML 0:=by
 have e:n=a_3 (far n) 0:=by
  have h3:far n=n:=by
   unfold far;rw[if_neg (by omega),if_neg (by omega)]
  rw[h3];unfold a_3;simp[c_6,i1]
 rw[e];exact f_5 (e_A h1 (by omega))
theorem SaidV.tk {H H':Hp} (tk:a_F H H') {x:Str} {v:V} (h:SaidV H x v):SaidV H' x v:=by
 rcases h with h | ⟨h1,t,h2,h3⟩
 ·exact .inl h
 ·exact .inr ⟨h1,t,h2,tk _ _ h3⟩
theorem SaidV.ref {H:Hp} {x:Str} {v:V} (h:SaidV H x v) (hx:¬ x="done"):∃t,v= .ref t/\H t=some (.tup [.str "refused",.str x]):=by
 rcases h with⟨h,_⟩ | ⟨_,h⟩
 ·exact absurd h hx
 ·exact h
theorem SaidV.done {H:Hp} {v:V} (h:SaidV H "done" v):v= .str "done":=by
 rcases h with⟨_,h⟩ | ⟨h,_⟩
 ·exact h
 ·exact absurd rfl h
def o_J (K:PySem.W.Frag) (CS CO:Addr):TS:=λD σ H=>∃(v0 v1 v2 v3 v5 v7 v11 v12 v13 v14:Option V) (sd room:Int) (A B:Ads) (st kd mk kl r0:Addr) (mas:List Addr) (N:Nat) (s:Sto),
 σ= [v0,v1,v2,v3,some (.int sd),v5,some (.ref A.o),v7,some (.ref B.o),some (.ref kl),some (.ref st),v11,v12,v13,v14]/\SAt CS CO H A N room s/\StoAt H st kd mk mas room s/\SAt CS CO H B 2 1 ⟨[ρz], [[ρz]]⟩/\(∀b∈A.fp,b∉B.fp)/\(∀b∈st::mk::kd::mas,b∉B.fp)/\kl∉B.fp/\
 H kl=some (.lst [.ref r0])/\RowAt H r0 ρz/\∀H',D.rt (.bl true) H'
section
variable {P:Program} {w:World} {K:PySem.W.Frag} {mg:Str->Option Value} {base:Heap}
theorem b_7:a_s ["_law_script","_law_room","_law_deeds","_law_words","_law_seed","_law_deed","_law_store","_law_handed","_law_spare","_law_kept","_law_plain","_law_k","_law_high","_law_number","_law_word"] ["_law_script"] (a_m n_q):=⟨rfl,rfl,rfl,by decide+kernel,rfl,by decide+kernel,by decide+kernel⟩
seal PySem.wpAny
theorem m_y {f fAt fRo fBr fDe fMv fSI fSw fBe fNs fRa fFa fRr fSd fAd fAn fRy fSa fOr fNo CS CO:Addr} {fd fdAt fdRo fdBr fdDe fdMv fdSI fdSw fdBe fdNs fdRa fdFa fdRr fdSd fdAd fdAn fdRy fdSa fdOr fdNo:FuncData} (F:Fun K "law" "law" n_q f fd) (B:Bt mg) (TS:f_k K mg CS CO)
 (gAt:Gf K mg "_law_at" fAt fdAt ["_law_script","_law_k"]) (GAt:FnOk P w K mg base CX0 1 fAt fdAt ["_law_script","_law_k"] (k_Z K)) (gRo:Gf K mg "_law_room_of" fRo fdRo ["_law_cell"]) (GRo:FnOk P w K mg base CX0 1 fRo fdRo ["_law_cell"] g_q)
 (gBr:Gf K mg "_law_brings_of" fBr fdBr ["_law_script"]) (GBr:FnOk P w K mg base CX0 3 fBr fdBr ["_law_script"] (d_J K)) (gDe:Gf K mg "_law_deeds_of" fDe fdDe ["_law_cells"]) (GDe:FnOk P w K mg base CX0 4 fDe fdDe ["_law_cells"] (e_Z K))
 (gMv:Gf K mg "_law_moved" fMv fdMv ["_law_deed","_law_seed"]) (GMv:FnOk P w K mg base CX0 6 fMv fdMv ["_law_deed","_law_seed"] n_0) (MS:Mk K CS fSI) (bSI:Binds K fdSI ["self","room"] []) (GSI:FnOk P w K mg base CX0 4 fSI fdSI ["self","room"] (f_D CS CO))
 (gSw:Gf K mg "store_with" fSw fdSw ["room","rows"]) (GSw:FnOk P w K mg base CX0 8 fSw fdSw ["room","rows"] (d_p CS CO)) (mBe:Mf K CS "begin" fBe fdBe ["self"]) (GBe:FnOk P w K mg base CX0 1 fBe fdBe ["self"] (f_M CS CO))
 (gNs:Gf K mg "_law_new_store" fNs fdNs ["_law_room"]) (GNs:FnOk P w K mg base CX0 1 fNs fdNs ["_law_room"] d_S) (gRa:Gf K mg "_law_raised" fRa fdRa ["_law_number","_law_seed"]) (GRa:FnOk P w K mg base CX0 2 fRa fdRa ["_law_number","_law_seed"] c_p)
 (gFa:Gf K mg "_law_far" fFa fdFa ["_law_number"]) (GFa:FnOk P w K mg base CX0 1 fFa fdFa ["_law_number"] h_M) (gRr:Gf K mg "_law_row_right" fRr fdRr ["_law_store","_law_plain","_law_number"]) (GRr:FnOk P w K mg base CX0 3 fRr fdRr ["_law_store","_law_plain","_law_number"] (d_1 CS CO))
 (gSd:Gf K mg "_law_said" fSd fdSd ["_law_store","_law_deed"]) (GSd:FnOk P w K mg base CX0 9 fSd fdSd ["_law_store","_law_deed"] (j_5 CS CO)) (gAd:Gf K mg "_law_as_due" fAd fdAd ["_law_word"]) (GAd:FnOk P w K mg base CX0 1 fAd fdAd ["_law_word"] i_z)
 (gAn:Gf K mg "_law_answered" fAn fdAn ["_law_store","_law_deed"]) (GAn:FnOk P w K mg base CX0 3 fAn fdAn ["_law_store","_law_deed"] d_B) (gRy:Gf K mg "_law_refused_by_any" fRy fdRy ["_law_store","_law_deed"]) (GRy:FnOk P w K mg base CX0 9 fRy fdRy ["_law_store","_law_deed"] (f_9 CS CO))
 (gSa:Gf K mg "_law_same" fSa fdSa ["_law_found","_law_due"]) (GSa:FnOk P w K mg base CX0 2 fSa fdSa ["_law_found","_law_due"] i_L) (gOr:Gf K mg "_law_row_or" fOr fdOr ["_law_store","_law_number"]) (GOr:FnOk P w K mg base CX0 2 fOr fdOr ["_law_store","_law_number"] (f_W CS CO))
 (gNo:Gf K mg "_law_no_order" fNo fdNo ["_law_word"]) (GNo:FnOk P w K mg base CX0 4 fNo fdNo ["_law_word"] i_m):FnOk P w K mg base CX0 10 f fd ["_law_script"] (j_0 K):=by
 refine F.ok b_7 (λvs H Q E h=> ?_) (λcdv A0 outer s H vs Q E hr h=> ?_)
 ·obtain⟨a,ns,rfl,_⟩:=h
  rfl
 ·obtain⟨a,ns,rfl,ha,hl,fin⟩:=h
  have a0:Room 9 _:=hr;have l:Room 1 _:=hr.mono (by decide);have a7:Room 2 _:=hr.mono (by decide);have b6:Room 3 _:=hr.mono (by decide);have cb:Room 4 _:=hr.mono (by decide);have f2:Room 5 _:=hr.mono (by decide);have fh:Room 6 _:=hr.mono (by decide);have dm:Room 8 _:=hr.mono (by decide);have eb:=e_u hr;have hu:=hr.units0;have cc:CS≠CO:=TS.cc
  refine⟨_,(a_d (a_w (i:=1) b_7.nd rfl (Or.inl rfl) (a_l GRo l rfl gRo.mg gRo.kp gRo.b .nil a_u (a_a (a_l GAt l rfl gAt.mg gAt.kp gAt.b .nil a_u (a_a (pv 0) (a_a a_e a_c))) a_c)))
   (a_d (a_w (i:=2) b_7.nd rfl (Or.inl rfl) (a_q j_9 (a_l GBr b6 rfl gBr.mg gBr.kp gBr.b .nil a_u (a_a (pv 0) a_c)) (a_l GDe cb rfl gDe.mg gDe.kp gDe.b .nil a_u (a_a (c_u f_U (pv 0) (d_D a_e) d_i) a_c))))
   (a_d (a_w (i:=3) b_7.nd rfl (Or.inr rfl) (a_R (a_a a_j (a_a a_j (a_a a_j (a_a a_j (a_a a_j (a_a a_j a_c))))))))
   (a_d (a_w (i:=4) b_7.nd rfl (Or.inr rfl) (a_l GAt l rfl gAt.mg gAt.kp gAt.b .nil a_u (a_a (pv 0) (a_a a_e a_c))))
   (a_d (g_7 (k:=2) (x:="_law_deed") (fns:= ["_law_words","_law_seed"]) (js:= [3,4]) rfl ⟨rfl,by decide+kernel,by decide+kernel,rfl,by decide+kernel,by decide+kernel,rfl,by simp[Env.kindOf];exact⟨rfl,rfl⟩,rfl,by decide+kernel⟩ (c_C (pv 2)) (λ_ _ _ _=>(j_A (a_k (g_Q K) (a_v (l_g K) (pv 0) a_e (λ_ _=>rfl)) (pv 1) (by with_unfolding_all rfl)))) (λ_ _ _ _=>(a_l GMv fh rfl gMv.mg gMv.kp gMv.b .nil a_u (a_a (pv 0) (a_a (pv 2) a_c)))) b_7.nd rfl (Or.inl rfl))
   (a_d (a_w (i:=6) b_7.nd rfl (Or.inl rfl) (e_m MS GSI f2 rfl TS.mgS bSI .nil a_u (a_a (pv 1) a_c)))
   (a_d (a_w (i:=7) b_7.nd rfl (Or.inl rfl) (a_R (a_a (a_A (a_a a_e (a_a a_e (a_a a_j a_c)))) a_c)))
   (a_d (a_w (i:=8) b_7.nd rfl (Or.inl rfl) (a_l GSw dm rfl gSw.mg gSw.kp gSw.b .nil a_u (a_a a_e (a_a (pv 7) a_c))))
   (a_d (a_w (i:=9) b_7.nd rfl (Or.inl rfl) (a_K e_2 (by rfl) B.list g_g (a_a (pv 7) a_c)))
   (a_d (a_y (d_a p_y PySem.F.slot_list_clear PySem.F.type_list_clear j_o (pv 7)))
   (a_d (a_y (b_5 (pv 8) TS.cl mBe.m GBe l mBe.b .nil a_u))
   (a_d (a_w (i:=10) b_7.nd rfl (Or.inl rfl) (a_l GNs l rfl gNs.mg gNs.kp gNs.b .nil a_u (a_a (pv 1) a_c)))
   (a_d (c_J PassesOwn.never rfl (c_s rfl B.range (a_a (a_r a_x (by rfl) B.len p_x (a_a (pv 2) a_c)) a_c)) (b_y (i:=11) b_7.nd rfl (Or.inl rfl))
   (a_d (a_w (i:=12) b_7.nd rfl (Or.inl rfl) (a_l GRa a7 rfl gRa.mg gRa.kp gRa.b .nil a_u (a_a (a_l GFa l rfl gFa.mg gFa.kp gFa.b .nil a_u (a_a (a_q b_N (a_q a_I (pv 11) a_e) a_e) a_c)) (a_a (pv 4) a_c))))
   (a_d (a_B (c_L (c_a (a_l GRr b6 rfl gRr.mg gRr.kp gRr.b .nil a_u (a_a (pv 6) (a_a (pv 10) (a_a (pv 12) a_c)))))) (a_f (a_n b_6)) a_p)
   (a_f (a_B (a_k (c_O.or (h_F hu)) (a_l GSd a0 rfl gSd.mg gSd.kp gSd.b .nil a_u (a_a (pv 6) (a_a (a_v a_M (pv 2) (pv 11) (λ_ _=>rfl)) a_c))) (a_l GAd l rfl gAd.mg gAd.kp gAd.b .nil a_u (a_a (a_l GAn b6 rfl gAn.mg gAn.kp gAn.b .nil a_u (a_a (pv 10) (a_a (a_v a_M (pv 2) (pv 11) (λ_ _=>rfl)) a_c))) a_c)) (a_o _)) (a_f (a_n b_6)) a_p)))))
   (j_d (t':=o_J K CS CO) (a_d (a_B (a_k (h_F hu) (a_l GSd a0 rfl gSd.mg gSd.kp gSd.b .nil a_u (a_a (pv 8) (a_a (a_A (a_a a_j (a_a (a_A (a_a a_e (a_a a_e (a_a a_j a_c)))) a_c))) a_c))) (a_A (a_a a_j (a_a a_j a_c))) (a_o _)) (a_f (a_n b_6)) a_p)
   (a_d (c_J PassesOwn.never rfl (c_C (a_R (a_a (a_A (a_a a_j (a_a (a_A (a_a a_e (a_a a_e (a_a a_j a_c)))) a_c))) (a_a (a_A (a_a a_j (a_a (a_A (a_a a_e (a_a a_e (a_a a_j a_c)))) a_c))) (a_a (a_A (a_a a_j (a_a a_e a_c))) a_c))))) (b_y (i:=5) b_7.nd rfl (Or.inl rfl))
   (a_f (a_B (c_L (c_a (a_l GRy a0 rfl gRy.mg gRy.kp gRy.b .nil a_u (a_a (pv 8) (a_a (pv 5) a_c))))) (a_f (a_n b_6)) a_p)))
   (a_d (a_B (PW.pt (d_I (a_k c_O (a_l GSd a0 rfl gSd.mg gSd.kp gSd.b .nil a_u (a_a (pv 8) (a_a (a_A (a_a a_j (a_a a_e a_c))) a_c))) a_j (a_o _)) (b_9 (a_k (l_p eb) (pv 9) (a_R (a_a (a_A (a_a a_e (a_a a_e (a_a a_j a_c)))) a_c)) (a_o _))))) (a_f (a_n b_6)) a_p)
   (a_d (a_B (a_k c_O (a_l GSd a0 rfl gSd.mg gSd.kp gSd.b .nil a_u (a_a (pv 8) (a_a (a_A (a_a a_j a_c)) a_c))) a_j (a_o _)) (a_f (a_n b_6)) a_p)
   (a_d (a_B (c_L (c_a (a_l GRy a0 rfl gRy.mg gRy.kp gRy.b .nil a_u (a_a (pv 8) (a_a (a_A (a_a a_j a_c)) a_c))))) (a_f (a_n b_6)) a_p)
   (a_d (c_J PassesOwn.never rfl (h_0 rfl B.range (a_a (m_K j_4 a_e) (a_a a_e a_c))) (b_y (i:=13) b_7.nd rfl (Or.inl rfl))
   (a_f (a_B (c_L (c_a (a_l GRr b6 rfl gRr.mg gRr.kp gRr.b .nil a_u (a_a (pv 6) (a_a (pv 10) (a_a (a_l GRa a7 rfl gRa.mg gRa.kp gRa.b .nil a_u (a_a (a_l GFa l rfl gFa.mg gFa.kp gFa.b .nil a_u (a_a (pv 13) a_c)) (a_a (pv 4) a_c))) a_c)))))) (a_f (a_n b_6)) a_p)))
   (a_d (a_B (c_L (c_a (a_l GSa a7 rfl gSa.mg gSa.kp gSa.b .nil a_u (a_a (a_l GOr a7 rfl gOr.mg gOr.kp gOr.b .nil a_u (a_a (pv 8) (a_a a_e a_c))) (a_a (a_A (a_a a_e (a_a a_e (a_a a_j a_c)))) a_c))))) (a_f (a_n b_6)) a_p)
   (a_d (c_J PassesOwn.never rfl (c_C (a_R (a_a a_j (a_a a_j (a_a a_j (a_a a_j (a_a a_j (a_a a_j a_c)))))))) (b_y (i:=14) b_7.nd rfl (Or.inl rfl))
   (a_f (a_B (c_L (c_a (a_l GNo cb rfl gNo.mg gNo.kp gNo.b .nil a_u (a_a (pv 14) a_c)))) (a_f (a_n b_6)) a_p)))
   (a_f (a_n (b_J (l_j hu) (a_l GOr a7 rfl gOr.mg gOr.kp gOr.b .nil a_u (a_a (pv 8) (a_a a_e a_c))) (a_A (a_a a_j (a_a a_j a_c))) (a_o _)))))))))))) (by
   rintro D σ H ⟨v0,v1,v2,v3,v5,v7,W,T,f8,co,sd,room,A,B2,st,kd,mk,kl,r0,mas,N,so,rfl,SA,SP,SB,d1,d2,d3,ekl,er,fin⟩;have keepS:∀b u,H b=some u->b∉B2.fp->h_b B2.fp H b=some u:=g_G;have tkS:=Kd.tup keepS SB.kd;have SAs:=SA.off cc keepS SB.kd d1;have SPs:=SP.off keepS tkS d2;have ekls:=keepS _ _ ekl d3;have ers:RowAt (h_b B2.fp H) r0 ρz:=tkS _ _ er;have L0:Lq CS CO (h_b B2.fp H) H B2 B2.o 2 1 ⟨[ρz], [[ρz]]⟩:=⟨SB,rfl,g_t,λb hb=>c_Z hb⟩;generalize h_b B2.fp H=Hs at SAs SPs ekls ers L0;generalize B2.o=bo at L0 ⊢;clear SA SP SB d1 d2 d3 ekl er keepS tkS
   -- a second row has no room
   refine⟨_,rfl,by show 3<=sizeLine;decide,λr1 l=>⟨by show 2<=sizeLine;decide,λt1 cn=> ?_⟩⟩;have s1:=Same.upd_new (o:= .tup [V.int 4,V.int 0,V.str "a"]) l;have e1:RowAt (upd H r1 (.tup [V.int 4,V.int 0,V.str "a"])) r1 ⟨4,0,"a"⟩:=a_b;generalize upd H r1 (.tup [V.int 4,V.int 0,V.str "a"])=H1 at s1 e1 cn ⊢;have s2:=Same.upd_new (o:= .tup [V.str "bring",V.ref r1]) cn;have e2:(upd H1 t1 (.tup [V.str "bring",V.ref r1])) t1=some (.tup [V.str "bring",V.ref r1]):=a_b;generalize upd H1 t1 (.tup [V.str "bring",V.ref r1])=H2 at s2 e2 ⊢;have L2:=L0.same (s1.trans s2);refine⟨B2,t1,.chg (.bring ⟨4,0,"a"⟩),2,1,0,⟨[ρz], [[ρz]]⟩,by rw[L2.o];rfl,L2.S,⟨r1,e2,s2 _ _ e1⟩,trivial,c_v (by decide) (by decide),by omega,λv3 B3 H3 S3 f0 F3 ca cd=> ?_⟩;have L3:=L2.said S3 f0 F3;obtain⟨q1,rfl,cv⟩:=cd.ref (by decide+kernel);refine⟨by show 2<=sizeLine;decide,λt4 dt=> ?_⟩;have s4:=Same.upd_new (o:= .tup [V.str "refused",V.str "full"]) dt;refine⟨q1,t4,_,rfl,rfl,SqT.of (s4 _ _ cv),SqT.of a_b,l_M _ _,_,rfl,d_G ?_⟩;generalize upd H3 t4 (.tup [V.str "refused",V.str "full"])=H4 at s4 ⊢;have L4:Lq CS CO Hs H4 B3 bo 3 1 ⟨[ρz], [[ρz]]⟩:=L3.same s4;clear cd cv L0 L2 L3
   -- each refusal is a StoreError
   refine⟨by show 3<=sizeLine;decide,λra f4=>⟨by show 2<=sizeLine;decide,λta cg=>⟨by show 3<=sizeLine;decide,λrb br=>⟨by show 2<=sizeLine;decide,λtb b0=>⟨by show 2<=sizeLine;decide,λtc a5=>⟨by show 3<=sizeLine;decide,λtl C=> ?_⟩⟩⟩⟩⟩⟩;have s5:=Same.upd_new (o:= .tup [V.int 4,V.int 0,V.str "a"]) f4;have e5:RowAt (upd H4 ra (.tup [V.int 4,V.int 0,V.str "a"])) ra ⟨4,0,"a"⟩:=a_b;generalize upd H4 ra (.tup [V.int 4,V.int 0,V.str "a"])=H5 at s5 e5 cg br b0 a5 C ⊢;have s6:=Same.upd_new (o:= .tup [V.str "bring",V.ref ra]) cg;have e6:(upd H5 ta (.tup [V.str "bring",V.ref ra])) ta=some (.tup [V.str "bring",V.ref ra]):=a_b;generalize upd H5 ta (.tup [V.str "bring",V.ref ra])=H6 at s6 e6 br b0 a5 C ⊢;have s7:=Same.upd_new (o:= .tup [V.int 3,V.int 0,V.str "a"]) br;have e7:RowAt (upd H6 rb (.tup [V.int 3,V.int 0,V.str "a"])) rb ⟨3,0,"a"⟩:=a_b;generalize upd H6 rb (.tup [V.int 3,V.int 0,V.str "a"])=H7 at s7 e7 b0 a5 C ⊢;have s8:=Same.upd_new (o:= .tup [V.str "bring",V.ref rb]) b0;have e8:(upd H7 tb (.tup [V.str "bring",V.ref rb])) tb=some (.tup [V.str "bring",V.ref rb]):=a_b;generalize upd H7 tb (.tup [V.str "bring",V.ref rb])=H8 at s8 e8 a5 C ⊢;have s9:=Same.upd_new (o:= .tup [V.str "cut",V.int 4]) a5;have e9:(upd H8 tc (.tup [V.str "cut",V.int 4])) tc=some (.tup [V.str "cut",V.int 4]):=a_b;generalize upd H8 tc (.tup [V.str "cut",V.int 4])=H9 at s9 e9 C ⊢;have X:=Same.upd_new (o:= .lst [V.ref ta,V.ref tb,V.ref tc]) C;have aw:(upd H9 tl (.lst [V.ref ta,V.ref tb,V.ref tc])) tl=some (.lst [V.ref ta,V.ref tb,V.ref tc]):=a_b;generalize upd H9 tl (.lst [V.ref ta,V.ref tb,V.ref tc])=R at X aw ⊢;have ag:=s9.trans X;have ak:=(s7.trans s8).trans ag;have be:=L4.same ((s5.trans s6).trans ak);have Ea:DeedAt R ta (.chg (.bring ⟨4,0,"a"⟩)):=⟨ra,ak _ _ e6,(s6.trans ak) _ _ e5⟩;have Eb:DeedAt R tb (.chg (.bring ⟨3,0,"a"⟩)):=⟨rb,ag _ _ e8,(s8.trans ag) _ _ e7⟩;have Ec:DeedAt R tc (.chg (.cut 4)):=X _ _ e9;refine⟨tl,rfl,⟨_,SqL.of aw⟩,e_s (K:=K) (xs:= [V.ref ta,V.ref tb,V.ref tc]) (λi σ Hx=>∃a8,σ= [v0,v1,v2,v3,some (.int sd),a8,some (.ref A.o),v7,some (.ref bo),some (.ref kl),some (.ref st),W,T,f8,co]/\Same R Hx) ⟨_,rfl,Same.refl _⟩ (λi σ Hx _ h=>SqL.of (h.elim λ_ q=>q.2 _ _ aw)) ?_ ?_⟩
   ·rintro i x σ Hx hx ⟨a8,rfl,sx⟩
    have Lx:=be.same sx
    have hz:∃t d,x=V.ref t/\DeedAt Hx t d/\d.plain/\d.tell 0/\¬ b_z 1 ⟨[ρz], [[ρz]]⟩ d="done":=by
     match i,hx with
     | 0,hx=>obtain rfl:=o_V hx;exact⟨_,_,rfl,DeedAt.same sx Ea,trivial,c_v (by decide) (by decide),by decide+kernel⟩
     | 1,hx=>obtain rfl:=o_V hx;exact⟨_,_,rfl,DeedAt.same sx Eb,trivial,c_v (by decide) (by decide),by decide+kernel⟩
     | 2,hx=>obtain rfl:=o_V hx;exact⟨_,_,rfl,DeedAt.same sx Ec,trivial,c_v (by decide) (by decide),by decide+kernel⟩
     | n+3,hx=>simp at hx
    obtain⟨t,d,rfl,h1,h2,h3,h4⟩:=hz;exact⟨_,rfl,_,rfl,B3,t,d,3,1,0,_,by rw[Lx.o];rfl,Lx.S,h1,h2,h3,by omega,h4,λH' s'=>⟨_,rfl,d_G ⟨_,rfl,sx.trans s'⟩⟩⟩
   rintro σ ad ⟨a8,rfl,v⟩;have cw:=be.same v;clear L4 be Ea Eb Ec e5 e6 e7 e8 e9 aw
   -- its own row is cut
   refine⟨_,rfl,by show 2<=sizeLine;decide,λav d5=> ?_⟩;have a9:=Same.upd_new (o:= .tup [V.str "cut",V.int 3]) d5;have c9:(upd ad av (.tup [V.str "cut",V.int 3])) av=some (.tup [V.str "cut",V.int 3]):=a_b;generalize upd ad av (.tup [V.str "cut",V.int 3])=H12 at a9 c9 ⊢;have b7:=cw.same a9;refine⟨B3,av,.chg (.cut 3),3,1,0,⟨[ρz], [[ρz]]⟩,by rw[b7.o];rfl,b7.S,c9,trivial,c_v (by decide) (by decide),by omega,λG B4 U dl fb eg fm dd=> ?_⟩;have c6:Lq CS CO Hs U B4 bo 4 1 ⟨[], [[ρz]]⟩:=b7.said dl fb eg;obtain rfl:G= .str "done":=SaidV.done (H:=U) dd;refine⟨rfl,_,rfl,h_2 rfl ?_⟩
   -- what was handed in
   refine⟨_,rfl,by show 3<=sizeLine;decide,λJ dg=>⟨by show 1<=sizeLine;decide,λax bd=> ?_⟩⟩;have a1:=Same.upd_new (o:= .tup [V.int 3,V.int 5,V.str "z"]) dg;have cs:(upd U J (.tup [V.int 3,V.int 5,V.str "z"])) J=some (.tup (c_V ρz)):=a_b;generalize upd U J (.tup [V.int 3,V.int 5,V.str "z"])=H14 at a1 cs bd ⊢;have a6:=Same.upd_new (o:= .lst [V.ref J]) bd;have c2:(upd H14 ax (.lst [V.ref J])) ax=some (.lst [V.ref J]):=a_b;generalize upd H14 ax (.lst [V.ref J])=H15 at a6 c2 ⊢;have b5:=c6.same (a1.trans a6);refine⟨kl,ax,r0,J,_,rfl,rfl,b5.sm _ _ ekls,c2,SqT.of (b5.sm _ _ ers),SqT.of (a6 _ _ cs),j_3 _,_,rfl,d_G ?_⟩
   -- broken off
   refine⟨_,rfl,by show 1<=sizeLine;decide,λb4 dh=> ?_⟩;have b3:=Same.upd_new (o:= .tup [V.str "break"]) dh;have c1:(upd H15 b4 (.tup [V.str "break"])) b4=some (.tup [V.str "break"]):=a_b;generalize upd H15 b4 (.tup [V.str "break"])=ae at b3 c1 ⊢;have ar:=b5.same b3;refine⟨B4,b4,.brk,4,1,0,⟨[], [[ρz]]⟩,by rw[ar.o];rfl,ar.S,c1,trivial,trivial,by omega,λff B5 g ek e4 ey fn d7=> ?_⟩;have c8:Lq CS CO Hs g B5 bo 5 1 ⟨[ρz], []⟩:=ar.said ek e4 ey;obtain rfl:ff= .str "done":=SaidV.done (H:=g) d7;refine⟨rfl,_,rfl,h_2 rfl ?_⟩
   -- nothing is begun
   refine⟨_,rfl,by show 1<=sizeLine;decide,λay de=> ?_⟩;have c3:=Same.upd_new (o:= .tup [V.str "keep"]) de;have c5:(upd g ay (.tup [V.str "keep"])) ay=some (.tup [V.str "keep"]):=a_b;generalize upd g ay (.tup [V.str "keep"])=H18 at c3 c5 ⊢;have ap:=c8.same c3;refine⟨B5,ay,.keep,5,1,0,⟨[ρz], []⟩,by rw[ap.o];rfl,ap.S,c5,trivial,trivial,by omega,by decide+kernel,λdu f1=>⟨_,rfl,d_G ?_⟩⟩;have c7:=ap.same f1;clear cw b7 c6 b5 ar c8 ap
   -- each number
   refine⟨_,rfl,-1,27,rfl,⟨by decide,by decide,by decide,by decide⟩,b_R (lo:= -1) (n:=((27:Int) - -1).toNat) (λi σ Hx=>∃G,σ= [v0,v1,v2,v3,some (.int sd),a8,some (.ref A.o),v7,some (.ref bo),some (.ref kl),some (.ref st),W,T,G,co]/\Same du Hx) ⟨_,rfl,Same.refl _⟩ ?_ ?_⟩
   ·rintro i σ Hx hi ⟨G,rfl,sx⟩
    have dz:i < 28:=hi;refine⟨_,rfl,_,rfl,_,rfl,_,rfl,λfx cm=>⟨_,rfl,_,_,rfl,?_⟩⟩;have sm:=c7.sm.trans (sx.trans cm);have cr:=SPs.same sm;exact⟨A,_,N,room,room,so,st,kd,mk,rfl,SAs.same sm,b_s (g_u (by omega) (by omega)),cr.sto,cr.kept,λfu fc=>⟨_,rfl,d_G ⟨_,rfl,sx.trans (cm.trans fc)⟩⟩⟩
   rintro σ fz ⟨G,rfl,e0⟩;have bc:=c7.same e0
   -- the row that is there again
   refine⟨_,rfl,B5,3,5,1,⟨[ρz], []⟩,by rw[bc.o];rfl,bc.S,e_i (by decide) (by decide),λeh bx ed dq=> ?_⟩;refine⟨by show 3<=sizeLine;decide,λau dk=> ?_⟩;have bn:=Same.upd_new (o:= .tup [V.int 3,V.int 5,V.str "z"]) dk;have cy:(upd bx au (.tup [V.int 3,V.int 5,V.str "z"])) au=some (.tup (c_V ρz)):=a_b;generalize upd bx au (.tup [V.int 3,V.int 5,V.str "z"])=H22 at bn cy ⊢;refine⟨j_k ρz,eh,.ref au,rfl,Bears.same bn dq,RowAt.bears cy,by rw[m_Y];decide,λc4 em=>⟨_,rfl,d_G ?_⟩⟩;have ei:=bc.same ((ed.trans bn).trans em)
   -- words that no order has
   refine⟨by show 6<=sizeLine;decide,λaq d9=> ?_⟩;have cj:=Same.upd_new (o:= .lst [V.str "ranks",V.str "",V.str "Rank",V.str "text ",V.str "rank ",V.str "number"]) d9;have bu:(upd c4 aq (.lst [V.str "ranks",V.str "",V.str "Rank",V.str "text ",V.str "rank ",V.str "number"])) aq=some (.lst [V.str "ranks",V.str "",V.str "Rank",V.str "text ",V.str "rank ",V.str "number"]):=a_b;generalize upd c4 aq (.lst [V.str "ranks",V.str "",V.str "Rank",V.str "text ",V.str "rank ",V.str "number"])=H24 at cj bu ⊢;refine⟨aq,rfl,⟨_,SqL.of bu⟩,e_s (K:=K) (xs:= [V.str "ranks",V.str "",V.str "Rank",V.str "text ",V.str "rank ",V.str "number"]) (λi σ Hx=>∃ah,σ= [v0,v1,v2,v3,some (.int sd),a8,some (.ref A.o),v7,some (.ref bo),some (.ref kl),some (.ref st),W,T,G,ah]/\Same H24 Hx) ⟨_,rfl,Same.refl _⟩ (λi σ Hx _ h=>SqL.of (h.elim λ_ q=>q.2 _ _ bu)) ?_ ?_⟩
   ·rintro i x σ Hx hx ⟨ah,rfl,sx⟩
    have hz:∃y:Str,x=V.str y/\d_d y=none/\(PySem.reprText y).length<=1000:=by
     match i,hx with
     | 0,hx=>obtain rfl:=o_V hx;exact⟨_,rfl,by decide+kernel,by decide+kernel⟩
     | 1,hx=>obtain rfl:=o_V hx;exact⟨_,rfl,by decide+kernel,by decide+kernel⟩
     | 2,hx=>obtain rfl:=o_V hx;exact⟨_,rfl,by decide+kernel,by decide+kernel⟩
     | 3,hx=>obtain rfl:=o_V hx;exact⟨_,rfl,by decide+kernel,by decide+kernel⟩
     | 4,hx=>obtain rfl:=o_V hx;exact⟨_,rfl,by decide+kernel,by decide+kernel⟩
     | 5,hx=>obtain rfl:=o_V hx;exact⟨_,rfl,by decide+kernel,by decide+kernel⟩
     | n+6,hx=>simp at hx
    obtain⟨y,rfl,h1,h2⟩:=hz;exact⟨_,rfl,y,rfl,h1,h2,λH' s'=>⟨_,rfl,d_G ⟨_,rfl,sx.trans s'⟩⟩⟩
   rintro σ fv ⟨ah,rfl,dw⟩;have ck:=ei.same (cj.trans dw)
   -- no other row
   refine⟨_,rfl,B5,4,5,1,⟨[ρz], []⟩,by rw[ck.o];rfl,ck.S,e_i (by decide) (by decide),λej ez ft ee=> ?_⟩;have di:Bears ez (.tup [.str "refused",.str "missing"]) ej:=ee;refine⟨by show 2<=sizeLine;decide,λdv d8=> ?_⟩;have en:=Same.upd_new (o:= .tup [V.str "refused",V.str "missing"]) d8;cases di with
   | tup h1 h2=>
     cases h2 with
     | cons a b=>
       cases a;cases b with
       | cons a b=>
         cases a;cases b;exact⟨_,dv,_,rfl,rfl,SqT.of (en _ _ h1),SqT.of a_b,l_M _ _,fin _⟩))))))))))))))),?_⟩
  refine⟨_,rfl,a,ns,0,rfl,ha,by omega,by decide,by decide,λH1 s1=>⟨_,rfl,λroom H2 s2=> ?_⟩⟩;have a9:=s1.trans s2;refine⟨_,rfl,a,ns,rfl,a9.seq ha,by omega,λl1 cq H3 fs s3 f6 cx=> ?_⟩;have c0:=a9.trans s3;refine⟨_,rfl,_,rfl,a,_,rfl,c0.seq ha,λp hp=> ?_⟩;obtain⟨ns',ec,g0⟩:=i_X ns (some 4) none;have s4:=Same.upd_new (o:= .lst (h_9 (ns.map V.int) (some 4) none)) hp;refine⟨p,ns',rfl,by rw[<-ec];exact SqL.of a_b,by omega,λl2 cz H5 fw s5 fi bz=> ?_⟩;have bp:=s4.trans s5;have a6:=c0.trans bp;obtain⟨a4,e1,P1⟩:=f6;obtain⟨af,e2,P2⟩:=fi;have g4:=Paired.length P1;have fo:=Paired.length P2;have fq:=cx.1;have fy:=bz.1;refine⟨l1,l2,_,_,rfl,rfl,bp _ _ e1,e2,by rw[o_O,o_O];exact Nat.le_of_lt (a_4 (by omega)),λl3 eq=> ?_⟩;have s6:=Same.upd_new (o:= .lst (a4.map V.ref++af.map V.ref)) eq;have e3:(upd H5 l3 (.lst (a4.map V.ref++af.map V.ref))) l3=some (.lst ((a4++af).map V.ref)):=by rw[a_b,o_W]
  generalize upd H5 l3 (.lst (a4.map V.ref++af.map V.ref))=H6 at s6 e3 ⊢;have b3:=a6.trans s6;have P3:Paired (DeedAt H6) (a4++af) (cq++cz):=a_N (b_d (bp.trans s6) (l_I P1)) (b_d s6 (l_I P2))
  have ev:∀d∈cq++cz,d.form/\d.short:=λd hd=>by
   rcases o_6.mp hd with q | q
   ·exact cx.2 d q
   ·exact bz.2 d q
  -- the words,the seed
  refine⟨by show 6<=sizeLine;decide,λwl f5=> ?_⟩;have s7:=Same.upd_new (o:= .lst [V.str "bring",V.str "alter",V.str "cut",V.str "begin",V.str "keep",V.str "break"]) f5;have ew:(upd H6 wl (.lst [V.str "bring",V.str "alter",V.str "cut",V.str "begin",V.str "keep",V.str "break"])) wl=some (.lst [V.str "bring",V.str "alter",V.str "cut",V.str "begin",V.str "keep",V.str "break"]):=a_b;generalize upd H6 wl (.lst [V.str "bring",V.str "alter",V.str "cut",V.str "begin",V.str "keep",V.str "break"])=H7 at s7 ew ⊢;refine⟨_,rfl,a,ns,3,rfl,(b3.trans s7).seq ha,by omega,by decide,by decide,λH8 s8=> ?_⟩;have bb:=s7.trans s8;have P8:=b_d bb P3;refine⟨_,rfl,l3,rfl,⟨_,SqL.of (bb _ _ e3)⟩,λDa el=>f_3 (atF ns 3) (bb _ _ e3) P8 ev el (by rw[o_Q];omega) ?_ ?_ ?_⟩
  ·intro b d Hx Qb sx hd k1 k2
   obtain⟨x,r,h1,h2,h3⟩:=g_X hd;refine⟨_,rfl,b,_,_,_,rfl,rfl,SqT.of h1,a_g (j:=0) rfl,_,rfl,wl,_,rfl,.inl (SqL.of ((s8.trans sx) _ _ ew)),rfl,rfl,_,rfl,?_⟩;by_cases c:d.plain
   ·have:=k1 c
    rw[<-h2 c] at this;exact this
   ·have:=k2 c
    rw[<-h3 c] at this;exact this
  ·intro b d Hx Qx sx hd hf hs ab k
   exact⟨_,rfl,_,rfl,b,d,_,rfl,hd,hf,hs,λb' d' Hz sz h1 h2 h3 h4 h5=>k b' d' Hz sz h1 (h5.2 ab) h3⟩
  intro H9 as ds s9 e9 P9 ea ac;rw[o_Q] at ea;have fr:=Paired.length P9
  -- Store(room)
  refine⟨_,rfl,λp0 dy np nd ne=>⟨p0,dy,room,rfl,a_b,λA R b1 eA eo kpA=>⟨rfl,?_⟩⟩⟩;have X:=e_6 np nd kpA;have da:∀b∈A.fp,H9 b=none:=λb hb=>e_1 np nd (eo b hb)
  -- handed,spare
  refine⟨by show 3<=sizeLine;decide,λr0 es=>⟨by show 1<=sizeLine;decide,λhd b2=> ?_⟩⟩;have v:=Same.upd_new (o:= .tup [V.int 3,V.int 5,V.str "z"]) es;have cp:(upd R r0 (.tup [V.int 3,V.int 5,V.str "z"])) r0=some (.tup [V.int 3,V.int 5,V.str "z"]):=a_b;generalize upd R r0 (.tup [V.int 3,V.int 5,V.str "z"])=ad at v cp b2 ⊢;have I:=Same.upd_new (o:= .lst [V.ref r0]) b2;have ehd:(upd ad hd (.lst [V.ref r0])) hd=some (.lst [V.ref r0]):=a_b;generalize upd ad hd (.lst [V.ref r0])=H12 at I ehd ⊢;have bm:=(X.trans v).trans I;have ba:RowAt H12 r0 ρz:=I _ _ cp;refine⟨_,rfl,hd,r0,ρz,rfl,ehd,ba,e_i (by decide) (by decide),λB1 U ce bf a2=> ?_⟩
  -- kept
  refine⟨_,rfl,hd,_,rfl,.inl (SqL.of (a2 _ _ ehd)),λkl Z=> ?_⟩;have a1:=Same.upd_new (o:= .lst [V.ref r0]) Z;have ekl:(upd U kl (.lst [V.ref r0])) kl=some (.lst [V.ref r0]):=a_b;generalize upd U kl (.lst [V.ref r0])=H14 at a1 ekl ⊢;have M:=a2.trans a1;have al:=M _ _ ehd
  -- handed.clear()
  refine⟨_,rfl,.inl ⟨rfl,_,SqL.of al⟩,hd,_,rfl,rfl,al,?_⟩;have keep15:∀b u,H14 b=some u->b∉ [hd]->(upd H14 hd (.lst [])) b=some u:=λb u e hn=>by rw[a_i λq=>hn (by rw[q];exact o_T.mpr rfl)];exact e
  have am:∀b∈ [hd],∀u,H14 b=some u->Kd CS u:=λb hb u e=>by
   rw[o_T.mp hb,al] at e;cases e;exact .inl ⟨_,rfl⟩
  have bs:=Kd.tup keep15 am;have nA:hd∉A.fp:=(b1.same v).no b2;have nB:hd∉B1.fp:=λhb=>by rw[bf hd hb] at ehd;cases ehd
  have dAB:∀b∈A.fp,b∉B1.fp:=λb hb hc=>by
   obtain⟨u,q,_⟩:=b1.there b hb;have:=(v.trans I) _ _ q;rw[bf b hc] at this;cases this
  have an:SAt CS CO (upd H14 hd (.lst [])) A 0 room ⟨[], []⟩:=(b1.same ((v.trans I).trans M)).off cc keep15 am λb hb hc=>nA (by rw[o_T.mp hc] at hb;exact hb);have a3:SAt CS CO (upd H14 hd (.lst [])) B1 1 1 ⟨[ρz], []⟩:=(ce.same a1).off cc keep15 am λb hb hc=>nB (by rw[o_T.mp hc] at hb;exact hb);have b8:=bm.trans M;have nk:kl≠hd:=λz=>by rw[z] at Z;rw[a2 _ _ ehd] at Z;cases Z
  have O:(upd H14 hd (.lst [])) kl=some (.lst [V.ref r0]):=by rw[a_i nk];exact ekl
  have bg:RowAt (upd H14 hd (.lst [])) r0 ρz:=bs _ _ (M _ _ ba);have ex:H9 hd=none:=(X.trans v).free b2;have bl:(upd H14 hd (.lst [])) Da=some (.lst (as.map V.ref)):=by rw[a_i (a_h e9 ex)];exact b8 _ _ e9
  have ci:Paired (DeedAt (upd H14 hd (.lst []))) as ds:=b_X bs (λd q=>(ac d q).1) (b_d b8 P9);have d6:Da∉A.fp:=λq=>by rw[da Da q] at e9;cases e9
  have d4:Da∉B1.fp:=λq=>by have:=bm _ _ e9;rw[bf Da q] at this;cases this
  have bh:kl∉B1.fp:=ce.no Z;generalize upd H14 hd (.lst [])=H15 at an a3 O bg bl ci ⊢
  -- spare.begin()
  obtain⟨fl,fe,dr⟩:=a3.ob7;refine⟨_,rfl,B1.o,B1.dx,_,rfl,fe,dr _ (by decide+kernel) (by decide+kernel) (by decide+kernel) (by decide+kernel) (by decide+kernel) (by decide+kernel),B1,1,1,⟨[ρz], []⟩,rfl,a3,by omega,λB2 ae bk eB aa bi=> ?_⟩;have bj:SAt CS CO ae A 0 room ⟨[], []⟩:=an.off cc aa.keep a3.kd dAB;have az:=aa.keep _ _ O bh;have df:RowAt ae r0 ρz:=bi _ _ bg;have bv:=aa.keep _ _ bl d4;have f9:=b_X bi (λd q=>(ac d q).1) ci
  have dj:∀b∈A.fp,b∉B2.fp:=λb hb hc=>by
   rcases aa.new b hc with z | z
   ·exact dAB b hb z
   ·exact an.no z hb
  have db:kl∉B2.fp:=λq=>by
   rcases aa.new kl q with z | z
   ·exact bh z
   ·rw[z] at O;cases O
  have fk16A:kl∉A.fp:=λq=>by
   obtain⟨u,z,_⟩:=b1.there kl q;rw[(v.trans (I.trans a2)).free Z] at z;cases z
  -- plain
  refine⟨_,rfl,room,rfl,λst kd mk g fk f7 ep fj Y g1 g2 g3=> ?_⟩;have St:StoAt g st kd mk [] room ⟨[], []⟩:=⟨g1,⟨[],g2,.nil⟩,g3,.nil,by simp at fj ⊢;grind⟩;have pf:∀b∈ [st,mk,kd],ae b=none:=by simp[fk,f7,ep]
  have keepS:∀b u,g b=some u->b∉A.fp++ [st,mk,kd]->h_b (A.fp++ [st,mk,kd]) g b=some u:=g_G;have bt:=bj.same Y
  have kdS:∀b∈A.fp++ [st,mk,kd],∀u,g b=some u->Kd CS u:=λb hb u e=>by
   rcases o_6.mp hb with q | q
   ·exact bt.kd b q u e
   ·exact St.kd b q u e
  have tkS:=Kd.tup keepS kdS
  have dn:∀{b u},ae b=some u->b∉A.fp->b∉A.fp++ [st,mk,kd]:=λ{b u} e hn hb=>by
   rcases o_6.mp hb with q | q
   ·exact hn q
   ·rw[pf b q] at e;cases e
  have SBs:SAt CS CO (h_b (A.fp++ [st,mk,kd]) g) B2 2 1 ⟨[ρz], [[ρz]]⟩:=(bk.same Y).off cc keepS kdS λb hb=>by
   obtain⟨u,q,_⟩:=bk.there b hb;exact dn q λz=>dj b z hb
  have ekls:=keepS _ _ (Y _ _ az) (dn az fk16A);have ers:RowAt (h_b (A.fp++ [st,mk,kd]) g) r0 ρz:=tkS _ _ (Y _ _ df);have eDs:=keepS _ _ (Y _ _ bv) (dn bv d6);have Ps:=b_X tkS (λd q=>(ac d q).1) (b_d Y f9)
  have L0:Lp CS CO (h_b (A.fp++ [st,mk,kd]) g) g A p0 st kd mk [] 0 room ⟨[], []⟩ ⟨[], []⟩:=⟨bt,eA,St,g_t,λb hb=>c_Z (p_n _ hb),λb hb=>c_Z (o_1 _ hb),λb hb hc=>by
   obtain⟨u,q,_⟩:=bj.there b hb;rw[pf b hc] at q;cases q⟩
  generalize h_b (A.fp++ [st,mk,kd]) g=Hs at SBs ekls ers eDs Ps L0;have f3:(⟨[], []⟩:Sto).inML (atF ns 3):=⟨by simp,by simp⟩;have eu:(⟨[], []⟩:Sto).nums:=⟨by simp[c_m],by simp⟩
  -- the n_6
  refine⟨_,rfl,Da,_,rfl,.inl (SqL.of (L0.sm _ _ eDs)),_,rfl,by omega,by rw[o_O];omega,b_R (lo:=0) (n:=((((as.map V.ref).length:Nat):Int)).toNat) (λi σ Hx=>∃(Ai:Ads) (kd':Addr) (mas':List Addr) (W T:Option V),σ= [some (.ref a),some (.int room),some (.ref Da),some (.ref wl),some (.int (atF ns 3)),none,some (.ref p0),some (.ref hd),some (.ref B1.o),some (.ref kl),some (.ref st),W,T,none,none]/\Lp CS CO Hs Hx Ai p0 st kd' mk mas' i room ((⟨[], []⟩:Sto).run room (ds.take i)).1 ((⟨[], []⟩:Sto).run room (ds.take i)).1)
   ⟨A,kd, [],none,none,rfl,L0⟩ ?_ ?_⟩
  ·rintro i σ Hx hi ⟨Ai,kd',mas',W,T,rfl,L⟩
   rw[o_O] at hi;have dz:i < as.length:=by omega
   obtain⟨d,hdd⟩:∃d,ds[i]? =some d:=⟨_,o_P (by omega)⟩;obtain⟨ai,eai,cf⟩:=b_E Ps hdd;obtain⟨ab,C⟩:=ac d (p_e hdd);have et:ds.take (i+1)=ds.take i++ [d]:=by rw[List.take_add_one,hdd];rfl
   have tl:∀e∈ds.take i,e.tell (atF ns 3):=λe he=>(ac e (List.mem_of_mem_take he)).2;have ao:=e_T (room:=room) (ds:=ds.take i) (s:=⟨[], []⟩);rw[p_a] at ao;have ct:=k_k (room:=room) tl f3;have bq:=g_C (room:=room) (ds:=ds.take i) eu;have er:((⟨[], []⟩:Sto).run room (ds.take (i+1))).1=(((⟨[], []⟩:Sto).run room (ds.take i)).1.step room d).1:=by rw[et,g_d]
   have cu:atI (as.map V.ref) (0+(i:Int))=some (V.ref ai):=by
    rw[Int.zero_add];exact a_g (j:=i) (by rw[o_0,eai];rfl)
   generalize ((⟨[], []⟩:Sto).run room (ds.take i)).1=si at L ct bq ao er
   have dc:si.marks.length<=900:=by
    have:si.marks.length<=0+min i ds.length:=ao;omega
   -- high
   refine⟨_,rfl,_,_,rfl,rfl,(show (0:Int) < 28 by decide),_,_,rfl,rfl,_,rfl,λH1 s1=>⟨_,rfl,_,_,rfl,?_⟩⟩;have ef:g_J (a_3 (far ((0+(i:Int)) % 28 - 1)) (atF ns 3)):=b_s (g_u (by omega) (by omega));have L1:=L.same s1;refine⟨_,rfl,_,rfl,_,rfl,Ai,_,i,room,room,si,st,kd',mk,by rw[L.o];rfl,L1.S,ef,L1.P.sto,L1.P.kept,λH2 s2=>⟨_,rfl,d_G ?_⟩⟩;have L2:=L1.same s2;refine⟨_,rfl,_,rfl,_,rfl,Da,_,_,V.ref ai,rfl,rfl,SqL.of (L2.sm _ _ eDs),cu,Ai,ai,d,i,room,atF ns 3,si,by rw[L.o];rfl,L2.S,DeedAt.same L2.sm cf,ab,C,by omega,λv1 A3 H3 S3 e3 F3 ca fg=> ?_⟩;have L3:=L2.said S3 e3 F3 ca;refine⟨_,rfl,_,rfl,_,rfl,Da,_,_,V.ref ai,rfl,rfl,SqL.of (L3.sm _ _ eDs),cu,st,kd',mk,ai,mas',room,atF ns 3,si,d,rfl,L3.P,DeedAt.same L3.sm cf,ab,C,ct,bq,dc,λv2 d0 b9 H4 S4 F4 dp ch _=> ?_⟩;rw[h_8 ab] at ch;have L4:=L3.ans cc S4 F4;cases ch;refine⟨_,rfl,λv3 H5 s5 bw=> ?_⟩;have L5:=L4.same s5;have aj:=(fg.tk dp).tk (h_1 s5);rw[<-er] at L5;by_cases hw:b_z room si d="done"
   ·rw[hw] at aj bw
    rw[aj.done,bw.done];exact .inl ⟨rfl,_,rfl,h_2 rfl ⟨A3,d0,b9,_,_,rfl,L5⟩⟩
   ·obtain⟨t1,rfl,q1⟩:=aj.ref hw
    obtain⟨t3,rfl,q3⟩:=bw.ref hw;exact .inr ⟨t1,t3,_,rfl,rfl,SqT.of q1,SqT.of q3,l_M _ _,_,rfl,d_G ⟨A3,d0,b9,_,_,rfl,L5⟩⟩
  ·rintro σ Hx ⟨Ai,kd',mas',W,T,rfl,L⟩
   have SBx:=SBs.same L.sm;refine⟨_,_,_,_,_,_,_,_,_,_,atF ns 3,room,Ai,B2,st,kd',mk,kl,r0,mas',_,_,by rw[L.o,eB],L.S,L.P,SBx,λb hb hc=> ?_, λb hb hc=> ?_, db,L.sm _ _ ekls,L.sm _ _ ers,λH'=>fin H'⟩
   ·obtain⟨u,q,_⟩:=SBs.there b hc
    rw[L.fa b hb] at q;cases q
   ·obtain⟨u,q,_⟩:=SBs.there b hc
    rw[L.fp b hb] at q;cases q
end
section
variable {K:PySem.W.Frag} {x q:Str} {st:Stmt} {f:Addr} {fd:FuncData}
abbrev bnd (x q:Str) (st:Stmt) (us:List Value) (r:List (Str×Value)):Prop:=∀(kV doc pm:Value) (an:Option Addr) (cdv ct:Value),bindArgs (PySem.W.fnOf x q (d_A st) (c_d st) (a_m st) .none kV doc pm an cdv ct) ⟨us, []⟩=pure r
theorem bd0 (F:Fun K x q st f fd) (h:bnd x q st [] []):Binds K fd [] []:=F.binds λa b c d e g us hl=>match us,hl with | [],_=>h  a b c d e g
theorem bd1 {p1:Str} (F:Fun K x q st f fd) (h:∀v1,bnd x q st [v1] [(p1,v1)]):Binds K fd [p1] []:=F.binds λa b c d e g us hl=>match us,hl with | [v1],_=>h v1 a b c d e g
theorem bd2 {p1 p2:Str} (F:Fun K x q st f fd) (h:∀v1 v2,bnd x q st [v1,v2] [(p1,v1),(p2,v2)]):Binds K fd [p1,p2] []:=F.binds λa b c d e g us hl=>match us,hl with | [v1,v2],_=>h v1 v2 a b c d e g
theorem bd3 {p1 p2 p3:Str} (F:Fun K x q st f fd) (h:∀v1 v2 v3,bnd x q st [v1,v2,v3] [(p1,v1),(p2,v2),(p3,v3)]):Binds K fd [p1,p2,p3] []:=F.binds λa b c d e g us hl=>match us,hl with | [v1,v2,v3],_=>h v1 v2 v3 a b c d e g
end
theorem b_C {K:PySem.W.Frag} {D:Addr} {b:Value} {v:Bool} (h:PySem.W.mroIn K D b=some v):(PySem.W.clsIn K D).isSome=true:=by
 unfold PySem.W.mroIn at h;cases e:PySem.W.clsIn K D with
 | none=>rw[e] at h;cases h
 | some _=>rfl
theorem l_3 {l:PySem.W.OpenLaw} {w:World} {K:PySem.W.Frag} {h:Heap} {mg:Str->Option Value} {fa CO CS CT CF CM CN CNo CE:Addr} (X:K.In h) (G:h.Ns mainGlobals mg) (hfa:mg "law"=some (.ref fa))
 {t1 t2 t3 t4:Tok}
 {fInit:Addr} {dInit:FuncData}
 {fTake:Addr} {dTake:FuncData}
 {fLet:Addr} {dLet:FuncData}
 {fBA:Addr} {dBA:FuncData}
 {fRA:Addr} {dRA:FuncData}
 {fSplit:Addr} {dSplit:FuncData}
 {fJoin:Addr} {dJoin:FuncData}
 {fSInit:Addr} {dSInit:FuncData}
 {fSBring:Addr} {dSBring:FuncData}
 {fSAlter:Addr} {dSAlter:FuncData}
 {fSCut:Addr} {dSCut:FuncData}
 {fSBegin:Addr} {dSBegin:FuncData}
 {fSKeep:Addr} {dSKeep:FuncData}
 {fSBreak:Addr} {dSBreak:FuncData}
 {fSRowOf:Addr} {dSRowOf:FuncData}
 {fSEnd:Addr} {dSEnd:FuncData}
 {fSChange:Addr} {dSChange:FuncData}
 {fSExch:Addr} {dSExch:FuncData}
 {fCW:Addr} {dCW:FuncData}
 {fLead:Addr} {dLead:FuncData}
 {fKey:Addr} {dKey:FuncData}
 {fStoreWith:Addr} {dStoreWith:FuncData}
 {fWhole:Addr} {dWhole:FuncData}
 {fAt:Addr} {dAt:FuncData}
 {fSame:Addr} {dSame:FuncData}
 {fTexts:Addr} {dTexts:FuncData}
 {fDrawn:Addr} {dDrawn:FuncData}
 {fFar:Addr} {dFar:FuncData}
 {fChangeOf:Addr} {dChangeOf:FuncData}
 {fQuestionOf:Addr} {dQuestionOf:FuncData}
 {fBringsOf:Addr} {dBringsOf:FuncData}
 {fDeedsOf:Addr} {dDeedsOf:FuncData}
 {fNewStore:Addr} {dNewStore:FuncData}
 {fChanged:Addr} {dChanged:FuncData}
 {fAnswered:Addr} {dAnswered:FuncData}
 {fDoneBy:Addr} {dDoneBy:FuncData}
 {fSaid:Addr} {dSaid:FuncData}
 {fAsDue:Addr} {dAsDue:FuncData}
 {fRefAny:Addr} {dRefAny:FuncData}
 {fRowOr:Addr} {dRowOr:FuncData}
 {fNoOrd:Addr} {dNoOrd:FuncData}
 {fStep:Addr} {dStep:FuncData}
 {fRaised:Addr} {dRaised:FuncData}
 {fRanked:Addr} {dRanked:FuncData}
 {fSigned:Addr} {dSigned:FuncData}
 {fMoved:Addr} {dMoved:FuncData}
 {fDeedMoved:Addr} {dDeedMoved:FuncData}
 {fRoomOf:Addr} {dRoomOf:FuncData}
 {fRowRight:Addr} {dRowRight:FuncData}
 {fLaw:Addr} {dLaw:FuncData}
 (aCO:PySem.W.nsIn K mainGlobals "Order"=some (some (.ref CO))) (aCS:PySem.W.nsIn K mainGlobals "Store"=some (some (.ref CS))) (aCE:PySem.W.nsIn K mainGlobals "StoreError"=some (some (.ref CE)))
 (aInit:PySem.W.findIn K (.ref CO) "__init__"=some (some (.ref fInit))) (iInit:PySem.W.isFn K (.ref fInit)=true)
 (FInit:Fun K "__init__" "Order.__init__" j_x fInit dInit)
 (aTake:PySem.W.findIn K (.ref CO) "take_in"=some (some (.ref fTake))) (iTake:PySem.W.isFn K (.ref fTake)=true)
 (FTake:Fun K "take_in" "Order.take_in" k_K fTake dTake)
 (aLet:PySem.W.findIn K (.ref CO) "let_out"=some (some (.ref fLet))) (iLet:PySem.W.isFn K (.ref fLet)=true)
 (FLet:Fun K "let_out" "Order.let_out" n_a fLet dLet)
 (aBA:PySem.W.findIn K (.ref CO) "blocks_ahead"=some (some (.ref fBA))) (iBA:PySem.W.isFn K (.ref fBA)=true)
 (FBA:Fun K "blocks_ahead" "Order.blocks_ahead" sBA fBA dBA)
 (aRA:PySem.W.findIn K (.ref CO) "rows_ahead"=some (some (.ref fRA))) (iRA:PySem.W.isFn K (.ref fRA)=true)
 (FRA:Fun K "rows_ahead" "Order.rows_ahead" sRA fRA dRA)
 (aSplit:PySem.W.findIn K (.ref CO) "split_block"=some (some (.ref fSplit))) (iSplit:PySem.W.isFn K (.ref fSplit)=true)
 (FSplit:Fun K "split_block" "Order.split_block" h_j fSplit dSplit)
 (aJoin:PySem.W.findIn K (.ref CO) "join_if_few"=some (some (.ref fJoin))) (iJoin:PySem.W.isFn K (.ref fJoin)=true)
 (FJoin:Fun K "join_if_few" "Order.join_if_few" l_O fJoin dJoin)
 (aSInit:PySem.W.findIn K (.ref CS) "__init__"=some (some (.ref fSInit))) (iSInit:PySem.W.isFn K (.ref fSInit)=true)
 (FSInit:Fun K "__init__" "Store.__init__" k_0 fSInit dSInit)
 (aSBring:PySem.W.findIn K (.ref CS) "bring"=some (some (.ref fSBring))) (iSBring:PySem.W.isFn K (.ref fSBring)=true)
 (FSBring:Fun K "bring" "Store.bring" h_A fSBring dSBring)
 (aSAlter:PySem.W.findIn K (.ref CS) "alter"=some (some (.ref fSAlter))) (iSAlter:PySem.W.isFn K (.ref fSAlter)=true)
 (FSAlter:Fun K "alter" "Store.alter" i_J fSAlter dSAlter)
 (aSCut:PySem.W.findIn K (.ref CS) "cut"=some (some (.ref fSCut))) (iSCut:PySem.W.isFn K (.ref fSCut)=true)
 (FSCut:Fun K "cut" "Store.cut" n_r fSCut dSCut)
 (aSBegin:PySem.W.findIn K (.ref CS) "begin"=some (some (.ref fSBegin))) (iSBegin:PySem.W.isFn K (.ref fSBegin)=true)
 (FSBegin:Fun K "begin" "Store.begin" h_V fSBegin dSBegin)
 (aSKeep:PySem.W.findIn K (.ref CS) "keep"=some (some (.ref fSKeep))) (iSKeep:PySem.W.isFn K (.ref fSKeep)=true)
 (FSKeep:Fun K "keep" "Store.keep" l_F fSKeep dSKeep)
 (aSBreak:PySem.W.findIn K (.ref CS) "break_off"=some (some (.ref fSBreak))) (iSBreak:PySem.W.isFn K (.ref fSBreak)=true)
 (FSBreak:Fun K "break_off" "Store.break_off" h_7 fSBreak dSBreak)
 (aSRowOf:PySem.W.findIn K (.ref CS) "row_of"=some (some (.ref fSRowOf))) (iSRowOf:PySem.W.isFn K (.ref fSRowOf)=true)
 (FSRowOf:Fun K "row_of" "Store.row_of" h_Y fSRowOf dSRowOf)
 (aSEnd:PySem.W.findIn K (.ref CS) "end_of_last"=some (some (.ref fSEnd))) (iSEnd:PySem.W.isFn K (.ref fSEnd)=true)
 (FSEnd:Fun K "end_of_last" "Store.end_of_last" n_t fSEnd dSEnd)
 (aSChange:PySem.W.findIn K (.ref CS) "change"=some (some (.ref fSChange))) (iSChange:PySem.W.isFn K (.ref fSChange)=true)
 (FSChange:Fun K "change" "Store.change" f_m fSChange dSChange)
 (aSExch:PySem.W.findIn K (.ref CS) "exchange"=some (some (.ref fSExch))) (iSExch:PySem.W.isFn K (.ref fSExch)=true)
 (FSExch:Fun K "exchange" "Store.exchange" l_i fSExch dSExch)
 (aCW:PySem.W.nsIn K mainGlobals "check_word"=some (some (.ref fCW)))
 (FCW:Fun K "check_word" "check_word" sCW fCW dCW)
 (aLead:PySem.W.nsIn K mainGlobals "lead_of"=some (some (.ref fLead)))
 (FLead:Fun K "lead_of" "lead_of" l_P fLead dLead)
 (aKey:PySem.W.nsIn K mainGlobals "key_of"=some (some (.ref fKey)))
 (FKey:Fun K "key_of" "key_of" n_b fKey dKey)
 (aStoreWith:PySem.W.nsIn K mainGlobals "store_with"=some (some (.ref fStoreWith)))
 (FStoreWith:Fun K "store_with" "store_with" c_A fStoreWith dStoreWith)
 (aWhole:PySem.W.nsIn K mainGlobals "_law_whole"=some (some (.ref fWhole)))
 (FWhole:Fun K "_law_whole" "_law_whole" h_s fWhole dWhole)
 (aAt:PySem.W.nsIn K mainGlobals "_law_at"=some (some (.ref fAt)))
 (FAt:Fun K "_law_at" "_law_at" sAt fAt dAt)
 (aSame:PySem.W.nsIn K mainGlobals "_law_same"=some (some (.ref fSame)))
 (FSame:Fun K "_law_same" "_law_same" k_7 fSame dSame)
 (aTexts:PySem.W.nsIn K mainGlobals "_law_texts"=some (some (.ref fTexts)))
 (FTexts:Fun K "_law_texts" "_law_texts" i_B fTexts dTexts)
 (aDrawn:PySem.W.nsIn K mainGlobals "_law_drawn_row"=some (some (.ref fDrawn)))
 (FDrawn:Fun K "_law_drawn_row" "_law_drawn_row" h_X fDrawn dDrawn)
 (aFar:PySem.W.nsIn K mainGlobals "_law_far"=some (some (.ref fFar)))
 (FFar:Fun K "_law_far" "_law_far" n_u fFar dFar)
 (aChangeOf:PySem.W.nsIn K mainGlobals "_law_change_of"=some (some (.ref fChangeOf)))
 (FChangeOf:Fun K "_law_change_of" "_law_change_of" c_5 fChangeOf dChangeOf)
 (aQuestionOf:PySem.W.nsIn K mainGlobals "_law_question_of"=some (some (.ref fQuestionOf)))
 (FQuestionOf:Fun K "_law_question_of" "_law_question_of" c_f fQuestionOf dQuestionOf)
 (aBringsOf:PySem.W.nsIn K mainGlobals "_law_brings_of"=some (some (.ref fBringsOf)))
 (FBringsOf:Fun K "_law_brings_of" "_law_brings_of" d_n fBringsOf dBringsOf)
 (aDeedsOf:PySem.W.nsIn K mainGlobals "_law_deeds_of"=some (some (.ref fDeedsOf)))
 (FDeedsOf:Fun K "_law_deeds_of" "_law_deeds_of" e_o fDeedsOf dDeedsOf)
 (aNewStore:PySem.W.nsIn K mainGlobals "_law_new_store"=some (some (.ref fNewStore)))
 (FNewStore:Fun K "_law_new_store" "_law_new_store" d_h fNewStore dNewStore)
 (aChanged:PySem.W.nsIn K mainGlobals "_law_changed"=some (some (.ref fChanged)))
 (FChanged:Fun K "_law_changed" "_law_changed" d_9 fChanged dChanged)
 (aAnswered:PySem.W.nsIn K mainGlobals "_law_answered"=some (some (.ref fAnswered)))
 (FAnswered:Fun K "_law_answered" "_law_answered" d_w fAnswered dAnswered)
 (aDoneBy:PySem.W.nsIn K mainGlobals "_law_done_by"=some (some (.ref fDoneBy)))
 (FDoneBy:Fun K "_law_done_by" "_law_done_by" f_o fDoneBy dDoneBy)
 (aSaid:PySem.W.nsIn K mainGlobals "_law_said"=some (some (.ref fSaid)))
 (FSaid:Fun K "_law_said" "_law_said" k_H fSaid dSaid)
 (aAsDue:PySem.W.nsIn K mainGlobals "_law_as_due"=some (some (.ref fAsDue)))
 (FAsDue:Fun K "_law_as_due" "_law_as_due" i_Q fAsDue dAsDue)
 (aRefAny:PySem.W.nsIn K mainGlobals "_law_refused_by_any"=some (some (.ref fRefAny)))
 (FRefAny:Fun K "_law_refused_by_any" "_law_refused_by_any" f_2 fRefAny dRefAny)
 (aRowOr:PySem.W.nsIn K mainGlobals "_law_row_or"=some (some (.ref fRowOr)))
 (FRowOr:Fun K "_law_row_or" "_law_row_or" h_S fRowOr dRowOr)
 (aNoOrd:PySem.W.nsIn K mainGlobals "_law_no_order"=some (some (.ref fNoOrd)))
 (FNoOrd:Fun K "_law_no_order" "_law_no_order" i_M fNoOrd dNoOrd)
 (aStep:PySem.W.nsIn K mainGlobals "_law_step_by"=some (some (.ref fStep)))
 (FStep:Fun K "_law_step_by" "_law_step_by" l_J fStep dStep)
 (aRaised:PySem.W.nsIn K mainGlobals "_law_raised"=some (some (.ref fRaised)))
 (FRaised:Fun K "_law_raised" "_law_raised" f_E fRaised dRaised)
 (aRanked:PySem.W.nsIn K mainGlobals "_law_ranked"=some (some (.ref fRanked)))
 (FRanked:Fun K "_law_ranked" "_law_ranked" f_O fRanked dRanked)
 (aSigned:PySem.W.nsIn K mainGlobals "_law_signed"=some (some (.ref fSigned)))
 (FSigned:Fun K "_law_signed" "_law_signed" f_w fSigned dSigned)
 (aMoved:PySem.W.nsIn K mainGlobals "_law_row_moved"=some (some (.ref fMoved)))
 (FMoved:Fun K "_law_row_moved" "_law_row_moved" h_H fMoved dMoved)
 (aDeedMoved:PySem.W.nsIn K mainGlobals "_law_moved"=some (some (.ref fDeedMoved)))
 (FDeedMoved:Fun K "_law_moved" "_law_moved" b_D fDeedMoved dDeedMoved)
 (aRoomOf:PySem.W.nsIn K mainGlobals "_law_room_of"=some (some (.ref fRoomOf)))
 (FRoomOf:Fun K "_law_room_of" "_law_room_of" f_I fRoomOf dRoomOf)
 (aRowRight:PySem.W.nsIn K mainGlobals "_law_row_right"=some (some (.ref fRowRight)))
 (FRowRight:Fun K "_law_row_right" "_law_row_right" d_g fRowRight dRowRight)
 (aLaw:PySem.W.nsIn K mainGlobals "law"=some (some (.ref fLaw)))
 (FLaw:Fun K "law" "law" n_q fLaw dLaw)
 (pgCO:PySem.W.plainGet K CO Str.empty=true) (hdCO:PySem.W.hasDictIn K CO=true) (poCO:PySem.W.plainOver K CO=true) (saCO:PySem.W.findIn K (.ref CO) "__setattr__"=some (some (.builtin "object.__setattr__"))) (mkCO:PySem.W.makesIn K CO=true) (kcCO:PySem.W.keepIn K (.ref CO)=true)
 (pgCS:PySem.W.plainGet K CS Str.empty=true) (hdCS:PySem.W.hasDictIn K CS=true) (poCS:PySem.W.plainOver K CS=true) (saCS:PySem.W.findIn K (.ref CS) "__setattr__"=some (some (.builtin "object.__setattr__"))) (mkCS:PySem.W.makesIn K CS=true) (kcCS:PySem.W.keepIn K (.ref CS)=true)
 (nCO_word:PySem.W.findIn K (.ref CO) "word"=some none)
 (nCO_blocks:PySem.W.findIn K (.ref CO) "blocks"=some none)
 (nCO_bring:PySem.W.findIn K (.ref CO) "bring"=some none)
 (nCS_room:PySem.W.findIn K (.ref CS) "room"=some none)
 (nCS_by_number:PySem.W.findIn K (.ref CS) "by_number"=some none)
 (nCS_by_rank:PySem.W.findIn K (.ref CS) "by_rank"=some none)
 (nCS_by_text:PySem.W.findIn K (.ref CS) "by_text"=some none)
 (nCS_steps:PySem.W.findIn K (.ref CS) "steps"=some none)
 (nCS_marks:PySem.W.findIn K (.ref CS) "marks"=some none)
 (q1:PySem.W.nsIn K mainGlobals "RANK_WORD"=some (some (.str "rank" t1)))
 (q2:PySem.W.nsIn K mainGlobals "TEXT_WORD"=some (some (.str "text" t2)))
 (q3:PySem.W.nsIn K mainGlobals "MOST_IN_A_BLOCK"=some (some (.int 8 t3)))
 (q4:PySem.W.nsIn K mainGlobals "LEAST_IN_TWO_BLOCKS"=some (some (.int 5 t4)))
 (aCT:PySem.W.nsIn K mainGlobals "Taken"=some (some (.ref CT))) (xCT:PySem.W.excIn K CT h_d "ValueError.__new__"=true)
 (aCF:PySem.W.nsIn K mainGlobals "Full"=some (some (.ref CF))) (xCF:PySem.W.excIn K CF h_d "ValueError.__new__"=true)
 (aCM:PySem.W.nsIn K mainGlobals "Missing"=some (some (.ref CM))) (xCM:PySem.W.excIn K CM h_d "ValueError.__new__"=true)
 (aCN:PySem.W.nsIn K mainGlobals "NotBegun"=some (some (.ref CN))) (xCN:PySem.W.excIn K CN h_d "ValueError.__new__"=true)
 (aCNo:PySem.W.nsIn K mainGlobals "NoOrder"=some (some (.ref CNo))) (xCNo:PySem.W.excIn K CNo h_d "ValueError.__new__"=true)
 (ett:PySem.W.exmOne K (.ref CT) (.ref CT)=some true)
 (emt:PySem.W.exmOne K (.ref CM) (.ref CT)=some false)
 (emm:PySem.W.exmOne K (.ref CM) (.ref CM)=some true)
 (eft:PySem.W.exmOne K (.ref CF) (.ref CT)=some false)
 (efm:PySem.W.exmOne K (.ref CF) (.ref CM)=some false)
 (eff:PySem.W.exmOne K (.ref CF) (.ref CF)=some true)
 (ent:PySem.W.exmOne K (.ref CN) (.ref CT)=some false)
 (enm:PySem.W.exmOne K (.ref CN) (.ref CM)=some false)
 (enf:PySem.W.exmOne K (.ref CN) (.ref CF)=some false)
 (enn:PySem.W.exmOne K (.ref CN) (.ref CN)=some true)
 (eot:PySem.W.exmOne K (.ref CNo) (.ref CT)=some false)
 (eom:PySem.W.exmOne K (.ref CNo) (.ref CM)=some false)
 (eof:PySem.W.exmOne K (.ref CNo) (.ref CF)=some false)
 (eon:PySem.W.exmOne K (.ref CNo) (.ref CN)=some false)
 (eoo:PySem.W.exmOne K (.ref CNo) (.ref CNo)=some true)
 (eEt:PySem.W.exmOne K (.ref CT) (.ref CE)=some true)
 (eEm:PySem.W.exmOne K (.ref CM) (.ref CE)=some true)
 (eEf:PySem.W.exmOne K (.ref CF) (.ref CE)=some true)
 (eEn:PySem.W.exmOne K (.ref CN) (.ref CE)=some true)
 (eEo:PySem.W.exmOne K (.ref CNo) (.ref CE)=some true)
 (spc:PySem.W.specialIn K (.builtin "object.__class__") "__get__"=some (some (.builtin "getset_descriptor.__get__"))) (tkc:PySem.W.takesIn K (.builtin "object.__class__")=some true)
 (pgCT:PySem.W.findIn K (.ref CT) "__getattribute__"=some (some (.builtin "BaseException.__getattribute__"))) (phCT:PySem.W.findIn K (.ref CT) "__getattr__"=some none) (mbCT:PySem.W.mroIn K CT (.type "BaseException")=some true) (fcCT:PySem.W.findIn K (.ref CT) "__class__"=some (some (.builtin "object.__class__"))) (mrCT:PySem.W.mroIn K CT (.type "object")=some true)
 (pgCM:PySem.W.findIn K (.ref CM) "__getattribute__"=some (some (.builtin "BaseException.__getattribute__"))) (phCM:PySem.W.findIn K (.ref CM) "__getattr__"=some none) (mbCM:PySem.W.mroIn K CM (.type "BaseException")=some true) (fcCM:PySem.W.findIn K (.ref CM) "__class__"=some (some (.builtin "object.__class__"))) (mrCM:PySem.W.mroIn K CM (.type "object")=some true)
 (pgCF:PySem.W.findIn K (.ref CF) "__getattribute__"=some (some (.builtin "BaseException.__getattribute__"))) (phCF:PySem.W.findIn K (.ref CF) "__getattr__"=some none) (mbCF:PySem.W.mroIn K CF (.type "BaseException")=some true) (fcCF:PySem.W.findIn K (.ref CF) "__class__"=some (some (.builtin "object.__class__"))) (mrCF:PySem.W.mroIn K CF (.type "object")=some true)
 (pgCN:PySem.W.findIn K (.ref CN) "__getattribute__"=some (some (.builtin "BaseException.__getattribute__"))) (phCN:PySem.W.findIn K (.ref CN) "__getattr__"=some none) (mbCN:PySem.W.mroIn K CN (.type "BaseException")=some true) (fcCN:PySem.W.findIn K (.ref CN) "__class__"=some (some (.builtin "object.__class__"))) (mrCN:PySem.W.mroIn K CN (.type "object")=some true)
 (pgCNo:PySem.W.findIn K (.ref CNo) "__getattribute__"=some (some (.builtin "BaseException.__getattribute__"))) (phCNo:PySem.W.findIn K (.ref CNo) "__getattr__"=some none) (mbCNo:PySem.W.mroIn K CNo (.type "BaseException")=some true) (fcCNo:PySem.W.findIn K (.ref CNo) "__class__"=some (some (.builtin "object.__class__"))) (mrCNo:PySem.W.mroIn K CNo (.type "object")=some true)
 (kt_f:PySem.W.kitOne K (.ref CT) (.ref CF)=some false)
 (kt_m:PySem.W.kitOne K (.ref CT) (.ref CM)=some false)
 (kt_o:PySem.W.kitOne K (.ref CT) (.ref CNo)=some false)
 (kt_n:PySem.W.kitOne K (.ref CT) (.ref CN)=some false)
 (kt_t:PySem.W.kitOne K (.ref CT) (.ref CT)=some true)
 (km_f:PySem.W.kitOne K (.ref CM) (.ref CF)=some false)
 (km_m:PySem.W.kitOne K (.ref CM) (.ref CM)=some true)
 (km_o:PySem.W.kitOne K (.ref CM) (.ref CNo)=some false)
 (km_n:PySem.W.kitOne K (.ref CM) (.ref CN)=some false)
 (km_t:PySem.W.kitOne K (.ref CM) (.ref CT)=some false)
 (kf_f:PySem.W.kitOne K (.ref CF) (.ref CF)=some true)
 (kf_m:PySem.W.kitOne K (.ref CF) (.ref CM)=some false)
 (kf_o:PySem.W.kitOne K (.ref CF) (.ref CNo)=some false)
 (kf_n:PySem.W.kitOne K (.ref CF) (.ref CN)=some false)
 (kf_t:PySem.W.kitOne K (.ref CF) (.ref CT)=some false)
 (kn_f:PySem.W.kitOne K (.ref CN) (.ref CF)=some false)
 (kn_m:PySem.W.kitOne K (.ref CN) (.ref CM)=some false)
 (kn_o:PySem.W.kitOne K (.ref CN) (.ref CNo)=some false)
 (kn_n:PySem.W.kitOne K (.ref CN) (.ref CN)=some true)
 (kn_t:PySem.W.kitOne K (.ref CN) (.ref CT)=some false)
 (ko_f:PySem.W.kitOne K (.ref CNo) (.ref CF)=some false)
 (ko_m:PySem.W.kitOne K (.ref CNo) (.ref CM)=some false)
 (ko_o:PySem.W.kitOne K (.ref CNo) (.ref CNo)=some true)
 (ko_n:PySem.W.kitOne K (.ref CNo) (.ref CN)=some false)
 (ko_t:PySem.W.kitOne K (.ref CNo) (.ref CT)=some false)
 (kt_v:PySem.W.kitOne K (.ref CT) (.type "ValueError")=some true)
 (km_v:PySem.W.kitOne K (.ref CM) (.type "ValueError")=some true)
 (kf_v:PySem.W.kitOne K (.ref CF) (.type "ValueError")=some true)
 (kn_v:PySem.W.kitOne K (.ref CN) (.type "ValueError")=some true)
 (ko_v:PySem.W.kitOne K (.ref CNo) (.type "ValueError")=some true)
 (zlen:PySem.W.nsIn K mainGlobals "len"=some none)
 (zmin:PySem.W.nsIn K mainGlobals "min"=some none)
 (zsum:PySem.W.nsIn K mainGlobals "sum"=some none)
 (zisinstance:PySem.W.nsIn K mainGlobals "isinstance"=some none)
 (zint:PySem.W.nsIn K mainGlobals "int"=some none)
 (zbool:PySem.W.nsIn K mainGlobals "bool"=some none)
 (zlist:PySem.W.nsIn K mainGlobals "list"=some none)
 (ztuple:PySem.W.nsIn K mainGlobals "tuple"=some none)
 (zstr:PySem.W.nsIn K mainGlobals "str"=some none)
 (zsorted:PySem.W.nsIn K mainGlobals "sorted"=some none)
 (zrange:PySem.W.nsIn K mainGlobals "range"=some none)
 (zValueError:PySem.W.nsIn K mainGlobals "ValueError"=some none)
 (nb:PySem.W.nsIn K cStatics sharingNotToldKey=some none):
 ∃fd:FuncData,(∀(s:Shared) (v:Value),BindsTo s fd ⟨[v], []⟩ [("_law_script",v)])/\∀base:Heap,K.In base->base.Ns mainGlobals mg->FnOk l.prog w K mg base CX0 10 fa fd ["_law_script"] (j_0 K):=by
 have e:=hfa.symm.trans (PySem.W.mg_of X G aLaw);cases e;have T:Txt K mg CO:=⟨⟨pgCO,hdCO,poCO,saCO⟩,nCO_word,nCO_blocks,PySem.W.mg_of X G aCO,⟨_,PySem.W.mg_of X G q1⟩,⟨_,PySem.W.mg_of X G q2⟩,⟨_,PySem.W.mg_of X G q3⟩,⟨_,PySem.W.mg_of X G q4⟩,PySem.W.mg_none_of X G zlen,PySem.W.mg_none_of X G zmin,PySem.W.mg_none_of X G zsum⟩;have ccc:CS≠CO:=λz=>by rw[z,nCO_bring] at aSBring;cases aSBring
 have TS:f_k K mg CS CO:=⟨⟨pgCS,hdCS,poCS,saCS⟩,nCS_room,nCS_by_number,nCS_by_rank,nCS_by_text,nCS_steps,nCS_marks,PySem.W.mg_of X G aCS,ccc⟩;have ex:k_n K mg CT CF CM CN:=⟨⟨PySem.W.mg_of X G aCT,xCT⟩,⟨PySem.W.mg_of X G aCF,xCF⟩,⟨PySem.W.mg_of X G aCM,xCM⟩,⟨PySem.W.mg_of X G aCN,xCN⟩⟩;have eO:Exc K mg "NoOrder" CNo:=⟨PySem.W.mg_of X G aCNo,xCNo⟩;have xm:l_A K CT CM CF CN CNo:=⟨ett,emt,emm,eft,efm,eff,ent,enm,enf,enn,eot,eom,eof,eon,eoo⟩;have B:Bt mg:=⟨PySem.W.mg_none_of X G zlen,PySem.W.mg_none_of X G zmin,PySem.W.mg_none_of X G zisinstance,PySem.W.mg_none_of X G zint,PySem.W.mg_none_of X G zbool,PySem.W.mg_none_of X G zlist,PySem.W.mg_none_of X G ztuple,PySem.W.mg_none_of X G zstr,PySem.W.mg_none_of X G zsorted,PySem.W.mg_none_of X G zrange⟩;have cb:mg "ValueError"=none:=PySem.W.mg_none_of X G zValueError;have ca:mg "StoreError"=some (.ref CE):=PySem.W.mg_of X G aCE;have kt:i_R K CT CF CM CNo CN CT CE false false false false true:=⟨⟨pgCT,phCT,b_C mrCT,fcCT,spc,tkc,mrCT,mbCT⟩,eEt,kt_f,kt_m,kt_o,kt_n,kt_t,kt_v⟩;have km:i_R K CM CF CM CNo CN CT CE false true false false false:=⟨⟨pgCM,phCM,b_C mrCM,fcCM,spc,tkc,mrCM,mbCM⟩,eEm,km_f,km_m,km_o,km_n,km_t,km_v⟩;have kf:i_R K CF CF CM CNo CN CT CE true false false false false:=⟨⟨pgCF,phCF,b_C mrCF,fcCF,spc,tkc,mrCF,mbCF⟩,eEf,kf_f,kf_m,kf_o,kf_n,kf_t,kf_v⟩;have kn:i_R K CN CF CM CNo CN CT CE false false false true false:=⟨⟨pgCN,phCN,b_C mrCN,fcCN,spc,tkc,mrCN,mbCN⟩,eEn,kn_f,kn_m,kn_o,kn_n,kn_t,kn_v⟩;have ko:i_R K CNo CF CM CNo CN CT CE false false true false false:=⟨⟨pgCNo,phCNo,b_C mrCNo,fcCNo,spc,tkc,mrCNo,mbCNo⟩,eEo,ko_f,ko_m,ko_o,ko_n,ko_t,ko_v⟩;have ah:Binds K dInit ["self","word"] []:=bd2 FInit λ_ _ _ _ _ _ _ _=>rfl;have bx:Binds K dTake ["self","row"] []:=bd2 FTake λ_ _ _ _ _ _ _ _=>rfl;have ci:Binds K dLet ["self","row"] []:=bd2 FLet λ_ _ _ _ _ _ _ _=>rfl;have cq:Binds K dBA ["self","key"] []:=bd2 FBA λ_ _ _ _ _ _ _ _=>rfl;have cl:Binds K dRA ["self","block","key"] []:=bd3 FRA λ_ _ _ _ _ _ _ _ _=>rfl;have bs:Binds K dSplit ["self","place"] []:=bd2 FSplit λ_ _ _ _ _ _ _ _=>rfl;have c1:Binds K dJoin ["self","place"] []:=bd2 FJoin λ_ _ _ _ _ _ _ _=>rfl;have a5:Binds K dSInit ["self","room"] []:=bd2 FSInit λ_ _ _ _ _ _ _ _=>rfl;have ar:Binds K dSBring ["self","row"] []:=bd2 FSBring λ_ _ _ _ _ _ _ _=>rfl;have ax:Binds K dSAlter ["self","row"] []:=bd2 FSAlter λ_ _ _ _ _ _ _ _=>rfl;have c2:Binds K dSCut ["self","number"] []:=bd2 FSCut λ_ _ _ _ _ _ _ _=>rfl;have as:Binds K dSBegin ["self"] []:=bd1 FSBegin λ_ _ _ _ _ _ _=>rfl;have bm:Binds K dSKeep ["self"] []:=bd1 FSKeep λ_ _ _ _ _ _ _=>rfl;have az:Binds K dSBreak ["self"] []:=bd1 FSBreak λ_ _ _ _ _ _ _=>rfl;have an:Binds K dSRowOf ["self","number"] []:=bd2 FSRowOf λ_ _ _ _ _ _ _ _=>rfl;have c4:Binds K dSEnd ["self"] []:=bd1 FSEnd λ_ _ _ _ _ _ _=>rfl;have ab:Binds K dSChange ["self","old","new"] []:=bd3 FSChange λ_ _ _ _ _ _ _ _ _=>rfl;have bo:Binds K dSExch ["self","old","new"] []:=bd3 FSExch λ_ _ _ _ _ _ _ _ _=>rfl;have cn:Binds K dCW ["word"] []:=bd1 FCW λ_ _ _ _ _ _ _=>rfl
 have bw:Binds K dLead ["word","row"] []:=bd2 FLead λ_ _ _ _ _ _ _ _=>rfl;have cf:Binds K dKey ["word","row"] []:=bd2 FKey λ_ _ _ _ _ _ _ _=>rfl;have u:Binds K dStoreWith ["room","rows"] []:=bd2 FStoreWith λ_ _ _ _ _ _ _ _=>rfl;have bi:Binds K dWhole ["_law_found"] []:=bd1 FWhole λ_ _ _ _ _ _ _=>rfl;have cr:Binds K dAt ["_law_script","_law_k"] []:=bd2 FAt λ_ _ _ _ _ _ _ _=>rfl;have c6:Binds K dSame ["_law_found","_law_due"] []:=bd2 FSame λ_ _ _ _ _ _ _ _=>rfl;have ba:Binds K dTexts [] []:=bd0 FTexts λ_ _ _ _ _ _=>rfl;have b4:Binds K dDrawn ["_law_number","_law_cell"] []:=bd2 FDrawn λ_ _ _ _ _ _ _ _=>rfl;have ck:Binds K dFar ["_law_number"] []:=bd1 FFar λ_ _ _ _ _ _ _=>rfl;have a4:Binds K dChangeOf ["_law_way","_law_number","_law_cell"] []:=bd3 FChangeOf λ_ _ _ _ _ _ _ _ _=>rfl;have g:Binds K dQuestionOf ["_law_way","_law_number","_law_cell"] []:=bd3 FQuestionOf λ_ _ _ _ _ _ _ _ _=>rfl;have N:Binds K dBringsOf ["_law_script"] []:=bd1 FBringsOf λ_ _ _ _ _ _ _=>rfl;have ad:Binds K dDeedsOf ["_law_cells"] []:=bd1 FDeedsOf λ_ _ _ _ _ _ _=>rfl;have Z:Binds K dNewStore ["_law_room"] []:=bd1 FNewStore λ_ _ _ _ _ _ _=>rfl;have af:Binds K dChanged ["_law_store","_law_deed"] []:=bd2 FChanged λ_ _ _ _ _ _ _ _=>rfl;have a7:Binds K dAnswered ["_law_store","_law_deed"] []:=bd2 FAnswered λ_ _ _ _ _ _ _ _=>rfl;have ap:Binds K dDoneBy ["_law_store","_law_deed"] []:=bd2 FDoneBy λ_ _ _ _ _ _ _ _=>rfl;have bu:Binds K dSaid ["_law_store","_law_deed"] []:=bd2 FSaid λ_ _ _ _ _ _ _ _=>rfl;have bc:Binds K dAsDue ["_law_word"] []:=bd1 FAsDue λ_ _ _ _ _ _ _=>rfl;have b0:Binds K dRefAny ["_law_store","_law_deed"] []:=bd2 FRefAny λ_ _ _ _ _ _ _ _=>rfl;have bk:Binds K dRowOr ["_law_store","_law_number"] []:=bd2 FRowOr λ_ _ _ _ _ _ _ _=>rfl;have bp:Binds K dNoOrd ["_law_word"] []:=bd1 FNoOrd λ_ _ _ _ _ _ _=>rfl;have c3:Binds K dStep ["_law_seed"] []:=bd1 FStep λ_ _ _ _ _ _ _=>rfl;have b1:Binds K dRaised ["_law_number","_law_seed"] []:=bd2 FRaised λ_ _ _ _ _ _ _ _=>rfl;have ay:Binds K dRanked ["_law_rank","_law_seed"] []:=bd2 FRanked λ_ _ _ _ _ _ _ _=>rfl;have au:Binds K dSigned ["_law_letters","_law_seed"] []:=bd2 FSigned λ_ _ _ _ _ _ _ _=>rfl;have bn:Binds K dMoved ["_law_row","_law_seed"] []:=bd2 FMoved λ_ _ _ _ _ _ _ _=>rfl;have t:Binds K dDeedMoved ["_law_deed","_law_seed"] []:=bd2 FDeedMoved λ_ _ _ _ _ _ _ _=>rfl;have ao:Binds K dRoomOf ["_law_cell"] []:=bd1 FRoomOf λ_ _ _ _ _ _ _=>rfl;have a9:Binds K dRowRight ["_law_store","_law_plain","_law_number"] []:=bd3 FRowRight λ_ _ _ _ _ _ _ _ _=>rfl;have mTake:Mf K CO "take_in" fTake _ ["self","row"]:=⟨⟨aTake,iTake,FTake.kp⟩,bx⟩;have mLet:Mf K CO "let_out" fLet _ ["self","row"]:=⟨⟨aLet,iLet,FLet.kp⟩,ci⟩;have mBA:Mf K CO "blocks_ahead" fBA _ ["self","key"]:=⟨⟨aBA,iBA,FBA.kp⟩,cq⟩;have mRA:Mf K CO "rows_ahead" fRA _ ["self","block","key"]:=⟨⟨aRA,iRA,FRA.kp⟩,cl⟩;have mSplit:Mf K CO "split_block" fSplit _ ["self","place"]:=⟨⟨aSplit,iSplit,FSplit.kp⟩,bs⟩;have mJoin:Mf K CO "join_if_few" fJoin _ ["self","place"]:=⟨⟨aJoin,iJoin,FJoin.kp⟩,c1⟩
 have mSBring:Mf K CS "bring" fSBring _ ["self","row"]:=⟨⟨aSBring,iSBring,FSBring.kp⟩,ar⟩;have mSAlter:Mf K CS "alter" fSAlter _ ["self","row"]:=⟨⟨aSAlter,iSAlter,FSAlter.kp⟩,ax⟩;have mSCut:Mf K CS "cut" fSCut _ ["self","number"]:=⟨⟨aSCut,iSCut,FSCut.kp⟩,c2⟩;have mSBegin:Mf K CS "begin" fSBegin _ ["self"]:=⟨⟨aSBegin,iSBegin,FSBegin.kp⟩,as⟩;have mSKeep:Mf K CS "keep" fSKeep _ ["self"]:=⟨⟨aSKeep,iSKeep,FSKeep.kp⟩,bm⟩;have mSBreak:Mf K CS "break_off" fSBreak _ ["self"]:=⟨⟨aSBreak,iSBreak,FSBreak.kp⟩,az⟩;have mSRowOf:Mf K CS "row_of" fSRowOf _ ["self","number"]:=⟨⟨aSRowOf,iSRowOf,FSRowOf.kp⟩,an⟩;have mSEnd:Mf K CS "end_of_last" fSEnd _ ["self"]:=⟨⟨aSEnd,iSEnd,FSEnd.kp⟩,c4⟩;have mSChange:Mf K CS "change" fSChange _ ["self","old","new"]:=⟨⟨aSChange,iSChange,FSChange.kp⟩,ab⟩;have mSExch:Mf K CS "exchange" fSExch _ ["self","old","new"]:=⟨⟨aSExch,iSExch,FSExch.kp⟩,bo⟩;have bg:Gf K mg "check_word" fCW _ ["word"]:=⟨PySem.W.mg_of X G aCW,FCW.kp,cn⟩;have c9:Gf K mg "lead_of" fLead _ ["word","row"]:=⟨PySem.W.mg_of X G aLead,FLead.kp,bw⟩;have r:Gf K mg "key_of" fKey _ ["word","row"]:=⟨PySem.W.mg_of X G aKey,FKey.kp,cf⟩;have E:Gf K mg "store_with" fStoreWith _ ["room","rows"]:=⟨PySem.W.mg_of X G aStoreWith,FStoreWith.kp,u⟩;have b5:Gf K mg "_law_whole" fWhole _ ["_law_found"]:=⟨PySem.W.mg_of X G aWhole,FWhole.kp,bi⟩;have cd:Gf K mg "_law_at" fAt _ ["_law_script","_law_k"]:=⟨PySem.W.mg_of X G aAt,FAt.kp,cr⟩;have aj:Gf K mg "_law_same" fSame _ ["_law_found","_law_due"]:=⟨PySem.W.mg_of X G aSame,FSame.kp,c6⟩;have H:Gf K mg "_law_texts" fTexts _ []:=⟨PySem.W.mg_of X G aTexts,FTexts.kp,ba⟩;have L:Gf K mg "_law_drawn_row" fDrawn _ ["_law_number","_law_cell"]:=⟨PySem.W.mg_of X G aDrawn,FDrawn.kp,b4⟩;have A:Gf K mg "_law_far" fFar _ ["_law_number"]:=⟨PySem.W.mg_of X G aFar,FFar.kp,ck⟩;have R:Gf K mg "_law_change_of" fChangeOf _ ["_law_way","_law_number","_law_cell"]:=⟨PySem.W.mg_of X G aChangeOf,FChangeOf.kp,a4⟩;have j:Gf K mg "_law_question_of" fQuestionOf _ ["_law_way","_law_number","_law_cell"]:=⟨PySem.W.mg_of X G aQuestionOf,FQuestionOf.kp,g⟩;have U:Gf K mg "_law_brings_of" fBringsOf _ ["_law_script"]:=⟨PySem.W.mg_of X G aBringsOf,FBringsOf.kp,N⟩;have aa:Gf K mg "_law_deeds_of" fDeedsOf _ ["_law_cells"]:=⟨PySem.W.mg_of X G aDeedsOf,FDeedsOf.kp,ad⟩;have a0:Gf K mg "_law_new_store" fNewStore _ ["_law_room"]:=⟨PySem.W.mg_of X G aNewStore,FNewStore.kp,Z⟩;have ag:Gf K mg "_law_changed" fChanged _ ["_law_store","_law_deed"]:=⟨PySem.W.mg_of X G aChanged,FChanged.kp,af⟩;have a1:Gf K mg "_law_answered" fAnswered _ ["_law_store","_law_deed"]:=⟨PySem.W.mg_of X G aAnswered,FAnswered.kp,a7⟩;have k:Gf K mg "_law_done_by" fDoneBy _ ["_law_store","_law_deed"]:=⟨PySem.W.mg_of X G aDoneBy,FDoneBy.kp,ap⟩;have bz:Gf K mg "_law_said" fSaid _ ["_law_store","_law_deed"]:=⟨PySem.W.mg_of X G aSaid,FSaid.kp,bu⟩;have b7:Gf K mg "_law_as_due" fAsDue _ ["_law_word"]:=⟨PySem.W.mg_of X G aAsDue,FAsDue.kp,bc⟩;have av:Gf K mg "_law_refused_by_any" fRefAny _ ["_law_store","_law_deed"]:=⟨PySem.W.mg_of X G aRefAny,FRefAny.kp,b0⟩
 have J:Gf K mg "_law_row_or" fRowOr _ ["_law_store","_law_number"]:=⟨PySem.W.mg_of X G aRowOr,FRowOr.kp,bk⟩;have b3:Gf K mg "_law_no_order" fNoOrd _ ["_law_word"]:=⟨PySem.W.mg_of X G aNoOrd,FNoOrd.kp,bp⟩;have ak:Gf K mg "_law_step_by" fStep _ ["_law_seed"]:=⟨PySem.W.mg_of X G aStep,FStep.kp,c3⟩;have c:Gf K mg "_law_raised" fRaised _ ["_law_number","_law_seed"]:=⟨PySem.W.mg_of X G aRaised,FRaised.kp,b1⟩;have o:Gf K mg "_law_ranked" fRanked _ ["_law_rank","_law_seed"]:=⟨PySem.W.mg_of X G aRanked,FRanked.kp,ay⟩;have n:Gf K mg "_law_signed" fSigned _ ["_law_letters","_law_seed"]:=⟨PySem.W.mg_of X G aSigned,FSigned.kp,au⟩;have bf:Gf K mg "_law_row_moved" fMoved _ ["_law_row","_law_seed"]:=⟨PySem.W.mg_of X G aMoved,FMoved.kp,bn⟩;have a:Gf K mg "_law_moved" fDeedMoved _ ["_law_deed","_law_seed"]:=⟨PySem.W.mg_of X G aDeedMoved,FDeedMoved.kp,t⟩;have aw:Gf K mg "_law_room_of" fRoomOf _ ["_law_cell"]:=⟨PySem.W.mg_of X G aRoomOf,FRoomOf.kp,ao⟩;have M:Gf K mg "_law_row_right" fRowRight _ ["_law_store","_law_plain","_law_number"]:=⟨PySem.W.mg_of X G aRowRight,FRowRight.kp,a9⟩;have MO:Mk K CO fInit:=⟨mkCO,aInit,iInit,kcCO⟩;have MS:Mk K CS fSInit:=⟨mkCS,aSInit,iSInit,kcCS⟩;refine⟨dLaw,λs v=> ?_, λbase _ _=> ?_⟩
 ·obtain⟨_,_,_,_,_,_,_,_,_,rfl,_,_⟩:=FLaw.ex
  exact .of_eq rfl
 have cm:FnOk l.prog w K mg base _ _ _ _ _ _:=n_M FCW T;have bl:FnOk l.prog w K mg base _ _ _ _ _ _:=l_2 FCW T eO;have c0:FnOk l.prog w K mg base _ _ _ _ _ _:=k_D FLead T;have y:FnOk l.prog w K mg base _ _ _ _ _ _:=m_S FKey T c9 c0;have co:FnOk l.prog w K mg base _ _ _ _ _ _:=n_O FRA T r y;have ce:FnOk l.prog w K mg base _ _ _ _ _ _:=n_e FBA T r y;have bj:FnOk l.prog w K mg base _ _ _ _ _ _:=j_e FSplit T;have c5:FnOk l.prog w K mg base _ _ _ _ _ _:=l_b FTake T r y mBA ce mRA co mSplit bj;have c7:FnOk l.prog w K mg base _ _ _ _ _ _:=l_H FJoin T;have ch:FnOk l.prog w K mg base _ _ _ _ _ _:=l_Y FLet T r y mBA ce mJoin c7;have c8:FnOk l.prog w K mg base _ _ _ _ _ _:=l_m FInit T bg cm;have ai:FnOk l.prog w K mg base _ _ _ _ _ _:=l_a FSExch T TS mTake c5 mLet ch;have b:FnOk l.prog w K mg base _ _ _ _ _ _:=h_l FSChange T TS mSExch ai;have f:FnOk l.prog w K mg base _ _ _ _ _ _:=i_Y FSRowOf TS ex;have bd:FnOk l.prog w K mg base _ _ _ _ _ _:=m_T FSEnd T TS ex;have S:FnOk l.prog w K mg base _ _ _ _ _ _:=j_p FSBring T TS ex mSChange b;have br:FnOk l.prog w K mg base _ _ _ _ _ _:=j_C FSAlter TS mSChange b mSRowOf f;have cj:FnOk l.prog w K mg base _ _ _ _ _ _:=l_5 FSCut TS mSChange b mSRowOf f;have O:FnOk l.prog w K mg base _ _ _ _ _ _:=i_2 FSBegin T TS;have bt:FnOk l.prog w K mg base _ _ _ _ _ _:=l_s FSKeep T TS mSEnd bd;have be:FnOk l.prog w K mg base _ _ _ _ _ _:=i_7 FSBreak T TS mSEnd bd mSExch ai;have bh:FnOk l.prog w K mg base _ _ _ _ _ _:=j_z FSInit T TS MO ah c8;have b9:FnOk l.prog w K mg base _ _ _ _ _ _:=j_E FWhole B;have cc:FnOk l.prog w K mg base _ _ _ _ _ _:=m_s FAt B;have cg:FnOk l.prog w K mg base _ _ _ _ _ _:=m_r cc;have al:FnOk l.prog w K mg base _ _ _ _ _ _:=k_4 FSame B b5 b9;have P:FnOk l.prog w K mg base _ _ _ _ _ _:=i_V FTexts;have a3:FnOk l.prog w K mg base _ _ _ _ _ _:=j_B FDrawn H P;have F:FnOk l.prog w K mg base _ _ _ _ _ _:=m_O FFar B;have am:FnOk l.prog w K mg base _ _ _ _ _ _:=l_G FStep B;have d:FnOk l.prog w K mg base _ _ _ _ _ _:=h_R FRaised B ak am;have q:FnOk l.prog w K mg base _ _ _ _ _ _:=i_P FRanked B ak am;have m:FnOk l.prog w K mg base _ _ _ _ _ _:=i_r FSigned B nb;have b8:FnOk l.prog w K mg base _ _ _ _ _ _:=j_L FMoved c d o q n m;have a2:FnOk l.prog w K mg base _ _ _ _ _ _:=f_R FChangeOf A F L a3;have i:FnOk l.prog w K mg base _ _ _ _ _ _:=e_t FQuestionOf A F H P;have I:FnOk l.prog w K mg base _ _ _ _ _ _:=f_z FBringsOf B cd cg A F L a3;have ac:FnOk l.prog w K mg base _ _ _ _ _ _:=g_L FDeedsOf B R a2 j i;have aq:FnOk l.prog w K mg base _ _ _ _ _ _:=h_J FRoomOf;have cp:FnOk l.prog w K mg base _ _ _ _ _ _:=n_S FDeedMoved a c d o q n m bf b8;have ae:FnOk l.prog w K mg base _ _ _ _ _ _:=h_a FChanged B;have Y:FnOk l.prog w K mg base _ _ _ _ _ _:=f_0 FNewStore;have bq:FnOk l.prog w K mg base _ _ _ _ _ _:=j_T (C:=CO) FInit bg bl;have x:FnOk l.prog w K mg base _ _ _ _ _ _:=f_g FStoreWith TS MS a5 bh mSBring S;have Q:FnOk l.prog w K mg base _ _ _ _ _ _:=f_J FAnswered B ag ae;have p:FnOk l.prog w K mg base _ _ _ _ _ _:=i_A FDoneBy TS mSBring S mSAlter br mSCut cj mSBegin O mSKeep bt mSBreak be
 have bv:FnOk l.prog w K mg base _ _ _ _ _ _:=l_K FSaid ex xm k p;have bb:FnOk l.prog w K mg base _ _ _ _ _ _:=j_j FAsDue;have a6:FnOk l.prog w K mg base _ _ _ _ _ _:=j_X FRowOr TS ex xm mSRowOf f;have a8:FnOk l.prog w K mg base _ _ _ _ _ _:=f_x FRowRight J a6 aj al;have b2:FnOk l.prog w K mg base _ _ _ _ _ _:=i_e FRefAny B cb ca ex eO kt km kf kn k p;have b6:FnOk l.prog w K mg base _ _ _ _ _ _:=j_a FNoOrd T B cb ca ex eO ko eoo bg bl MO ah bq;exact m_y FLaw B TS cd cc aw aq U I aa ac a cp MS a5 bh E x mSBegin O a0 Y c d A F M a8 bz bv b7 bb a1 Q av b2 aj al J a6 b3 b6
theorem n_6 {l:PySem.W.OpenLaw} {q:Program} {loose:List Str} {XP:(Str->Option Value)->Heap->Prop} {YP:World->Heap->Prop} {d:DefRec} {K:Params->PySem.W.Frag} (hn:l.most=some 63) (hdf:d.params.defaults= [])
 (hY:∀(w:World) (h:Heap),YP w h->(K w.params).In h)
 (F:∀(w:World) (mg:Str→Option Value) (fa:Addr) (h:Heap),(K w.params).In h→h.Ns mainGlobals mg→mg d.name=some (.ref fa)→
   ∃fd:FuncData,(∀(s:Shared) (u:Value),BindsTo s fd ⟨[u], []⟩ [("_law_script",u)])/\∀base:Heap,(K w.params).In base->base.Ns mainGlobals mg->FnOk l.prog w (K w.params) mg base CX0 10 fa fd ["_law_script"] (j_0 (K w.params))):
 PySem.W.WalkO q loose XP YP l.row.toRowW d [] (λf vs=>PySem.call f vs):=
 L2.k_O (n:=63) (k:=10) (x:="_law_script") (CX:=λ_=>CX0) (sp:=λw=>j_0 (K w.params)) hn (by decide) hdf ⟨rfl,by decide,by decide⟩ hY F (λ_ _ a ns hl _ hS=>⟨a,ns,rfl,hS,hl,λ_=>rfl⟩) λ_ _ _ _ _ z=>z
end K1
namespace PySem.W.Fast
def tw510774021580816087:=0
def tw3925929753661168012:=0
def tw3269736634436572031:=0
def tw7419732639110718827:=0
def tw15199013453637226353:=0
def tw16280113616765758928:=0
def tw8387817474237082174:=0
def tw7613701957172477620:=0
def tw8629517583707285310:=0
def tw12594831594054934196:=0
def tw6201492798742634814:=0
def tw15243918038309569579:=0
def tw560793760760418922:=0
def tw3007413408396313412:=0
def tw242528166941183474:=0
def tw917524955916523322:=0
def tw5112156206171626712:=0
def tw13780890996162815236:=0
def tw3912351420961330229:=0
def tw1391386224255190222:=0
def tw3126109146060831228:=0
def tw6019248018470382867:=0
def tw2012210907863042265:=0
def tw1070794783641139786:=0
def tw2266362405955633701:=0
def tw11579148980772950801:=0
def tw5523702016457102869:=0
def tw17306837342077264283:=0
def tw15589017378934574822:=0
def tw14526462248448722227:=0
def tw3644061282871392876:=0
def tw1850826224727691110:=0
def tw10878443156210960633:=0
def tw17785323702731030465:=0
def tw15172094255503099041:=0
def tw5981569322582924087:=0
def tw12018076963775465751:=0
def tw3768907643271518626:=0
def tw12400008216089509135:=0
def tw11632000292434578470:=0
def tw8970645890935725032:=0
def tw17193011733920521731:=0
def tw9363485083900283616:=0
def tw5565889616879068036:=0
def tw4491967098033639053:=0
def tw7256341794306164781:=0
def tw18049641329206060140:=0
def tw6355355444497808188:=0
def tw1673056861235847301:=0
def tw10351046242028571312:=0
def tw11054561345509140631:=0
def tw10249236994286750913:=0
def tw2188128210817065745:=0
def tw11317881226620407465:=0
def tw9951045055413333548:=0
def tw2455686844644467500:=0
def tw7655075613324422320:=0
def tw6468561575407639832:=0
def tw15475305817764482257:=0
def tw13219912842361680525:=0
def tw11643303427279991362:=0
def tw11476850102655880960:=0
def tw10495118049450120767:=0
def tw12418627906263907255:=0
def tw15309267806682926425:=0
def tw13981491007863311180:=0
def tw6714901455718893859:=0
def tw9444501172581495091:=0
def tw13275624540681523800:=0
def tw5033050362403127027:=0
def tw15580898909080671027:=0
def tw16137535028689602206:=0
def tw16704210578677018493:=0
def tw8503901088930826434:=0
def tw1762989842640425198:=0
def tw17606206032668043681:=0
def tw13015229753561325247:=0
def tw10751889491424546426:=0
def tw4384378738751408102:=0
def tw9199252895530460791:=0
def tw8783595348607786520:=0
def tw924874652434837112:=0
def tw9726004574985998374:=0
def tw7945933442367023202:=0
def tw17788285362116366588:=0
def tw15208214224858133798:=0
def tw9412075164550084897:=0
def tw5829273162119387789:=0
def tw3270290000086559777:=0
def tw14936418010037116264:=0
def tw4473269838707089992:=0
def tw11514204392090947808:=0
def tw7628561598925862879:=0
def tw9861354613314911668:=0
def tw1223480593013295046:=0
def tw15439931226828830424:=0
def tw6479732047832722388:=0
def tw13541086356610297201:=0
def tw5858018115197283111:=0
def tw4592838262673915596:=0
def tw7950264580190863186:=0
def tw1297902446071601951:=0
def tw406437972692743339:=0
def tw15662672154066373973:=0
def tw7936179899885351394:=0
def tw16928218207253531505:=0
def tw12683264503817669990:=0
def tw8167289596982583320:=0
def tw14243558293838162595:=0
def tw1656036538202619521:=0
def tw13206375861891419510:=0
def tw1269809853657685886:=0
def tw10887338457491725556:=0
def tw15730187960992204200:=0
def tw8308607957811517221:=0
def tw9973690879116034069:=0
def tw2564467962104698765:=0
def tw16863983937737644329:=0
def tw10951657300506211278:=0
def tw10224062927380944207:=0
def tw805081734995360810:=0
def tw2621553312158670686:=0
def tw10729999502067328521:=0
def tw17095623815139868457:=0
def tw12860407517484788546:=0
def tw124868424413689404:=0
def tw9558606147828303006:=0
def tw10942773180881540011:=0
def tw17416225229100465183:=0
def tw14070312175426494894:=0
def tw13128267714192640433:=0
def tw92205938121354509:=0
def tw18205000669795265021:=0
def tw18102557174084955500:=0
def tw13328621197192187865:=0
def tw4962206827385026751:=0
def tw1904087845574037359:=0
def tw9951488131921242174:=0
def tw5847666051481652517:=0
def tw15571151464050519252:=0
def tw5500396275480902922:=0
def tw2368372145658145637:=0
def tw15742491408156011915:=0
def tw12031052720310754765:=0
def tw12261679225791543761:=0
def tw12919503212522610103:=0
def tw6073479719323230145:=0
def tw7669711741853945296:=0
def tw14316172669568776065:=0
def tw7672396411686717053:=0
def tw8249857632206427068:=0
def tw8731674390865918511:=0
def tw529938712446559928:=0
def tw8438313902664503785:=0
def tw7386396035340946404:=0
def tw18068149222597640079:=0
def tw15347845759384371769:=0
def tw15154043781504756119:=0
def tw12497462509852472506:=0
def tw3931418579666011353:=0
def tw3211930647836710564:=0
def tw2600485413210604543:=0
def tw9873411281362187886:=0
def tw3785804787146534113:=0
def tw17076062975548180430:=0
def tw8617401507721874651:=0
def tw10092539112946979552:=0
def tw8106382521717433240:=0
def tw16695216173786763288:=0
def tw7910090307858584562:=0
def tw17786646485407140152:=0
def tw12552650358615440735:=0
def tw4522737739228490217:=0
end PySem.W.Fast
open PySem PySem.W PyProof.Rows
set_option maxRecDepth 100000 in
set_option maxHeartbeats 0 in
theorem PySem.Challenge.cw_twoorders_k07_a_store_by_hand_holds : PySem.Challenge.rw_twoorders_k07_a_store_by_hand.Holds := by
 w_on;o_law;k_head;(case hw=>w_witness2)
 k_fill
 refine K1.n_6 (l:=PySem.Challenge.rw_twoorders_k07_a_store_by_hand) rfl rfl (λw h Y=>PySem.W.kIn_of Y) ?F
 case F=>
  intro w mg fa h KX G a
  refine' K1.l_3 KX G a ?aCO ?aCS ?aCE ?aInit ?iInit ?FInit ?aTake ?iTake ?FTake ?aLet ?iLet ?FLet ?aBA ?iBA ?FBA ?aRA ?iRA ?FRA ?aSplit ?iSplit ?FSplit ?aJoin ?iJoin ?FJoin ?aSInit ?iSInit ?FSInit ?aSBring ?iSBring ?FSBring ?aSAlter ?iSAlter ?FSAlter ?aSCut ?iSCut ?FSCut ?aSBegin ?iSBegin ?FSBegin ?aSKeep ?iSKeep ?FSKeep ?aSBreak ?iSBreak ?FSBreak ?aSRowOf ?iSRowOf ?FSRowOf ?aSEnd ?iSEnd ?FSEnd ?aSChange ?iSChange ?FSChange ?aSExch ?iSExch ?FSExch ?aCW ?FCW ?aLead ?FLead ?aKey ?FKey ?aStoreWith ?FStoreWith ?aWhole ?FWhole ?aAt ?FAt ?aSame ?FSame ?aTexts ?FTexts ?aDrawn ?FDrawn ?aFar ?FFar ?aChangeOf ?FChangeOf ?aQuestionOf ?FQuestionOf ?aBringsOf ?FBringsOf ?aDeedsOf ?FDeedsOf ?aNewStore ?FNewStore ?aChanged ?FChanged ?aAnswered ?FAnswered ?aDoneBy ?FDoneBy ?aSaid ?FSaid ?aAsDue ?FAsDue ?aRefAny ?FRefAny ?aRowOr ?FRowOr ?aNoOrd ?FNoOrd ?aStep ?FStep ?aRaised ?FRaised ?aRanked ?FRanked ?aSigned ?FSigned ?aMoved ?FMoved ?aDeedMoved ?FDeedMoved ?aRoomOf ?FRoomOf ?aRowRight ?FRowRight ?aLaw ?FLaw ?pgCO ?hdCO ?poCO ?saCO ?mkCO ?kcCO ?pgCS ?hdCS ?poCS ?saCS ?mkCS ?kcCS ?nCO_word ?nCO_blocks ?nCO_bring ?nCS_room ?nCS_by_number ?nCS_by_rank ?nCS_by_text ?nCS_steps ?nCS_marks ?q1 ?q2 ?q3 ?q4 ?aCT ?xCT ?aCF ?xCF ?aCM ?xCM ?aCN ?xCN ?aCNo ?xCNo ?ett ?emt ?emm ?eft ?efm ?eff ?ent ?enm ?enf ?enn ?eot ?eom ?eof ?eon ?eoo ?eEt ?eEm ?eEf ?eEn ?eEo ?spc ?tkc ?pgCT ?phCT ?mbCT ?fcCT ?mrCT ?pgCM ?phCM ?mbCM ?fcCM ?mrCM ?pgCF ?phCF ?mbCF ?fcCF ?mrCF ?pgCN ?phCN ?mbCN ?fcCN ?mrCN ?pgCNo ?phCNo ?mbCNo ?fcCNo ?mrCNo ?kt_f ?kt_m ?kt_o ?kt_n ?kt_t ?km_f ?km_m ?km_o ?km_n ?km_t ?kf_f ?kf_m ?kf_o ?kf_n ?kf_t ?kn_f ?kn_m ?kn_o ?kn_n ?kn_t ?ko_f ?ko_m ?ko_o ?ko_n ?ko_t ?kt_v ?km_v ?kf_v ?kn_v ?ko_v ?zlen ?zmin ?zsum ?zisinstance ?zint ?zbool ?zlist ?ztuple ?zstr ?zsorted ?zrange ?zValueError ?nb
  (case aCO=>k_is);(case aCS=>k_is);(case aCE=>k_is);(case aInit=>k_is);(case iInit=>k_is);(case FInit=>refine' L2.a_D ?l ?c ?k;(case l=>k_is);(case c=>k_is);(case k=>k_is))
  (case aTake=>k_is);(case iTake=>k_is);(case FTake=>refine' L2.a_D ?l ?c ?k;(case l=>k_is);(case c=>k_is);(case k=>k_is));(case aLet=>k_is);(case iLet=>k_is);(case FLet=>refine' L2.a_D ?l ?c ?k;(case l=>k_is);(case c=>k_is);(case k=>k_is))
  (case aBA=>k_is);(case iBA=>k_is);(case FBA=>refine' L2.a_D ?l ?c ?k;(case l=>k_is);(case c=>k_is);(case k=>k_is));(case aRA=>k_is);(case iRA=>k_is);(case FRA=>refine' L2.a_D ?l ?c ?k;(case l=>k_is);(case c=>k_is);(case k=>k_is))
  (case aSplit=>k_is);(case iSplit=>k_is);(case FSplit=>refine' L2.a_D ?l ?c ?k;(case l=>k_is);(case c=>k_is);(case k=>k_is));(case aJoin=>k_is);(case iJoin=>k_is);(case FJoin=>refine' L2.a_D ?l ?c ?k;(case l=>k_is);(case c=>k_is);(case k=>k_is))
  (case aSInit=>k_is);(case iSInit=>k_is);(case FSInit=>refine' L2.a_D ?l ?c ?k;(case l=>k_is);(case c=>k_is);(case k=>k_is));(case aSBring=>k_is);(case iSBring=>k_is);(case FSBring=>refine' L2.a_D ?l ?c ?k;(case l=>k_is);(case c=>k_is);(case k=>k_is))
  (case aSAlter=>k_is);(case iSAlter=>k_is);(case FSAlter=>refine' L2.a_D ?l ?c ?k;(case l=>k_is);(case c=>k_is);(case k=>k_is));(case aSCut=>k_is);(case iSCut=>k_is);(case FSCut=>refine' L2.a_D ?l ?c ?k;(case l=>k_is);(case c=>k_is);(case k=>k_is))
  (case aSBegin=>k_is);(case iSBegin=>k_is);(case FSBegin=>refine' L2.a_D ?l ?c ?k;(case l=>k_is);(case c=>k_is);(case k=>k_is));(case aSKeep=>k_is);(case iSKeep=>k_is);(case FSKeep=>refine' L2.a_D ?l ?c ?k;(case l=>k_is);(case c=>k_is);(case k=>k_is))
  (case aSBreak=>k_is);(case iSBreak=>k_is);(case FSBreak=>refine' L2.a_D ?l ?c ?k;(case l=>k_is);(case c=>k_is);(case k=>k_is));(case aSRowOf=>k_is);(case iSRowOf=>k_is);(case FSRowOf=>refine' L2.a_D ?l ?c ?k;(case l=>k_is);(case c=>k_is);(case k=>k_is))
  (case aSEnd=>k_is);(case iSEnd=>k_is);(case FSEnd=>refine' L2.a_D ?l ?c ?k;(case l=>k_is);(case c=>k_is);(case k=>k_is));(case aSChange=>k_is);(case iSChange=>k_is);(case FSChange=>refine' L2.a_D ?l ?c ?k;(case l=>k_is);(case c=>k_is);(case k=>k_is))
  (case aSExch=>k_is);(case iSExch=>k_is);(case FSExch=>refine' L2.a_D ?l ?c ?k;(case l=>k_is);(case c=>k_is);(case k=>k_is));(case aCW=>k_is);(case FCW=>refine' L2.a_D ?l ?c ?k;(case l=>k_is);(case c=>k_is);(case k=>k_is));(case aLead=>k_is)
  (case FLead=>refine' L2.a_D ?l ?c ?k;(case l=>k_is);(case c=>k_is);(case k=>k_is));(case aKey=>k_is);(case FKey=>refine' L2.a_D ?l ?c ?k;(case l=>k_is);(case c=>k_is);(case k=>k_is));(case aStoreWith=>k_is);(case FStoreWith=>refine' L2.a_D ?l ?c ?k;(case l=>k_is);(case c=>k_is);(case k=>k_is));(case aWhole=>k_is)
  (case FWhole=>refine' L2.a_D ?l ?c ?k;(case l=>k_is);(case c=>k_is);(case k=>k_is));(case aAt=>k_is);(case FAt=>refine' L2.a_D ?l ?c ?k;(case l=>k_is);(case c=>k_is);(case k=>k_is));(case aSame=>k_is);(case FSame=>refine' L2.a_D ?l ?c ?k;(case l=>k_is);(case c=>k_is);(case k=>k_is));(case aTexts=>k_is)
  (case FTexts=>refine' L2.a_D ?l ?c ?k;(case l=>k_is);(case c=>k_is);(case k=>k_is));(case aDrawn=>k_is);(case FDrawn=>refine' L2.a_D ?l ?c ?k;(case l=>k_is);(case c=>k_is);(case k=>k_is));(case aFar=>k_is);(case FFar=>refine' L2.a_D ?l ?c ?k;(case l=>k_is);(case c=>k_is);(case k=>k_is));(case aChangeOf=>k_is)
  (case FChangeOf=>refine' L2.a_D ?l ?c ?k;(case l=>k_is);(case c=>k_is);(case k=>k_is));(case aQuestionOf=>k_is);(case FQuestionOf=>refine' L2.a_D ?l ?c ?k;(case l=>k_is);(case c=>k_is);(case k=>k_is));(case aBringsOf=>k_is);(case FBringsOf=>refine' L2.a_D ?l ?c ?k;(case l=>k_is);(case c=>k_is);(case k=>k_is));(case aDeedsOf=>k_is)
  (case FDeedsOf=>refine' L2.a_D ?l ?c ?k;(case l=>k_is);(case c=>k_is);(case k=>k_is));(case aNewStore=>k_is);(case FNewStore=>refine' L2.a_D ?l ?c ?k;(case l=>k_is);(case c=>k_is);(case k=>k_is));(case aChanged=>k_is);(case FChanged=>refine' L2.a_D ?l ?c ?k;(case l=>k_is);(case c=>k_is);(case k=>k_is));(case aAnswered=>k_is)
  (case FAnswered=>refine' L2.a_D ?l ?c ?k;(case l=>k_is);(case c=>k_is);(case k=>k_is));(case aDoneBy=>k_is);(case FDoneBy=>refine' L2.a_D ?l ?c ?k;(case l=>k_is);(case c=>k_is);(case k=>k_is));(case aSaid=>k_is);(case FSaid=>refine' L2.a_D ?l ?c ?k;(case l=>k_is);(case c=>k_is);(case k=>k_is));(case aAsDue=>k_is)
  (case FAsDue=>refine' L2.a_D ?l ?c ?k;(case l=>k_is);(case c=>k_is);(case k=>k_is));(case aRefAny=>k_is);(case FRefAny=>refine' L2.a_D ?l ?c ?k;(case l=>k_is);(case c=>k_is);(case k=>k_is));(case aRowOr=>k_is);(case FRowOr=>refine' L2.a_D ?l ?c ?k;(case l=>k_is);(case c=>k_is);(case k=>k_is));(case aNoOrd=>k_is)
  (case FNoOrd=>refine' L2.a_D ?l ?c ?k;(case l=>k_is);(case c=>k_is);(case k=>k_is));(case aStep=>k_is);(case FStep=>refine' L2.a_D ?l ?c ?k;(case l=>k_is);(case c=>k_is);(case k=>k_is));(case aRaised=>k_is);(case FRaised=>refine' L2.a_D ?l ?c ?k;(case l=>k_is);(case c=>k_is);(case k=>k_is));(case aRanked=>k_is)
  (case FRanked=>refine' L2.a_D ?l ?c ?k;(case l=>k_is);(case c=>k_is);(case k=>k_is));(case aSigned=>k_is);(case FSigned=>refine' L2.a_D ?l ?c ?k;(case l=>k_is);(case c=>k_is);(case k=>k_is));(case aMoved=>k_is);(case FMoved=>refine' L2.a_D ?l ?c ?k;(case l=>k_is);(case c=>k_is);(case k=>k_is));(case aDeedMoved=>k_is)
  (case FDeedMoved=>refine' L2.a_D ?l ?c ?k;(case l=>k_is);(case c=>k_is);(case k=>k_is));(case aRoomOf=>k_is);(case FRoomOf=>refine' L2.a_D ?l ?c ?k;(case l=>k_is);(case c=>k_is);(case k=>k_is));(case aRowRight=>k_is);(case FRowRight=>refine' L2.a_D ?l ?c ?k;(case l=>k_is);(case c=>k_is);(case k=>k_is));(case aLaw=>k_is)
  (case FLaw=>refine' L2.a_D ?l ?c ?k;(case l=>k_is);(case c=>k_is);(case k=>k_is));(case pgCO=>k_is);(case hdCO=>k_is);(case poCO=>k_is);(case saCO=>k_is);(case mkCO=>k_is)
  (case kcCO=>k_is);(case pgCS=>k_is);(case hdCS=>k_is);(case poCS=>k_is);(case saCS=>k_is);(case mkCS=>k_is)
  (case kcCS=>k_is);(case nCO_word=>k_is);(case nCO_blocks=>k_is);(case nCO_bring=>k_is);(case nCS_room=>k_is);(case nCS_by_number=>k_is)
  (case nCS_by_rank=>k_is);(case nCS_by_text=>k_is);(case nCS_steps=>k_is);(case nCS_marks=>k_is);(case q1=>k_is);(case q2=>k_is)
  (case q3=>k_is);(case q4=>k_is);(case aCT=>k_is);(case xCT=>k_exc);(case aCF=>k_is);(case xCF=>k_exc)
  (case aCM=>k_is);(case xCM=>k_exc);(case aCN=>k_is);(case xCN=>k_exc);(case aCNo=>k_is);(case xCNo=>k_exc)
  (case ett=>kts_exm);(case emt=>kts_exm);(case emm=>kts_exm);(case eft=>kts_exm);(case efm=>kts_exm);(case eff=>kts_exm)
  (case ent=>kts_exm);(case enm=>kts_exm);(case enf=>kts_exm);(case enn=>kts_exm);(case eot=>kts_exm);(case eom=>kts_exm)
  (case eof=>kts_exm);(case eon=>kts_exm);(case eoo=>kts_exm);(case eEt=>kts_exm);(case eEm=>kts_exm);(case eEf=>kts_exm)
  (case eEn=>kts_exm);(case eEo=>kts_exm);(case spc=>k_is);(case tkc=>k_is);(case pgCT=>k_is);(case phCT=>k_is)
  (case mbCT=>k_is);(case fcCT=>k_is);(case mrCT=>k_is);(case pgCM=>k_is);(case phCM=>k_is);(case mbCM=>k_is)
  (case fcCM=>k_is);(case mrCM=>k_is);(case pgCF=>k_is);(case phCF=>k_is);(case mbCF=>k_is);(case fcCF=>k_is)
  (case mrCF=>k_is);(case pgCN=>k_is);(case phCN=>k_is);(case mbCN=>k_is);(case fcCN=>k_is);(case mrCN=>k_is)
  (case pgCNo=>k_is);(case phCNo=>k_is);(case mbCNo=>k_is);(case fcCNo=>k_is);(case mrCNo=>k_is);(case kt_f=>kit_is)
  (case kt_m=>kit_is);(case kt_o=>kit_is);(case kt_n=>kit_is);(case kt_t=>kit_is);(case km_f=>kit_is);(case km_m=>kit_is)
  (case km_o=>kit_is);(case km_n=>kit_is);(case km_t=>kit_is);(case kf_f=>kit_is);(case kf_m=>kit_is);(case kf_o=>kit_is)
  (case kf_n=>kit_is);(case kf_t=>kit_is);(case kn_f=>kit_is);(case kn_m=>kit_is);(case kn_o=>kit_is);(case kn_n=>kit_is)
  (case kn_t=>kit_is);(case ko_f=>kit_is);(case ko_m=>kit_is);(case ko_o=>kit_is);(case ko_n=>kit_is);(case ko_t=>kit_is)
  (case kt_v=>kit_is);(case km_v=>kit_is);(case kf_v=>kit_is);(case kn_v=>kit_is);(case ko_v=>kit_is);(case zlen=>k_is)
  (case zmin=>k_is);(case zsum=>k_is);(case zisinstance=>k_is);(case zint=>k_is);(case zbool=>k_is);(case zlist=>k_is)
  (case ztuple=>k_is);(case zstr=>k_is);(case zsorted=>k_is);(case zrange=>k_is);(case zValueError=>k_is);(case nb=>k_is)
#print axioms PySem.Challenge.cw_twoorders_k07_a_store_by_hand_holds
