import PyProof.Rows.All
import Wide.All
import OpenK.AllK
import Wide.FinOn
import Lean
import PyProof.EqAt
import PyProof.EqKinds
import PyProof.TupleCall
import PyProof.ReprStr
import KE.KTryMore
import KE.RegKTryMore
import PySem.Challenge.RW_twoorders_k05_whole_broken_off
set_option linter.all false
set_option maxRecDepth 100000
set_option maxHeartbeats 4000000
set_option Elab.async false
def r_W:=@List.length_map
def r_X:=@List.getElem?_eq_getElem
def r_Y:=@List.length_append
def r_Z:=@List.mem_cons_of_mem
def r_0:=@List.mem_cons_self
def r_1:=@List.mem_singleton
def r_2:=@List.length_cons
def r_3:=@Option.some.inj
def r_4:=@List.map_append
def r_5:=@Nat.le_refl
def r_6:=@List.size_toArray
def r_7:=@List.mem_cons
def r_8:=@List.getElem?_map
def r_9:=@List.mem_append_right
def s_a:=@List.getElem?_eq_some_iff
def s_b:=@List.map_cons
def s_c:=@Nat.lt_of_lt_of_le
def s_d:=@Bool.false_ne_true
def s_e:=@List.mem_append
def s_f:=@List.getD_eq_getElem?_getD
def s_g:=@List.take_of_length_le
def s_h:=@Nat.le_trans
def s_i:=@List.length_take
def s_j:=@List.flatten_append
def s_k:=@Nat.ne_of_lt
def s_l:=@List.filter_cons
def s_m:=@List.mem_of_getElem?
def s_n:=@List.take_add_one
def s_o:=@Nat.zero_le
def s_p:=@List.flatten_cons
def s_q:=@List.nodup_cons
def s_r:=@List.mem_map
def s_s:=@List.length_eq_zero_iff
def s_t:=@List.append_nil
def s_u:=@List.length_singleton
def s_v:=@List.mem_append_left
def s_w:=@List.length_nil
def s_x:=@List.length_filter_le
def s_y:=@List.length_reverse
def s_z:=@List.take_append_drop
def s_A:=@List.pairwise_cons
def s_B:=@Nat.lt_of_le_of_lt
def s_C:=@decide_eq_true
def s_D:=@decide_eq_false
def s_E:=@of_decide_eq_true
def s_F:=@PySem.boot_len
def s_G:=@PySem.F.plainAttrs_list
def s_H:=@PySem.F.type_list_append
def s_I:=@PySem.F.slot_list_append
namespace L2
open PySem PySem.Spec PyProof.Rows
abbrev Key:=Sum Int Str
def i_W:Key->Value->Bool
 | .inl k,v=>Value.isInt k v
 | .inr x,v=>Value.isStrOf x v
def r_A (w:World):Key->Int
 | .inl k=>hashInt k
 | .inr x=>hashStr w x
theorem a_6:∀{k:Key} {v:Value},i_W k v=true->(∃i t,k=Sum.inl i/\v=Value.int i t)\/(∃x t,k=Sum.inr x/\v=Value.str x t)
 | .inl i,v,h=>by
   obtain⟨t,e⟩:=Value.isInt_shape (k:=i) (v:=v) h;exact .inl ⟨i,t,rfl,e⟩
 | .inr x,v,h=>by
   obtain⟨t,e⟩:=Value.isStrOf_shape (x:=x) (v:=v) h;exact .inr ⟨x,t,rfl,e⟩
theorem k_w (i:Int) (t:Tok):i_W (.inl i) (.int i t)=true:=by simp[i_W,Value.isInt]
theorem i_4 (x:Str) (t:Tok):i_W (.inr x) (.str x t)=true:=by simp[i_W,Value.isStrOf]
theorem p_g (a b:Int):decide ((Sum.inl a:Key)=Sum.inl b)=(a == b):=by
 by_cases e:a=b
 ·subst e;simp
 ·have h:¬ (Sum.inl a:Key)=Sum.inl b:=λq=>e (Sum.inl.inj q)
  rw[s_D h];exact (beq_eq_false_iff_ne.mpr e).symm
theorem o_X (a b:Str):decide ((Sum.inr a:Key)=Sum.inr b)=decide (a=b):=by
 by_cases e:a=b
 ·subst e;simp
 ·have h:¬ (Sum.inr a:Key)=Sum.inr b:=λq=>e (Sum.inr.inj q)
  rw[s_D h,s_D e]
theorem o_A (a:Int) (b:Str):decide ((Sum.inl a:Key)=Sum.inr b)=false:=s_D (λq=>nomatch q)
theorem p_o (a:Str) (b:Int):decide ((Sum.inr a:Key)=Sum.inl b)=false:=s_D (λq=>nomatch q)
def a_X (prog:Program) (w:World):PySem.KeyKind prog w Key where
 is:=i_W
 hash:=r_A w
 inj:=λv a b ha hb=>by
  rcases a_6 ha with⟨i,t,rfl,rfl⟩ | ⟨x,t,rfl,rfl⟩
  ·rcases a_6 hb with⟨j,u,rfl,e⟩ | ⟨y,u,rfl,e⟩
   ·injection e with e1 _;rw[e1]
   ·exact nomatch e
  ·rcases a_6 hb with⟨j,u,rfl,e⟩ | ⟨y,u,rfl,e⟩
   ·exact nomatch e
   ·injection e with e1 _;rw[e1]
 byValue:=λk v h=>by
  rcases a_6 h with⟨i,t,rfl,rfl⟩ | ⟨x,t,rfl,rfl⟩ <;> rfl
 pyHash:=λhv h=>by
  rcases a_6 hv with⟨i,t,rfl,rfl⟩ | ⟨x,t,rfl,rfl⟩
  ·exact wpAny_pyHash_int h
  ·exact wpAny_pyHash_str h
 eqBool:=λhu hv h=>by
  rcases a_6 hu with⟨i,t,rfl,rfl⟩ | ⟨x,t,rfl,rfl⟩
  ·rcases a_6 hv with⟨j,u,rfl,rfl⟩ | ⟨y,u,rfl,rfl⟩
   ·rw[p_g] at h;exact wpAny_eqBool_int h
   ·rw[o_A] at h;exact SeqAt.EqAt.int_str i t y u _ _ _ _ h
  ·rcases a_6 hv with⟨j,u,rfl,rfl⟩ | ⟨y,u,rfl,rfl⟩
   ·rw[p_o] at h;exact SeqAt.EqAt.str_int x t j u _ _ _ _ h
   ·rw[o_X] at h;exact wpAny_eqBool_str h
 «strs»:=λk x t v h=>by
  rcases a_6 h with⟨i,u,rfl,e⟩ | ⟨y,u,rfl,e⟩
  ·exact nomatch e
  ·injection e with e1 _
   subst e1
   cases v <;> rfl
theorem h_g (prog:Program) (w:World) (i:Int) (t:Tok):(a_X prog w).is (.inl i) (.int i t)=true:=k_w i t
theorem h_k (prog:Program) (w:World) (x:Str) (t:Tok):(a_X prog w).is (.inr x) (.str x t)=true:=i_4 x t
inductive V where
 | non | bl (b:Bool) | int (i:Int) | str (x:Str) | byt (b:Array UInt8) | flt (b:UInt64) | ref (a:Addr) | ty (n:String)
 deriving DecidableEq
def RelV:V->Value->Prop
 | .non,u=>u=Value.none
 | .bl b,u=>u=Value.bool b
 | .int i,u=>∃t,u=Value.int i t
 | .str x,u=>∃t,u=Value.str x t
 | .byt b,u=>∃t,u=Value.bytes b t
 | .flt b,u=>∃t,u=Value.float b t
 | .ref a,u=>u=Value.ref a
 | .ty n,u=>u=Value.type n
abbrev Vals:List V->List Value->Prop:=Paired RelV
theorem Vals.length {xs:List V} {us:List Value} (r:Vals xs us):xs.length=us.length:=Paired.length r
theorem Vals.get:∀{xs:List V} {us:List Value} {i:Nat} {x:V},Vals xs us->xs[i]? =some x->∃u,us[i]? =some u/\RelV x u
 | _,_,_,_,.nil,e=>by simp at e
 | _,_,0,_,.cons r _,e=>by simp at e;subst e;exact⟨_,rfl,r⟩
 | _,_,i+1,x,.cons _ t,e=>by
   obtain⟨u,h1,h2⟩:=Vals.get (i:=i) (x:=x) t (by simpa using e);exact⟨u,by simpa using h1,h2⟩
theorem Vals.set {x:V} {u:Value} (r:RelV x u):∀{xs:List V} {us:List Value} (i:Nat),Vals xs us->Vals (xs.set i x) (us.set i u)
 | _,_,_,.nil=> .nil
 | _,_,0,.cons _ t=> .cons r t
 | _,_,i+1,.cons q t=> .cons q (Vals.set r i t)
theorem Vals.append:∀{xs ys:List V} {us ws:List Value},Vals xs us->Vals ys ws->Vals (xs++ys) (us++ws)
 | _,_,_,_,.nil,s=>s
 | _,_,_,_,.cons r t,s=> .cons r (Vals.append t s)
theorem Vals.take:∀{xs:List V} {us:List Value} (n:Nat),Vals xs us->Vals (xs.take n) (us.take n)
 | _,_,0,_=> .nil
 | _,_,_+1,.nil=> .nil
 | _,_,n+1,.cons r t=> .cons r (Vals.take n t)
theorem Vals.drop:∀{xs:List V} {us:List Value} (n:Nat),Vals xs us->Vals (xs.drop n) (us.drop n)
 | _,_,0,r=>r
 | _,_,_+1,.nil=> .nil
 | _,_,n+1,.cons _ t=>Vals.drop n t
def RelO:Option V->Option Value->Prop
 | some v,some u=>RelV v u
 | none,none=>True
 | _,_=>False
def KV {κ:Type}:List (κ×V)->List (κ×Value)->Prop:=Paired λ(p:κ×V) (q:κ×Value)=>p.1=q.1/\RelV p.2 q.2
def kV:Key->V
 | .inl i=> .int i
 | .inr x=> .str x
inductive HO where
 /-- a list -/
 | lst (xs:List V)
 /-- a tuple (never changes) -/
 | tup (xs:List V)
 /-- a dict whose keys are ints and texts;one whose keys are tuples of ints and texts (the empty one is both) -/
 | dK (kvs:List (Key×V)) | dT (kvs:List (List Key×V))
 /-- a set of ints:its members,its size -/
 | set (S:Int->Bool) (n:Nat)
 /-- an instance of the class at C,its dict at dx,its attributes -/
 | ins (C dx:Addr) (fs:List (Str×V))
 /-- the dict of the instance at x -/
 | own (x:Addr)
 /-- the dict of an exception -/
 | xd (fs:List (Str×V))
 /-- a bound method,f of x -/
 | met (f x:Addr)
 /-- a range object lo,lo+1,.. below hi -/
 | rng (lo hi:Int)
 /-- a thing that is known to the object (the script;a dict while a loop walks it):read,never written while it is so -/
 | frz (o:Obj) (u:HO)
 /-- a code object's table -/
 | tbl (ps:Array Value)
 /-- any other thing,by what is true of its one object (a def of one's own:SetO a S n:=HO.ext λh=> ..) -/
 | ext (φ:Heap->Prop)
abbrev Hp:=Addr->Option HO
def upd (H:Hp) (a:Addr) (o:HO):Hp:=λb=>if b=a then some o else H b
theorem a_b {H:Hp} {a:Addr} {o:HO}:upd H a o a=some o:=by unfold upd;rw[if_pos rfl]
theorem a_i {H:Hp} {a b:Addr} {o:HO} (h:b≠a):upd H a o b=H b:=by unfold upd;rw[if_neg h]
theorem f_Q {H:Hp} {a b:Addr} {o u:HO} (h:H a=some o) (h':H b=some u) (d:o≠u):a≠b:=by
 intro e;subst e;rw[h] at h';exact d (r_3 h')
theorem a_h {H:Hp} {a b:Addr} {o:HO} (h:H a=some o) (h':H b=none):a≠b:=by
 intro e;subst e;rw[h] at h';cases h'
section
variable (P:Program) (w:World)
def ObjOk (H:Hp) (h:Heap) (a:Addr):HO->Prop
 | .lst xs=>xs.length<=sizeLine/\∃(its:List Value) (n:Nat),Vals xs its/\h.get? a=some { cls:= .type "list",data:= .seq its.toArray n }
 | .tup xs=>xs.length<=sizeLine/\∃its:List Value,Vals xs its/\IsTup h a its.toArray
 | .dK kvs=>kvs.length<=sizeLine/\(a == sysModules)=false/\∃vs,KV kvs vs/\h.DictOf (a_X P w) a vs
 | .dT kvs=>kvs.length≤sizeLine∧(a == sysModules)=false∧∃xs:List (List Key×Addr×Value),
    Paired (λ(p:List Key×V) (q:List Key×Addr×Value)=>p.1=q.1/\H q.2.1=some (.tup (p.1.map kV))/\RelV p.2 q.2.2) kvs xs/\
    ∃o es ep,h.get? a=some o/\o.ExactDict/\o.data= .dict es ep/\es.toList=xs.map (entryOfKey (tupleKind (a_X P w)))/\(xs.map (·.1)).Nodup
 | .set S n=>h.SetOf (intKind P w) a S n
 | .ins C dx fs=>H dx=some (.own a)∧fs.length≤1000∧dx≠a∧h.get? a=some (PySem.W.instObj C dx)∧
    ∃mA,h.Ns1 dx mA/\(∀f,RelO (fs.lookup f) (mA f))/\PySem.Within mA (fs.map (·.1))
 | .own _=>∃o,h.get? a=some o
 | .xd fs=>∃mA,h.Ns1 a mA/\∀f,RelO (fs.lookup f) (mA f)
 | .rng lo hi=>∃t u v,h.get? a=some { cls:= .type "range",data:= .fields #[.int lo t,.int hi u,.int 1 v] }
 | .frz o u=>h.get? a=some o/\ObjOk H h a u
 | .tbl ps=>h.get? a=some { cls:= .none,data:= .fields ps }
 | .met f x=>h.get? a=some (PySem.W.methodObj (.ref f) (.ref x))
 | .ext φ=>φ h/\(∃o,h.get? a=some o)/\∀h1 h2:Heap,φ h1->(∀o,h1.get? a=some o->h2.get? a=some o)->φ h2
def HOk (H:Hp) (h:Heap):Prop:=∀a o,H a=some o->ObjOk P w H h a o
end
section
variable {P:Program} {w:World} {H H':Hp} {h h':Heap} {a:Addr} {o:HO}
theorem ObjOk.lt (x:ObjOk P w H h a o):a < h.objs.size:=by
 cases o with
 | lst xs=>obtain⟨_,_,_,_,e⟩:=x;exact Heap.lt_size e
 | tup xs=>obtain⟨_,_,_,p⟩:=x;exact p.lt
 | dK kvs=>obtain⟨_,_,_,_,o,_,_,e,_⟩:=x;exact Heap.lt_size e
 | dT kvs=>obtain⟨_,_,_,_,o,_,_,e,_⟩:=x;exact Heap.lt_size e
 | set S n=>obtain⟨o,_,_,_,e,_⟩:=x;exact Heap.lt_size e
 | ins C dx fs=>obtain⟨_,_,_,e,_⟩:=x;exact Heap.lt_size e
 | own y=>obtain⟨_,e⟩:=x;exact Heap.lt_size e
 | xd fs=>obtain⟨_,⟨_,_,_,e,_⟩,_⟩:=x;exact Heap.lt_size e
 | rng lo hi=>obtain⟨_,_,_,e⟩:=x;exact Heap.lt_size e
 | frz ob u=>obtain⟨e,_⟩:=x;exact Heap.lt_size e
 | tbl ps=>exact Heap.lt_size (show h.get? a=some _ from x)
 | met f y=>exact Heap.lt_size (show h.get? a=some _ from x)
 | ext φ=>obtain⟨_,⟨_,e⟩,_⟩:=x;exact Heap.lt_size e
theorem Paired.mapP {α β:Type} {F G:α->β->Prop}:∀{l₁:List α} {l₂:List β},Paired F l₁ l₂->(∀a b,F a b->G a b)->Paired G l₁ l₂
 | _,_,.nil,_=> .nil
 | _,_,.cons r t,f=> .cons (f _ _ r) (Paired.mapP t f)
theorem ObjOk.stay (x:ObjOk P w H h a o) (k:∀b u,(b=a\/H b=some (.own a))->h.get? b=some u->h'.get? b=some u)
 (ho:∀b,H b=some (.own a)->H' b=some (.own a)) (ht:∀b xs,H b=some (.tup xs)->H' b=some (.tup xs)):ObjOk P w H' h' a o:=by
 induction o with
 | lst xs=>obtain⟨z,its,n,r,e⟩:=x;exact⟨z,its,n,r,k _ _ (.inl rfl) e⟩
 | tup xs=>obtain⟨z,its,r,ob,e,c⟩:=x;exact⟨z,its,r,ob,k _ _ (.inl rfl) e,c⟩
 | dK kvs=>obtain⟨z,y,vs,r,ob,es,ep,e,c⟩:=x;exact⟨z,y,vs,r,ob,es,ep,k _ _ (.inl rfl) e,c⟩
 | dT kvs=>
   obtain⟨z,y,xs,r,ob,es,ep,e,c⟩:=x;exact⟨z,y,xs,Paired.mapP r λp q z=>⟨z.1,ht _ _ z.2.1,z.2.2⟩,ob,es,ep,k _ _ (.inl rfl) e,c⟩
 | set S n=>obtain⟨ob,es,ep,t,e,c⟩:=x;exact⟨ob,es,ep,t,k _ _ (.inl rfl) e,c⟩
 | ins C dx fs=>
   obtain⟨d,z,ne,e,mA,⟨od,es,ep,e2,c⟩,r⟩:=x;exact⟨ho _ d,z,ne,k _ _ (.inl rfl) e,mA,⟨od,es,ep,k _ _ (.inr d) e2,c⟩,r⟩
 | own y=>obtain⟨ob,e⟩:=x;exact⟨ob,k _ _ (.inl rfl) e⟩
 | xd fs=>obtain⟨mA,⟨od,es,ep,e,c⟩,r⟩:=x;exact⟨mA,⟨od,es,ep,k _ _ (.inl rfl) e,c⟩,r⟩
 | rng lo hi=>obtain⟨t,u,v,e⟩:=x;exact⟨t,u,v,k _ _ (.inl rfl) e⟩
 | frz ob u ih=>obtain⟨e,q⟩:=x;exact⟨k _ _ (.inl rfl) e,ih q⟩
 | tbl ps=>
   have e:h.get? a=some { cls:= .none,data:= .fields ps }:=x;show h'.get? a=some { cls:= .none,data:= .fields ps };exact k a _ (.inl rfl) e
 | met f y=>
   have e:h.get? a=some (PySem.W.methodObj (.ref f) (.ref y)):=x;show h'.get? a=some (PySem.W.methodObj (.ref f) (.ref y));exact k a _ (.inl rfl) e
 | ext φ=>obtain⟨p,⟨o,e⟩,st⟩:=x;exact⟨st _ _ p λo q=>k _ _ (.inl rfl) q,⟨o,k _ _ (.inl rfl) e⟩,st⟩
theorem HOk.lt (x:HOk P w H h) (e:H a=some o):a < h.objs.size:=(x a o e).lt
theorem HOk.fresh (x:HOk P w H h) (e:h.objs.size<=a):H a=none:=by
 cases q:H a with
 | none=>rfl
 | some u=>exact absurd (s_c (x.lt q) e) (Nat.lt_irrefl _)
theorem HOk.kept (x:HOk P w H h) (k:∀b u,h.get? b=some u->h'.get? b=some u):HOk P w H h':=λa o e=>
 (x a o e).stay (λb u _ q=>k b u q) (λ_ q=>q) λ_ _ q=>q
theorem HOk.laid (x:HOk P w H h) (k:∀b u,h.get? b=some u->h'.get? b=some u) (hp:h.objs.size<=a) (new:ObjOk P w (upd H a o) h' a o):HOk P w (upd H a o) h':=λb u e=>by
 have hn:=x.fresh hp;by_cases hb:b=a
 ·subst hb;rw[a_b] at e;cases e;exact new
 ·rw[a_i hb] at e
  exact (x b u e).stay (λc v _ q=>k c v q) (λc q=>by rw[a_i (a_h q hn)];exact q) λc xs q=>by rw[a_i (a_h q hn)];exact q
end
def Rd (H:Hp) (a:Addr) (u:HO):Prop:=H a=some u\/∃o,H a=some (.frz o u)
theorem Rd.ok {P:Program} {w:World} {H:Hp} {h:Heap} {a:Addr} {u:HO} (r:Rd H a u) (x:HOk P w H h):ObjOk P w H h a u:=by
 rcases r with r | ⟨o,r⟩
 ·exact x a u r
 ·obtain⟨_,q⟩:=x a _ r
  exact q
def Mut:Option HO->Prop
 | some (.lst _)=>True
 | some (.dK _)=>True
 | some (.dT _)=>True
 | some (.set _ _)=>True
 | some (.ins _ _ _)=>True
 | some (.ext _)=>True
 | _=>False
section
variable {P:Program} {w:World} {H:Hp} {h h':Heap} {x e:Addr} {o':HO}
theorem HOk.write (ok:HOk P w H h) (mu:Mut (H x)) (he:e=x\/H e=some (.own x)) (k:∀b u,b≠e->h.get? b=some u->h'.get? b=some u) (heo:∃u,h'.get? e=some u)
 (new:ObjOk P w (upd H x o') h' x o'):HOk P w (upd H x o') h':=λb u q=>by
 have nown:∀c y,H c=some (.own y)->c≠x:=λc y r z=>by subst z;rw[r] at mu;exact mu
 have ntup:∀c xs,H c=some (.tup xs)->c≠x:=λc xs r z=>by subst z;rw[r] at mu;exact mu
 by_cases hb:b=x
 ·subst hb;rw[a_b] at q;cases q;exact new
 ·rw[a_i hb] at q
  by_cases a:b=e
  ·have q':H b=some (.own x):=by
    rcases he with z | z
    ·exact absurd (a.trans z) hb
    ·rw[a];exact z
   rw[q] at q';cases q';obtain⟨v,hv⟩:=heo;exact⟨v,by rw[a];exact hv⟩
  ·refine (ok b u q).stay (λc v hc r=>k c v ?_ r) (λc r=>by rw[a_i (nown c b r)];exact r) λc xs r=>by rw[a_i (ntup c xs r)];exact r
   rcases hc with rfl | hc
   ·exact a
   ·rintro rfl
    rcases he with z | z
    ·exact nown c b hc z
    ·rw[hc] at z;cases z;exact hb rfl
end
structure Un (fs ex:List Addr) (H H':Hp) (h h':Heap):Prop where
 keep:∀b o,h.get? b=some o->H b=none->b∉fs->b∉ex->h'.get? b=some o
 slot:∀b o,h.get? b=some o->H b=none->b∈fs->b∉ex->∃sl,h'.get? b=some { o with slots:=sl }
 free:∀b o,h.get? b=some o->H b=none->b∉ex->H' b=none
 there:∀b o,h.get? b=some o->b∉ex->∃o',h'.get? b=some o'
 tups:∀b xs,H b=some (.tup xs)->H' b=some (.tup xs)
 frzs:∀b o u,H b=some (.frz o u)->H' b=some (.frz o u)
 tbls:∀b ps,H b=some (.tbl ps)->∃more,H' b=some (.tbl (ps++more))
section
variable {fs fs' ex ex':List Addr} {H H1 H2:Hp} {h h1 h2 h':Heap} {a x e:Addr} {o:HO}
theorem Un.any (u:Un fs ex H H1 h h1) {b:Addr} {ob:Obj} (q:h.get? b=some ob) (n:H b=none) (hx:b∉ex):∃sl,h1.get? b=some { ob with slots:=sl }:=by
 by_cases hb:b∈fs
 ·exact u.slot b ob q n hb hx
 ·exact⟨ob.slots,u.keep b ob q n hb hx⟩
theorem Un.kept (k:∀b u,h.get? b=some u->h'.get? b=some u):Un fs ex H H h h':=
 ⟨λb ob q _ _ _=>k b ob q,λb ob q _ _ _=>⟨ob.slots,k b ob q⟩,λ_ _ _ n _=>n,λb ob q _=>⟨ob,k b ob q⟩,λ_ _ q=>q,λ_ _ _ q=>q,λ_ ps q=>⟨#[],by rw[q];simp⟩⟩
theorem Un.refl:Un fs ex H H h h:=Un.kept λ_ _ q=>q
theorem Un.laid (k:∀b u,h.get? b=some u->h'.get? b=some u) (hp:h.objs.size<=a) (hn:H a=none):Un fs ex H (upd H a o) h h' where
 keep:=λb u q _ _ _=>k b u q
 slot:=λb u q _ _ _=>⟨u.slots,k b u q⟩
 free:=λb u q n _=>by rw[a_i (s_k (s_c (Heap.lt_size q) hp))];exact n
 there:=λb u q _=>⟨u,k b u q⟩
 tups:=λb xs q=>by rw[a_i (a_h q hn)];exact q
 frzs:=λb u xs q=>by rw[a_i (a_h q hn)];exact q
 tbls:=λb ps q=>⟨#[],by rw[a_i (a_h q hn),q];simp⟩
theorem Un.write (mu:Mut (H x)) (he:e=x\/H e=some (.own x)) (k:∀b u,b≠e->h.get? b=some u->h'.get? b=some u) (heo:∃u,h'.get? e=some u):Un fs ex H (upd H x o) h h':=by
 have hx:∀b,H b=none->b≠x:=λb n z=>by subst z;rw[n] at mu;exact mu
 have hb:∀b,H b=none->b≠e:=λb n z=>by
  subst z;rcases he with r | r
  ·exact hx b n r
  ·rw[n] at r;cases r
 have hm:∀b u,H b=some u->¬ Mut (some u)->b≠x:=λb u q nm z=>by subst z;rw[q] at mu;exact nm mu
 refine⟨λb u q n _ _=>k b u (hb b n) q,λb u q n _ _=>⟨u.slots,k b u (hb b n) q⟩,λb u q n _=>by rw[a_i (hx b n)];exact n,λb u q _=> ?_,
  λb xs q=>by rw[a_i (hm b _ q λz=>z)];exact q,λb u xs q=>by rw[a_i (hm b _ q λz=>z)];exact q,λb ps q=>⟨#[],by rw[a_i (hm b _ q λz=>z),q];simp⟩⟩
 by_cases a:b=e
 ·subst a;exact heo
 ·exact⟨u,k b u a q⟩
end
def trk (h:Heap) (H:Hp):List Addr:=(List.range h.objs.size).filter λa=>(H a).isSome
def l_T (h:Heap) (H:Hp):Heap:=PySem.W.hideAll h (trk h H)
theorem j_1 (h:Heap) (H:Hp):(l_T h H).objs.size=h.objs.size:=PySem.W.hideAll_size _ _
theorem l_9 {h:Heap} {H:Hp} {b:Addr} {o:Obj} (e:h.get? b=some o) (n:H b=none):(l_T h H).get? b=some o:=
 PySem.W.hideAll_get _ e λhm=>by
  have q:(H b).isSome=true:=(List.mem_filter.mp hm).2;rw[n] at q;simp at q
theorem n_A {h:Heap} {H:Hp} {b:Addr} {o:Obj} (e:(l_T h H).get? b=some o):h.get? b=some o/\H b=none:=by
 have e':h.get? b=some o:=PySem.W.of_hideAll (trk h H) e;refine⟨e',?_⟩;cases q:H b with
 | none=>rfl
 | some x=>
   have hm:b∈trk h H:=List.mem_filter.mpr ⟨List.mem_range.mpr (Heap.lt_size e'),by simp[q]⟩;have z:(l_T h H).get? b=none:=PySem.W.hideAll_none (trk h H) hm;rw[z] at e;cases e
def c_X (g h:Heap) (L:Addr):List (Addr×Obj):=(List.range h.objs.size).filterMap λa=>if a=L\/(g.get? a).isSome=true then none else (h.get? a).map λo=>(a,o)
theorem c_0 {g h:Heap} {L a:Addr} {o:Obj} (h1:a≠L) (h2:g.get? a=none) (h3:h.get? a=some o):(a,o)∈c_X g h L:=
 List.mem_filterMap.mpr ⟨a,List.mem_range.mpr (Heap.lt_size h3),by simp[h1,h2,h3]⟩
theorem e_0 {g h:Heap} {L:Addr} {p:Addr×Obj} (hp:p∈c_X g h L):p.1≠L/\g.get? p.1=none/\h.get? p.1=some p.2:=by
 obtain⟨b,_,e⟩:=List.mem_filterMap.mp hp;split at e
 ·cases e
 ·rename_i hn
  cases q:h.get? b with
  | none=>rw[q] at e;simp at e
  | some u=>
    rw[q] at e;simp only[Option.map_some,Option.some.injEq] at e;subst e;refine⟨λz=>hn (.inl z),?_, q⟩;show g.get? b=none;cases r:g.get? b with
    | none=>rfl
    | some v=>exact (hn (.inr (by simp[r]))).elim
def e_G (g h:Heap) (L d:Addr):List (Addr×Obj):=(c_X g h L).filter λp=>decide (p.1≠d)
theorem l_e {g h:Heap} {L:Addr}:News g L h (c_X g h L):=λp hp=>let ⟨a,b,c⟩:=e_0 hp;⟨c,a,b⟩
structure Mod (K:PySem.W.Frag) (mg:Str->Option Value) (base:Heap):Prop where
 kin:K.In base
 glob:base.Ns mainGlobals mg
 blt:∃mb,base.Ns builtinsNs mb/\∀x:Str,x≠"__name__"->mb x=bootBuiltins x
 nolimit:base.NoLimit
structure Cx where
 prog:Program
 w:World
 K:PySem.W.Frag
 mg:Str->Option Value
 base:Heap
 A:Around
 N:List Str
 s₀:Shared
 H₀:Hp
 env:Env
 outer:List Env
 stack:List Env
 ex:List Addr
 fn:Str->Bool
 calm:Bool
 pn:List (Addr×Obj)
 xe:Value->Shared->Prop
def frs (l:List Env):List Addr:=l.filterMap (·.frame)
abbrev Cx.fs (X:Cx):List Addr:=frs X.outer
def Vis (sc:Scope) (x:Str):Prop:=sc.names.lookup x=some .local\/sc.names.lookup x=some .cell\/sc.names.lookup x=some .free
def Loc (sc:Scope) (x:Str):Prop:=sc.names.lookup x=some .local\/sc.names.lookup x=some .cell
def r_R (env:Env) (h:Heap) (m:Str->Option Value) (x:Str) (u:Value):Prop:=
 (env.kindOf x=some .local/\m x=some u)\/((env.kindOf x=some .cell\/env.kindOf x=some .free)/\∃c,env.cells.lookup x=some c/\h.IsCell c (some u))
structure Cx.Ok (X:Cx):Prop where
 mod:Mod X.K X.mg X.base
 kind:X.env.scope.kind= .function
 glob:X.env.globals=mainGlobals
 blt:X.env.builtins=builtinsNs
 above:X.s₀.heap.objs.size<=X.env.locals
 inj:∀x y c,X.env.cells.lookup x=some c->X.env.cells.lookup y=some c->x=y
 has:∀x,(X.env.kindOf x=some .cell\/X.env.kindOf x=some .free)->∃c,X.env.cells.lookup x=some c
 cab:∀x c,X.fn x=true->X.env.cells.lookup x=some c->X.s₀.heap.objs.size<=c
 hd:X.calm=true->X.A.handled=none
 frames:X.A.frames=some X.stack
 stk:X.stack=X.outer\/(X.stack=X.env::X.outer/\X.env.frame=some X.env.locals)
 exf:∀b∈X.ex,b≠X.env.locals/\∀x c,X.env.cells.lookup x=some c->c≠b
 bs:∀b o,X.base.get? b=some o->X.s₀.heap.get? b=some o/\X.H₀ b=none
 bsz:X.base.objs.size<=X.s₀.heap.objs.size
 noex:∀b o,X.base.get? b=some o->b∉X.ex
 exfs:∀b∈X.ex,b∉X.fs
 funs:X.s₀.heap.FunFrames X.base X.outer
 frf:∀b∈X.fs,X.H₀ b=none
structure Inv (X:Cx) (pins:List (Addr×Obj)) (σ:List (Option V)) (H:Hp) (s:Shared):Prop where
 ok:X.Ok
 os:s.os=X.s₀.os
 bare:AllBare s.gens
 base:Un X.fs X.ex X.H₀ H X.s₀.heap s.heap
 loc:∃m,s.heap.Ns X.env.locals m/\∀(i:Nat) (x:Str) (v:V),X.N[i]? =some x->σ[i]? =some (some v)->Vis X.env.scope x->∃u,RelV v u/\r_R X.env s.heap m x u
 cell:∀x c,X.env.cells.lookup x=some c->∃v,s.heap.IsCell c v
 free:H X.env.locals=none
 freeC:∀x c,X.env.cells.lookup x=some c->H c=none
 pin:∀p∈X.pn++pins,s.heap.get? p.1=some p.2/\H p.1=none/\p.1≠X.env.locals/\p.1∉X.fs/\∀v,p.2.data≠ .cell v
 hok:HOk X.prog X.w H s.heap
 len:σ.length=X.N.length
section
variable {X:Cx} {pins:List (Addr×Obj)} {σ:List (Option V)} {H H':Hp} {s:Shared} {h':Heap}
theorem Cx.Ok.nofr (ok:X.Ok) {b:Addr} {o:Obj} (e:X.base.get? b=some o):b∉X.fs:=λhb=>by
 have:=(ok.funs.mem hb).1;rw[e] at this;cases this
theorem Inv.bs (I:Inv X pins σ H s):∀b o,X.base.get? b=some o->s.heap.get? b=some o/\H b=none:=λb o e=>
 ⟨I.base.keep b o (I.ok.bs b o e).1 (I.ok.bs b o e).2 (I.ok.nofr e) (I.ok.noex b o e),I.base.free b o (I.ok.bs b o e).1 (I.ok.bs b o e).2 (I.ok.noex b o e)⟩
theorem Inv.bk (I:Inv X pins σ H s):∀b o,X.base.get? b=some o->s.heap.get? b=some o:=λb o e=>(I.bs b o e).1
theorem Inv.mod (I:Inv X pins σ H s):Mod X.K X.mg X.base:=I.ok.mod
theorem Inv.kIn (I:Inv X pins σ H s):X.K.In s.heap:=I.ok.mod.kin.keeps I.bk
theorem Inv.nolimit (I:Inv X pins σ H s):s.heap.NoLimit:=I.ok.mod.nolimit.keeps I.bk
theorem Inv.fr (I:Inv X pins σ H s):∃m,Fr X.base X.env.locals s.heap m:=
 let ⟨m,hn,_⟩:=I.loc
 ⟨m,hn,I.bk,s_h I.ok.bsz I.ok.above⟩
theorem Inv.lt (I:Inv X pins σ H s):X.env.locals < s.heap.objs.size:=let ⟨_,hn,_⟩:=I.loc;hn.lt
theorem Inv.sz (I:Inv X pins σ H s):X.s₀.heap.objs.size<=s.heap.objs.size:=s_h I.ok.above (Nat.le_of_lt I.lt)
theorem Inv.nofs (I:Inv X pins σ H s) {a:Addr} (h:s.heap.objs.size<=a):a∉X.fs:=λhb=>by
 obtain⟨_,o,ho,_⟩:=I.ok.funs.mem hb;exact absurd (s_c (Heap.lt_size ho) (s_h I.sz h)) (Nat.lt_irrefl _)
theorem Inv.cne (I:Inv X pins σ H s):∀x c,X.env.cells.lookup x=some c->c≠X.env.locals:=λx c e z=>by
 obtain⟨v,o,ho,hd⟩:=I.cell x c e;obtain⟨m,⟨o',es,ep,ho',hd',_⟩,_⟩:=I.loc;rw[z,ho'] at ho;cases ho;rw[hd'] at hd;cases hd
theorem Inv.funs (I:Inv X pins σ H s):s.heap.FunFrames X.base X.outer:=by
 have all:∀(l:List Env),(∀b∈frs l,b∈X.fs)->X.s₀.heap.FunFrames X.base l->s.heap.FunFrames X.base l:=by
  intro l;induction l with
  | nil=>intro _ _;trivial
  | cons env r ih=>
    intro hs hl;obtain⟨hk,⟨L,o,hf,hn,ho,hd⟩,hr⟩:=hl;have hL:L∈X.fs:=hs L (by unfold frs;rw[List.filterMap_cons,hf];exact r_0);obtain⟨sl,e⟩:=I.base.slot L o ho (I.ok.frf L hL) hL λz=>I.ok.exfs L z hL;exact⟨hk,⟨L,_,hf,hn,e,hd⟩,ih (λb hb=>hs b (by unfold frs;rw[List.filterMap_cons,hf];exact r_Z _ hb)) hr⟩
 exact all X.outer (λ_ hb=>hb) I.ok.funs
theorem Inv.stack (I:Inv X pins σ H s):s.heap.FunFrames X.base X.stack:=by
 rcases I.ok.stk with e | ⟨e,hf⟩
 ·rw[e];exact I.funs
 ·rw[e]
  obtain⟨m,hn,_⟩:=I.loc;refine .cons (by rw[I.ok.kind];decide) hf hn ?_ I.funs;exact Heap.get?_none_of_le (s_h I.ok.bsz I.ok.above)
theorem Inv.stkSub (I:Inv X pins σ H s):∀b∈frs X.stack,b∈X.env.locals::X.fs:=λb hb=>by
 rcases I.ok.stk with e | ⟨e,hf⟩
 ·rw[e] at hb;exact r_Z _ hb
 ·rw[e] at hb
  unfold frs at hb;rw[List.filterMap_cons,hf] at hb;exact hb
theorem Inv.stkFree (I:Inv X pins σ H s):∀b∈frs X.stack,H b=none:=λb hb=>by
 rcases r_7.mp (I.stkSub b hb) with e | hb
 ·rw[e];exact I.free
 ·obtain⟨_,o,ho,_⟩:=I.ok.funs.mem hb
  exact I.base.free b o ho (I.ok.frf b hb) λz=>I.ok.exfs b z hb
theorem Inv.step {g':Array GenState} {t':Nat} {d':Drawn} {ch:List Addr} (I:Inv X pins σ H s)
 (hch:∀b∈ch,(b∈X.ex\/X.s₀.heap.objs.size<=b)/\b≠X.env.locals/\(∀x c,X.env.cells.lookup x=some c->c≠b)/\∀p∈X.pn++pins,p.1≠b)
 (keep:∀b o,b≠X.env.locals->b∉X.fs->b∉ch->s.heap.get? b=some o->H b=none->h'.get? b=some o)
 (slot:∀b o,b≠X.env.locals->b∈X.fs->b∉ch->s.heap.get? b=some o->H b=none->∃sl,h'.get? b=some { o with slots:=sl }) (free:∀b o,b∉ch->s.heap.get? b=some o->H b=none->H' b=none)
 (there:∀b o,b∉ch->s.heap.get? b=some o->∃o',h'.get? b=some o')
 (tups:∀b xs,H b=some (.tup xs)->H' b=some (.tup xs)) (frzs:∀b o u,H b=some (.frz o u)->H' b=some (.frz o u)) (tbls:∀b ps,H b=some (.tbl ps)->∃more,H' b=some (.tbl (ps++more)))
 (ns:∀m,s.heap.Ns X.env.locals m->h'.Ns X.env.locals m) (hok:HOk X.prog X.w H' h') (hg:AllBare g'):
 Inv X pins σ H' { s with heap:=h',gens:=g',drawn:=d',toks:=t' }:=by
 have neL:∀b o,X.s₀.heap.get? b=some o->b≠X.env.locals:=λb o e=>s_k (s_c (Heap.lt_size e) I.ok.above)
 have neC:∀b o,X.s₀.heap.get? b=some o->b∉X.ex->b∉ch:=λb o e hx hb=>by
  rcases (hch b hb).1 with z | z
  ·exact hx z
  ·exact absurd (s_c (Heap.lt_size e) z) (Nat.lt_irrefl _)
 have cellK:∀x c,X.env.cells.lookup x=some c->∀v,s.heap.IsCell c v->h'.IsCell c v:=λx c e v ⟨o,ho,hd⟩=>by
  have nch:c∉ch:=λz=>(hch c z).2.2.1 x c e rfl;by_cases hc:c∈X.fs
  ·obtain⟨sl,q⟩:=slot c o (I.cne x c e) hc nch ho (I.freeC x c e)
   exact⟨_,q,hd⟩
  ·exact⟨o,keep c o (I.cne x c e) hc nch ho (I.freeC x c e),hd⟩
 refine⟨I.ok,I.os,hg,⟨λb o e n hb hx=> ?_, λb o e n hb hx=> ?_, λb o e n hx=> ?_, λb o e hx=> ?_, λb xs e=>tups b xs (I.base.tups b xs e),λb o xs e=>frzs b o xs (I.base.frzs b o xs e),λb ps e=> ?_⟩,?_, λx c e=> ?_, ?_, λx c e=> ?_, λp hp=> ?_, hok,I.len⟩
 ·exact keep b o (neL b o e) hb (neC b o e hx) (I.base.keep b o e n hb hx) (I.base.free b o e n hx)
 ·obtain⟨sl,e1⟩:=I.base.slot b o e n hb hx
  obtain⟨sl',e2⟩:=slot b _ (neL b o e) hb (neC b o e hx) e1 (I.base.free b o e n hx);exact⟨sl',e2⟩
 ·obtain⟨o',e1⟩:=I.base.there b o e hx
  exact free b o' (neC b o e hx) e1 (I.base.free b o e n hx)
 ·obtain⟨o',e1⟩:=I.base.there b o e hx
  exact there b o' (neC b o e hx) e1
 ·obtain⟨m1,e1⟩:=I.base.tbls b ps e
  obtain⟨m2,e2⟩:=tbls b _ e1;exact⟨m1++m2,by rw[e2,Array.append_assoc]⟩
 ·obtain⟨m,hn,hl⟩:=I.loc
  refine⟨m,ns m hn,λi x v e1 e2 e3=> ?_⟩;obtain⟨u,r,l⟩:=hl i x v e1 e2 e3;refine⟨u,r,?_⟩;rcases l with l | ⟨k,c,e,z⟩
  ·exact .inl l
  ·exact .inr ⟨k,c,e,cellK x c e _ z⟩
 ·obtain⟨v,z⟩:=I.cell x c e
  exact⟨v,cellK x c e v z⟩
 ·obtain⟨m,⟨o,_,_,ho,_⟩,_⟩:=I.loc
  exact free _ o (λz=>(hch _ z).2.1 rfl) ho I.free
 ·obtain⟨v,o,ho,hd⟩:=I.cell x c e
  exact free c o (λz=>(hch c z).2.2.1 x c e rfl) ho (I.freeC x c e)
 ·obtain⟨e,n,ne,nf,d⟩:=I.pin p hp
  have nch:p.1∉ch:=λz=>(hch p.1 z).2.2.2 p hp rfl;exact⟨keep p.1 p.2 ne nf nch e n,free p.1 p.2 nch e n,ne,nf,d⟩
theorem Inv.un {t':Nat} (I:Inv X pins σ H s) (u:Un X.fs [] H H' s.heap h') (hok:HOk X.prog X.w H' h'):Inv X pins σ H' { s with heap:=h',toks:=t' }:=by
 obtain⟨m,⟨o,es,ep,ho,r⟩,_⟩:=id I.loc;obtain⟨sl,hL⟩:=u.any ho I.free (by simp)
 exact I.step (g':=s.gens) (d':=s.drawn) (ch:= []) (λ_ z=>nomatch z) (λb o _ hb _ e n=>u.keep b o e n hb (by simp)) (λb o _ hb _ e n=>u.slot b o e n hb (by simp)) (λb o _ e n=>u.free b o e n (by simp)) (λb o _ e=>u.there b o e (by simp)) u.tups u.frzs u.tbls (λm' hm=>by
  obtain⟨o',es',ep',a,r'⟩:=hm;rw[ho] at a;cases a;exact⟨_,es',ep',hL,r'⟩) hok I.bare
theorem Inv.call {g':Array GenState} {t':Nat} {d':Drawn} {ch:List Addr} (I:Inv X pins σ H s) (u:Un (frs X.stack) ch H H' s.heap h') (hok:HOk X.prog X.w H' h') (hg:AllBare g')
 (hch:∀b∈ch,(b∈X.ex\/X.s₀.heap.objs.size<=b)/\b≠X.env.locals/\(∀x c,X.env.cells.lookup x=some c->c≠b)/\∀p∈X.pn++pins,p.1≠b):
 Inv X pins σ H' { s with heap:=h',gens:=g',drawn:=d',toks:=t' }:=by
 obtain⟨m,⟨o,es,ep,ho,r⟩,_⟩:=id I.loc;obtain⟨sl,hL⟩:=u.any ho I.free λz=>(hch _ z).2.1 rfl
 exact I.step (ch:=ch) hch (λb o hL hb hc e n=>u.keep b o e n (λz=>(r_7.mp (I.stkSub b z)).elim hL hb) hc) (λb o _ _ hc e n=>u.any e n hc) (λb o hc e n=>u.free b o e n hc) (λb o hc e=>u.there b o e hc) u.tups u.frzs u.tbls (λm' hm=>by
  obtain⟨o',es',ep',a,r'⟩:=hm;rw[ho] at a;cases a;exact⟨_,es',ep',hL,r'⟩) hok hg
theorem Inv.turned {t':Nat} {it:Addr} (I:Inv X pins σ H s) (k:∀b o,b≠it->s.heap.get? b=some o->h'.get? b=some o) (hn:H it=none) (hL:it≠X.env.locals)
 (h1:it∈X.ex\/X.s₀.heap.objs.size<=it) (h2:∀x c,X.env.cells.lookup x=some c->c≠it) (h3:∀p∈X.pn++pins,p.1≠it):Inv X pins σ H { s with heap:=h',toks:=t' }:=by
 have nit:∀b u,H b=some u->b≠it:=λb u e z=>by rw[z,hn] at e;cases e
 refine I.step (g':=s.gens) (d':=s.drawn) (ch:= [it]) (λb hb=> ?_) (λb o _ _ hc e _=>k b o (λz=>hc (by simp[z])) e) (λb o _ _ hc e _=>⟨o.slots,k b o (λz=>hc (by simp[z])) e⟩) (λ_ _ _ _ n=>n)
  (λb o hc e=>⟨o,k b o (λz=>hc (by simp[z])) e⟩) (λ_ _ e=>e) (λ_ _ _ e=>e) (λb ps e=>⟨#[],by rw[e];simp⟩) (λm hm=> ?_) (λb u e=> ?_) I.bare
 ·have e:b=it:=by simpa using hb
  subst e;exact⟨h1,hL,h2,h3⟩
 ·obtain⟨o,es,ep,ho,r⟩:=hm
  exact⟨o,es,ep,k _ o (Ne.symm hL) ho,r⟩
 ·refine (I.hok b u e).stay (λc v hc q=>k c v ?_ q) (λ_ q=>q) λ_ _ q=>q
  rcases hc with z | z
  ·rw[z];exact nit b u e
  ·exact nit c _ z
theorem Inv.tok (I:Inv X pins σ H s) (t:Nat):Inv X pins σ H { s with toks:=t }:=I.un (h':=s.heap) (t':=t) Un.refl I.hok
theorem Inv.kept {t':Nat} (I:Inv X pins σ H s) (k:∀b u,s.heap.get? b=some u->h'.get? b=some u):Inv X pins σ H { s with heap:=h',toks:=t' }:=I.un (Un.kept k) (I.hok.kept k)
theorem Inv.laid {a:Addr} {o:HO} {t':Nat} (I:Inv X pins σ H s) (k:∀b u,s.heap.get? b=some u->h'.get? b=some u) (hp:s.heap.objs.size<=a) (new:ObjOk X.prog X.w (upd H a o) h' a o):
 Inv X pins σ (upd H a o) { s with heap:=h',toks:=t' }:=I.un (Un.laid k hp (I.hok.fresh hp)) (I.hok.laid k hp new)
theorem Inv.write {x e:Addr} {o:HO} {t':Nat} (I:Inv X pins σ H s) (mu:Mut (H x)) (he:e=x\/H e=some (.own x)) (k:∀b u,b≠e->s.heap.get? b=some u->h'.get? b=some u) (heo:∃u,h'.get? e=some u)
 (new:ObjOk X.prog X.w (upd H x o) h' x o):Inv X pins σ (upd H x o) { s with heap:=h',toks:=t' }:=I.un (Un.write mu he k heo) (I.hok.write mu he k heo new)
theorem Inv.pins_of {pins':List (Addr×Obj)} (I:Inv X pins σ H s) (h:∀p∈pins',s.heap.get? p.1=some p.2/\H p.1=none/\p.1≠X.env.locals/\p.1∉X.fs/\∀v,p.2.data≠ .cell v):Inv X pins' σ H s:=
 ⟨I.ok,I.os,I.bare,I.base,I.loc,I.cell,I.free,I.freeC,λp hp=>(s_e.mp hp).elim (λz=>I.pin p (s_v _ z)) (h p),I.hok,I.len⟩
theorem i_b {N:List Str} (hN:N.Nodup) {i j:Nat} {x:Str} (a:N[i]? =some x) (b:N[j]? =some x):i=j:=by
 obtain⟨h1,e1⟩:=s_a.mp a;obtain⟨h2,e2⟩:=s_a.mp b;exact (List.getElem_inj hN).mp (e1.trans e2.symm)
theorem j_R {M:Model} {A:Around} {E:Value->Shared->Prop} {i:Nat} {x:Str} {v:V} {u:Value} {Q:Unit->Shared->Prop} (I:Inv X pins σ H s) (hN:X.N.Nodup) (hi:X.N[i]? =some x) (hx:Loc X.env.scope x) (r:RelV v u)
 (h:∀s',Inv X pins (σ.set i (some v)) H s'->(∃a,Heap.SameBut a s.heap s'.heap/\(a=X.env.locals\/X.env.cells.lookup x=some a))->Q () s') (hf:X.fn x=true\/X.env.scope.names.lookup x=some .local:=by first | exact .inl rfl | exact .inr rfl | assumption):wpAny M A (storeName X.env x u) Q E s:=by
 obtain⟨m,hn,hl⟩:=id I.loc;have C:(X.env.scope.kind == .class||(X.env.scope.kind == .module&&X.env.locals != X.env.globals))=false:=by rw[I.ok.kind];rfl
 have hiσ:i < σ.length:=by rw[I.len];exact (s_a.mp hi).1
 have cne:=I.cne
 have tracked:∀{a:Addr} {h':Heap},(∃o,s.heap.get? a=some o/\H a=none)->Heap.SameBut a s.heap h'->HOk X.prog X.w H h':=λ{a h'} ha hs b ob e=>by
  obtain⟨_,_,f⟩:=ha;refine (I.hok b ob e).stay (λc w' hc q=>(hs.2 c ?_).trans q) (λ_ q=>q) λ_ _ q=>q;rintro rfl;rcases hc with rfl | hc
  ·rw[f] at e;cases e
  ·rw[f] at hc;cases hc
 rcases hx with hk | hk
 ·refine wpAny_storeName_local hk hn (λh' J hs=> ?_) C
  obtain⟨oL,_,_,G,_⟩:=id hn;refine h _ ⟨I.ok,I.os,I.bare,⟨λb o e n hb hx=> ?_, λb o e n hb hx=> ?_, I.base.free,λb o e hx=> ?_, I.base.tups,I.base.frzs,I.base.tbls⟩,⟨_,J,λj y v' e1 e2 e3=> ?_⟩,λy c e=> ?_, I.free,I.freeC,λp hp=> ?_, tracked ⟨oL,G,I.free⟩ hs,by simpa using I.len⟩ ⟨_,hs,.inl rfl⟩
  ·exact (hs.2 b (s_k (s_c (Heap.lt_size e) I.ok.above))).trans (I.base.keep b o e n hb hx)
  ·obtain⟨sl,e1⟩:=I.base.slot b o e n hb hx
   exact⟨sl,(hs.2 b (s_k (s_c (Heap.lt_size e) I.ok.above))).trans e1⟩
  ·obtain⟨o',e1⟩:=I.base.there b o e hx
   exact⟨o',(hs.2 b (s_k (s_c (Heap.lt_size e) I.ok.above))).trans e1⟩
  ·by_cases hj:j=i
   ·subst hj
    rw[hi] at e1;cases e1;rw[List.getElem?_set_self hiσ] at e2;cases e2;exact⟨u,r,.inl ⟨hk,by simp⟩⟩
   ·rw[List.getElem?_set_ne (Ne.symm hj)] at e2
    obtain⟨u',r',q⟩:=hl j y v' e1 e2 e3;refine⟨u',r',?_⟩;rcases q with⟨k,e⟩ | ⟨k,c,e,z⟩
    ·refine .inl ⟨k,?_⟩
     have:y≠x:=λe=>hj (i_b hN e1 (e ▸ hi));simp[this,e]
    ·exact .inr ⟨k,c,e,z.sameBut hs (cne y c e)⟩
  ·obtain⟨w',z⟩:=I.cell y c e
   exact⟨w',z.sameBut hs (cne y c e)⟩
  ·obtain⟨e,n,ne,nf,d⟩:=I.pin p hp
   exact⟨(hs.2 p.1 ne).trans e,n,ne,nf,d⟩
 ·have g:X.fn x=true:=by
   rcases hf with z | z
   ·exact z
   ·rw[z] at hk;cases hk
  obtain⟨c,hc⟩:=I.ok.has x (.inl hk);obtain⟨w',z⟩:=I.cell x c hc;refine wpAny_storeName_cell I.ok.kind hk hc z (λh' l hs=> ?_);obtain⟨oc,B,F⟩:=id z;refine h { s with heap:=h' } ⟨I.ok,I.os,I.bare,⟨λb o e n hb hx=> ?_, λb o e n hb hx=> ?_, I.base.free,λb o e hx=> ?_, I.base.tups,I.base.frzs,I.base.tbls⟩,⟨m,hn.sameBut hs (Ne.symm (cne x c hc)),λj y v' e1 e2 e3=> ?_⟩,λy c' e=> ?_, I.free,I.freeC,λp hp=> ?_, tracked ⟨oc,B,I.freeC x c hc⟩ hs,by simpa using I.len⟩ ⟨c,hs,.inr hc⟩
  ·exact (hs.2 b (s_k (s_c (Heap.lt_size e) (I.ok.cab x c g hc)))).trans (I.base.keep b o e n hb hx)
  ·obtain⟨sl,e1⟩:=I.base.slot b o e n hb hx
   exact⟨sl,(hs.2 b (s_k (s_c (Heap.lt_size e) (I.ok.cab x c g hc)))).trans e1⟩
  ·obtain⟨o',e1⟩:=I.base.there b o e hx
   exact⟨o',(hs.2 b (s_k (s_c (Heap.lt_size e) (I.ok.cab x c g hc)))).trans e1⟩
  ·by_cases hj:j=i
   ·subst hj
    rw[hi] at e1;cases e1;rw[List.getElem?_set_self hiσ] at e2;cases e2;exact⟨u,r,.inr ⟨.inl hk,c,hc,l⟩⟩
   ·rw[List.getElem?_set_ne (Ne.symm hj)] at e2
    obtain⟨u',r',q⟩:=hl j y v' e1 e2 e3;refine⟨u',r',?_⟩;rcases q with q | ⟨k,c',e,z'⟩
    ·exact .inl q
    ·refine .inr ⟨k,c',e,z'.sameBut hs ?_⟩
     rintro rfl;exact hj (i_b hN e1 (I.ok.inj _ _ _ e hc ▸ hi))
  ·by_cases t:c'=c
   ·subst t;exact⟨_,l⟩
   ·obtain⟨w2,z2⟩:=I.cell y c' e
    exact⟨w2,z2.sameBut hs t⟩
  ·obtain⟨e,n,ne,nf,d⟩:=I.pin p hp
   refine⟨(hs.2 p.1 ?_).trans e,n,ne,nf,d⟩;intro q;rw[q,B] at e;have q':oc=p.2:=r_3 e;exact d w' (by rw[<-q'];exact F)
theorem d_1 {M:Model} {A:Around} {E:Value->Shared->Prop} {i:Nat} {x:Str} {v:V} {u:Value} {Q:Unit->Shared->Prop} (I:Inv X pins σ H s) (hN:X.N.Nodup) (hi:X.N[i]? =some x) (hx:Loc X.env.scope x) (r:RelV v u)
 (h:∀s',Inv X pins (σ.set i (some v)) H s'->Q () s') (hf:X.fn x=true\/X.env.scope.names.lookup x=some .local:=by first | exact .inl rfl | exact .inr rfl | assumption):wpAny M A (storeName X.env x u) Q E s:=
 j_R I hN hi hx r (λs' I' _=>h s' I') hf
theorem Inv.call' {s':Shared} {ch:List Addr} (I:Inv X pins σ H s) (ho:s'.os=s.os) (u:Un (frs X.stack) ch H H' s.heap s'.heap) (hok:HOk X.prog X.w H' s'.heap) (hg:AllBare s'.gens)
 (hch:∀b∈ch,(b∈X.ex\/X.s₀.heap.objs.size<=b)/\b≠X.env.locals/\(∀x c,X.env.cells.lookup x=some c->c≠b)/\∀p∈X.pn++pins,p.1≠b):Inv X pins σ H' s':=by
 obtain⟨h',g',d',t',o'⟩:=s';have e:o'=s.os:=ho;subst e;exact I.call (g':=g') (t':=t') (d':=d') u hok hg hch
end
abbrev XK:=Value->Option Addr->Hp->Prop
abbrev St:=List (Option V)
abbrev VK:=V->Hp->Prop
abbrev TE:=St->Hp->VK->Prop
abbrev TT:=St->Hp->(Bool->Hp->Prop)->Prop
abbrev TA:=St->Hp->(List V->Hp->Prop)->Prop
structure i_A where
 nx:St->Hp->Prop
 rt:VK
 bk:St->Hp->Prop:=λ_ _=>False
 ct:St->Hp->Prop:=λ_ _=>False
abbrev TS:=i_A->St->Hp->Prop
def EP (X:Cx) (pins:List (Addr×Obj)) (σ:St) (Q:VK) (u:Value) (s':Shared):Prop:=∃v H',Inv X pins σ H' s'/\RelV v u/\Q v H'
def TP (X:Cx) (pins:List (Addr×Obj)) (σ:St) (Q:Bool->Hp->Prop) (b:Bool) (s':Shared):Prop:=∃H',Inv X pins σ H' s'/\Q b H'
def AP (X:Cx) (pins:List (Addr×Obj)) (σ:St) (Q:List V->Hp->Prop) (us:List Value) (s':Shared):Prop:=∃vs H',Inv X pins σ H' s'/\Vals vs us/\Q vs H'
def SP (X:Cx) (pins:List (Addr×Obj)) (D:i_A) (f:Flow) (s':Shared):Prop:=
 match f with
 | .next=>∃σ' H',Inv X pins σ' H' s'/\D.nx σ' H'
 | .brk=>∃σ' H',Inv X pins σ' H' s'/\D.bk σ' H'
 | .cont=>∃σ' H',Inv X pins σ' H' s'/\D.ct σ' H'
 | .ret u=>∃v σ' H',Inv X pins σ' H' s'/\RelV v u/\D.rt v H'
def PE (X:Cx) (e:Expr) (t:TE):Prop:=
 ∀(pins:List (Addr×Obj)) (s:Shared) (σ:St) (H:Hp) (Q:VK),Inv X pins σ H s->t σ H Q->wpAny (model X.prog X.w) X.A (eval e X.env) (EP X pins σ Q) X.xe s
def PT (X:Cx) (e:Expr) (t:TT):Prop:=
 ∀(pins:List (Addr×Obj)) (s:Shared) (σ:St) (H:Hp) (Q:Bool->Hp->Prop),Inv X pins σ H s->t σ H Q->wpAny (model X.prog X.w) X.A (isTrue e X.env (eval e X.env)) (TP X pins σ Q) X.xe s
def PW (X:Cx) (e:Expr) (t:TT):Prop:=
 ∀(whole:Sem Value) (pins:List (Addr×Obj)) (s:Shared) (σ:St) (H:Hp) (Q:Bool->Hp->Prop),Inv X pins σ H s->t σ H Q->wpAny (model X.prog X.w) X.A (isTrue e X.env whole) (TP X pins σ Q) X.xe s
theorem PW.pt {X:Cx} {e:Expr} {t:TT} (h:PW X e t):PT X e t:=h _
def PA (X:Cx) (es:List Expr) (t:TA):Prop:=
 ∀(pos:Pos) (pins:List (Addr×Obj)) (s:Shared) (σ:St) (H:Hp) (Q:List V->Hp->Prop),Inv X pins σ H s->t σ H Q->wpAny (model X.prog X.w) X.A (spliced (backTo pos (starEach es X.env))) (AP X pins σ Q) X.xe s
def PS (X:Cx) (st:Stmt) (t:TS):Prop:=
 ∀(pins:List (Addr×Obj)) (s:Shared) (σ:St) (H:Hp) (D:i_A),Inv X pins σ H s->t D σ H->wpAny (model X.prog X.w) X.A (exec st X.env) (SP X pins D) X.xe s
def PSs (X:Cx) (st:List Stmt) (t:TS):Prop:=
 ∀(pins:List (Addr×Obj)) (s:Shared) (σ:St) (H:Hp) (D:i_A),Inv X pins σ H s->t D σ H->wpAny (model X.prog X.w) X.A (execs st X.env) (SP X pins D) X.xe s
theorem thn {α:Type} {t:Sem α} {Q Q':α->Shared->Prop} {M:Model} {A:Around} {E:Value->Shared->Prop} {s:Shared} (h:wpAny M A t Q E s) (hQ:∀a s,Q a s->Q' a s):wpAny M A t Q' E s:=wpAny_mono h hQ λ_ _ x=>x
section
variable {X:Cx}
theorem bin {a b:Expr} {ta tb:TE} (ha:PE X a ta) (hb:PE X b tb) {pins:List (Addr×Obj)} {s:Shared} {σ:St} {H:Hp} {R:V->V->Hp->Prop} (I:Inv X pins σ H s) (h:ta σ H λx H1=>tb σ H1 λy H2=>R x y H2)
 {α:Type} {Q:α->Shared->Prop} {f:Value->Value->Sem α}
 (hf:∀v u s2 x y H2,Inv X pins σ H2 s2->RelV x v->RelV y u->R x y H2->wpAny (model X.prog X.w) X.A (f v u) Q X.xe s2):
 wpAny (model X.prog X.w) X.A (eval a X.env) (λv s₁=>wpAny (model X.prog X.w) X.A (eval b X.env) (λu s₂=>wpAny (model X.prog X.w) X.A (f v u) Q X.xe s₂) X.xe s₁) X.xe s:=by
 refine thn (ha pins s σ H _ I h) λv s1 ⟨x,H1,I1,r1,q1⟩=> ?_;refine thn (hb pins s1 σ H1 _ I1 q1) λu s2 ⟨y,H2,I2,r2,q2⟩=> ?_;exact hf v u s2 x y H2 I2 r1 r2 q2
def r_h (i:Nat):TE:=λσ H Q=>∃v,σ[i]? =some (some v)/\Q v H
def tC (v:V):TE:=λ_ H Q=>Q v H
theorem o_N {i:Nat} {x:Str} {pos:Pos} (hN:X.N[i]? =some x) (hv:Vis X.env.scope x) (hd:(x == ("__debug__":Str))=false:=by decide) (hcd:(x == ("__classdict__":Str))=false:=by decide):PE X (.Name x pos) (r_h i):=by
 intro pins s σ H Q I h;obtain⟨v,e,h⟩:=h;obtain⟨m,hn,hl⟩:=I.loc;obtain⟨u,r,l⟩:=hl i x v hN e hv;have fin:EP X pins σ Q u s:=⟨v,H,I,r,h⟩;rcases l with⟨hk,hm⟩ | ⟨hk,c,hc,a⟩
 ·exact wpAny_Name (wpAny_loadName_local I.ok.kind hk hn hm fin) hd
 ·rcases hk with hk | hk
  ·exact wpAny_Name (wpAny_loadName_cell I.ok.kind hk hc a fin) hd
  ·exact wpAny_Name (wpAny_loadName_free I.ok.kind hk hc a fin hcd) hd
theorem a_g {i j pos}:PE X (.Constant (.int i) j pos) (tC (.int i)):=λ_ _ _ H _ I h=>wpAny_Constant_int ⟨.int i,H,I.tok _,⟨_,rfl⟩,h⟩
theorem d_m {b j pos}:PE X (.Constant (.bool b) j pos) (tC (.bl b)):=λ_ _ _ H _ I h=>Constant_bool ⟨.bl b,H,I,rfl,h⟩
theorem m_b {j pos}:PE X (.Constant .none j pos) (tC .non):=λ_ _ _ H _ I h=>Constant_none ⟨.non,H,I,rfl,h⟩
theorem a_k {x j pos}:PE X (.Constant (.str x) j pos) (tC (.str x)):=λ_ _ _ H _ I h=>Calls.Constant_str ⟨.str x,H,I.tok _,⟨_,rfl⟩,h⟩
def Gl (X:Cx) (x:Str):Prop:=X.env.kindOf x=some .globalImplicit
theorem c_2 {E:Value->Shared->Prop} {pins:List (Addr×Obj)} {s:Shared} {σ:St} {H:Hp} {x:Str} {u:Value} {pos:Pos} {Q:Value->Shared->Prop} (I:Inv X pins σ H s) (hg:Gl X x) (hm:X.mg x=some u) (h:Q u s)
 (hd:(x == ("__debug__":Str))=false:=by decide):wpAny (model X.prog X.w) X.A (eval (.Name x pos) X.env) Q E s:=
 Calls.Name_function_global I.ok.kind hg (Calls.loadGlobal_global (by rw[I.ok.glob];exact I.mod.glob.keeps I.bk) hm h) hd
theorem e_7 {E:Value->Shared->Prop} {pins:List (Addr×Obj)} {s:Shared} {σ:St} {H:Hp} {x:Str} {u:Value} {pos:Pos} {Q:Value->Shared->Prop} (I:Inv X pins σ H s) (hg:Gl X x) (hm:X.mg x=none) (hv:bootBuiltins x=some u) (h:Q u s)
 (hn:x≠"__name__":=by decide) (hd:(x == ("__debug__":Str))=false:=by decide):wpAny (model X.prog X.w) X.A (eval (.Name x pos) X.env) Q E s:=by
 obtain⟨mb,h1,h2⟩:=I.mod.blt;exact Calls.Name_function_global I.ok.kind hg (Calls.loadGlobal_builtin (by rw[I.ok.glob];exact I.mod.glob.keeps I.bk) hm (by rw[I.ok.blt];exact h1.keeps I.bk) ((h2 x hn).trans hv) h) hd
theorem h_E {x:Str} {v:V} {u:Value} {pos:Pos} (hg:Gl X x) (hm:X.mg x=some u) (r:RelV v u) (hd:(x == ("__debug__":Str))=false:=by decide):PE X (.Name x pos) (tC v):=
 λ_ _ _ H _ I h=>c_2 I hg hm ⟨v,H,I,r,h⟩ hd
theorem o_p {x:Str} {v:V} {u:Value} {pos:Pos} (hg:Gl X x) (hm:X.mg x=none) (hv:bootBuiltins x=some u) (r:RelV v u) (hn:x≠"__name__":=by decide) (hd:(x == ("__debug__":Str))=false:=by decide):PE X (.Name x pos) (tC v):=
 λ_ _ _ H _ I h=>e_7 I hg hm hv ⟨v,H,I,r,h⟩ hn hd
variable {a b:Expr} {ta tb:TE} {pos:Pos}
def PC (X:Cx) (op:CmpOp) (a b:Expr) (t:TE):Prop:=
 ∀(pins:List (Addr×Obj)) (s:Shared) (σ:St) (H:Hp) (Q:VK),Inv X pins σ H s->t σ H Q->
  wpAny (model X.prog X.w) X.A (eval a X.env) (λv s₁=>wpAny (model X.prog X.w) X.A (eval b X.env) (λu s₂=>wpAny (model X.prog X.w) X.A (compareOp op v u) (EP X pins σ Q) X.xe s₂) X.xe s₁) X.xe s
theorem l_y (b:Expr) {op:CmpOp} (h:op≠ .In) (h2:op≠ .NotIn):behindInMarks op b=false:=by
 have e1:(op == CmpOp.In)=false:=by cases op <;> first | rfl | exact absurd rfl h
 have e2:(op == CmpOp.NotIn)=false:=by cases op <;> first | rfl | exact absurd rfl h2
 cases b <;> simp[behindInMarks,e1,e2]
def q_Q (ta:TE):TE:=λσ H Q=>ta σ H λx H1=>Q (.bl (!decide (x= .non))) H1
theorem RelV.none_iff {x:V} {v:Value} (r:RelV x v):(v == Value.none)=decide (x= .non):=by
 cases x with
 | non=>cases r;rfl
 | bl _=>cases r;rfl
 | int _=>obtain⟨t,rfl⟩:=r;rfl
 | str _=>obtain⟨t,rfl⟩:=r;rfl
 | byt _=>obtain⟨t,rfl⟩:=r;rfl
 | flt _=>obtain⟨t,rfl⟩:=r;rfl
 | ref _=>cases r;rfl
 | ty _=>cases r;rfl
theorem k_H {j pos'} (ha:PE X a ta):PC X .IsNot a (.Constant .none j pos') (q_Q ta):=by
 intro pins s σ H Q I h;refine thn (ha pins s σ H _ I h) λv s1 ⟨x,H1,I1,r1,q1⟩=> ?_;exact Constant_none (isnot_none_gen ⟨.bl _,H1,I1,by rw[r1.none_iff];rfl,q1⟩)
def tB (t:TE):TT:=λσ H Q=>t σ H λx H1=>∃c,x= .bl c/\Q c H1
theorem d_R {op:CmpOp} {t:TE} (h:PC X op a b t) (h1:behindInMarks op b=false:=by first | exact l_y _ (by decide) (by decide) | rfl):PT X (.Compare a [op] [b] pos) (tB t):=by
 intro pins s σ H Q I hw;refine wpAny_isTrue_Compare1 (thn (h pins s σ H _ I hw) λv s1 h1=>thn h1 λu s2 h2=>thn h2 λc s3 ⟨x,H1,I1,r1,q1⟩=> ?_) h1;obtain⟨d,rfl,q⟩:=q1;cases r1;exact wpAny_truthy_bool ⟨H1,I1,q⟩
theorem b_r {e:Expr} {t:TE} (h:PE X e t) (he:∀whole,isTrue e X.env whole=(do let v<-whole;standAt e.pos;holding [v] (truthy v)):=by intro _;rfl):PT X e (tB t):=by
 intro pins s σ H Q I hw;refine isTrue_plain (thn (h pins s σ H _ I hw) λv s1 ⟨x,H1,I1,r1,q1⟩=> ?_) (he _);obtain⟨d,rfl,q⟩:=q1;cases r1;exact wpAny_truthy_bool ⟨H1,I1,q⟩
variable {tA tB':TT} {e_G:List Expr}
def r_F (t u:TT):TT:=λσ H Q=>t σ H λc H1=>if c=true then u σ H1 Q else Q false H1
def tOr (t u:TT):TT:=λσ H Q=>t σ H λc H1=>if c=true then Q true H1 else u σ H1 Q
def r_H (t:TT):TT:=λσ H Q=>t σ H λc H1=>Q (!c) H1
theorem c_4 (ha:PT X a tA):PW X (.BoolOp .And [a] pos) tA:=by
 intro wh pins s σ H Q I h;refine isTrue_and (thn (ha pins s σ H Q I h) λc s1 e=> ?_);cases c with
 | true=>exact isTrue_and_nil e
 | false=>exact e
theorem b_J (ha:PT X a tA):PW X (.BoolOp .Or [a] pos) tA:=by
 intro wh pins s σ H Q I h;refine isTrue_or (thn (ha pins s σ H Q I h) λc s1 e=> ?_);cases c with
 | false=>exact isTrue_or_nil e
 | true=>exact e
theorem e_Q (ha:PT X a tA) (hb:PW X (.BoolOp .And (b::e_G) pos) tB'):PW X (.BoolOp .And (a::b::e_G) pos) (r_F tA tB'):=by
 intro wh pins s σ H Q I h;refine isTrue_and (thn (ha pins s σ H _ I h) λc s1 ⟨H1,I1,q1⟩=> ?_);cases c with
 | true=>exact hb wh pins s1 σ H1 Q I1 q1
 | false=>exact⟨H1,I1,q1⟩
theorem c_G (ha:PT X a tA) (hb:PW X (.BoolOp .Or (b::e_G) pos) tB'):PW X (.BoolOp .Or (a::b::e_G) pos) (tOr tA tB'):=by
 intro wh pins s σ H Q I h;refine isTrue_or (thn (ha pins s σ H _ I h) λc s1 ⟨H1,I1,q1⟩=> ?_);cases c with
 | true=>exact⟨H1,I1,q1⟩
 | false=>exact hb wh pins s1 σ H1 Q I1 q1
theorem b_Y (ha:PT X a tA):PT X (.UnaryOp .Not a pos) (r_H tA):=by
 intro pins s σ H Q I h;exact isTrue_not (ha pins s σ H (λc H1=>Q (!c) H1) I h)
def q_a (ta tb:TE):TE:=λσ H Q=>ta σ H λx H1=>∃c,x= .bl c/\if c=true then tb σ H1 Q else Q (.bl false) H1
def p_9 (ta:TE):TE:=λσ H Q=>ta σ H λx H1=>∃c,x= .bl c/\Q (.bl (!c)) H1
theorem k_h {op} {t:TE} (h:PE X a t):PE X (.BoolOp op [a] pos) t:=λpins s σ H Q I hw=>BoolOp_one (h pins s σ H Q I hw)
theorem k_R (ha:PE X a ta) (hb:PE X (.BoolOp .And (b::e_G) pos) tb):PE X (.BoolOp .And (a::b::e_G) pos) (q_a ta tb):=by
 intro pins s σ H Q I h;refine BoolOp_and (thn (ha pins s σ H _ I h) λv s1 ⟨x,H1,I1,r1,q1⟩=> ?_);obtain⟨c,rfl,q1⟩:=q1;cases r1;refine wpAny_truthy_bool ?_;cases c with
 | true=>exact hb pins s1 σ H1 Q I1 q1
 | false=>exact⟨.bl false,H1,I1,rfl,q1⟩
theorem o_7 (ha:PE X a ta):PE X (.UnaryOp .Not a pos) (p_9 ta):=by
 intro pins s σ H Q I h;refine UnaryOp_ (thn (ha pins s σ H _ I h) λv s1 ⟨x,H1,I1,r1,q1⟩=> ?_);obtain⟨c,rfl,q1⟩:=q1;cases r1;exact not_of (wpAny_truthy_bool ⟨.bl (!c),H1,I1,rfl,q1⟩)
end
def SqL (K:PySem.W.Frag) (H:Hp) (a:Addr) (xs:List V):Prop:=
 Rd H a (.lst xs)\/
  ∃(o:Obj) (its:Array Value) (n:Nat),K.lookup a=some o/\o.cls= .type "list"/\o.dict=none/\o.data= .seq its n/\its.size<=sizeLine/\Vals xs its.toList
def SqT (K:PySem.W.Frag) (H:Hp) (a:Addr) (xs:List V):Prop:=
 Rd H a (.tup xs)\/
  ∃(o:Obj) (its:Array Value) (n:Nat),K.lookup a=some o/\o.cls= .type "tuple"/\o.data= .seq its n/\its.size<=sizeLine/\Vals xs its.toList
def r_B:Value->Option V
 | .none=>some .non
 | .bool b=>some (.bl b)
 | .int i _=>some (.int i)
 | .str x _=>some (.str x)
 | .bytes b _=>some (.byt b)
 | .float b _=>some (.flt b)
 | .ref a=>some (.ref a)
 | .type n=>some (.ty n)
 | _=>none
theorem RelV.abs {x:V} {u:Value} (r:RelV x u):r_B u=some x:=by
 cases x with
 | non=>cases r;rfl
 | bl _=>cases r;rfl
 | int _=>obtain⟨t,rfl⟩:=r;rfl
 | str _=>obtain⟨t,rfl⟩:=r;rfl
 | byt _=>obtain⟨t,rfl⟩:=r;rfl
 | flt _=>obtain⟨t,rfl⟩:=r;rfl
 | ref _=>cases r;rfl
 | ty _=>cases r;rfl
theorem RelV.inj {x y:V} {u:Value} (r:RelV x u) (q:RelV y u):x=y:=r_3 (r.abs.symm.trans q.abs)
theorem Vals.inj:∀{xs ys:List V} {us:List Value},Vals xs us->Vals ys us->xs=ys
 | _,_,_,.nil,.nil=>rfl
 | _,_,_,.cons r t,.cons r' t'=>by rw[r.inj r',Vals.inj t t']
section
variable {X:Cx} {pins:List (Addr×Obj)} {σ:St} {H:Hp} {s:Shared} {a:Addr} {xs ys:List V}
theorem SqL.of {K:PySem.W.Frag} (h:H a=some (.lst xs)):SqL K H a xs:= .inl (.inl h)
theorem SqT.of {K:PySem.W.Frag} (h:H a=some (.tup xs)):SqT K H a xs:= .inl (.inl h)
theorem Inv.list (I:Inv X pins σ H s) (h:SqL X.K H a xs):∃its:List Value,Vals xs its/\PlainL s.heap a its.toArray/\xs.length<=sizeLine:=by
 rcases h with h | ⟨o,its,n,hk,hc,hd,hs,hz,r⟩
 ·obtain⟨z,its,n,r,e⟩:=h.ok I.hok
  exact⟨its,r,⟨_,n,e,rfl,rfl,rfl⟩,z⟩
 ·refine⟨its.toList,r,⟨o,n,I.kIn a o hk,hc,hd,by simpa using hs⟩,?_⟩
  have e:=r.length;simp only[Array.length_toList] at e;omega
theorem Inv.tuple (I:Inv X pins σ H s) (h:SqT X.K H a xs):∃its:List Value,Vals xs its/\IsTup s.heap a its.toArray/\xs.length<=sizeLine:=by
 rcases h with h | ⟨o,its,n,hk,hc,hs,hz,r⟩
 ·obtain⟨z,its,r,p⟩:=h.ok I.hok
  exact⟨its,r,p,z⟩
 ·refine⟨its.toList,r,⟨o,I.kIn a o hk,hc,n,by simpa using hs⟩,?_⟩
  have e:=r.length;simp only[Array.length_toList] at e;omega
theorem Inv.list_inj (I:Inv X pins σ H s) (h:SqL X.K H a xs) (h':SqL X.K H a ys):xs=ys:=by
 obtain⟨its,r,⟨o,n,e,_,_,d⟩,_⟩:=I.list h;obtain⟨its',r',⟨o',n',e',_,_,d'⟩,_⟩:=I.list h';rw[e] at e';cases e';rw[d] at d';injection d' with d1 _
 have:its=its':=by simpa using congrArg Array.toList d1
 subst this;exact r.inj r'
end
abbrev Cx.wish (X:Cx) (E:Value->Shared->Prop):Cx:={ X with xe:=E }
abbrev Cx.nox (X:Cx):Cx:=X.wish λ_ _=>False
theorem Cx.Ok.wish {X:Cx} (ok:X.Ok) (E:Value->Shared->Prop):(X.wish E).Ok:=
 ⟨ok.mod,ok.kind,ok.glob,ok.blt,ok.above,ok.inj,ok.has,ok.cab,ok.hd,ok.frames,ok.stk,ok.exf,ok.bs,ok.bsz,ok.noex,ok.exfs,ok.funs,ok.frf⟩
theorem Cx.Ok.unwish {X:Cx} {E:Value->Shared->Prop} (ok:(X.wish E).Ok):X.Ok:=
 ⟨ok.mod,ok.kind,ok.glob,ok.blt,ok.above,ok.inj,ok.has,ok.cab,ok.hd,ok.frames,ok.stk,ok.exf,ok.bs,ok.bsz,ok.noex,ok.exfs,ok.funs,ok.frf⟩
section
variable {X:Cx} {pins:List (Addr×Obj)} {σ:St} {H:Hp} {s:Shared} {E:Value->Shared->Prop}
theorem Inv.wish (I:Inv X pins σ H s) (E:Value->Shared->Prop):Inv (X.wish E) pins σ H s:=⟨I.ok.wish E,I.os,I.bare,I.base,I.loc,I.cell,I.free,I.freeC,I.pin,I.hok,I.len⟩
theorem Inv.unwish (I:Inv (X.wish E) pins σ H s):Inv X pins σ H s:=⟨I.ok.unwish,I.os,I.bare,I.base,I.loc,I.cell,I.free,I.freeC,I.pin,I.hok,I.len⟩
theorem SP.unwish {D:i_A} {f:Flow} {s':Shared} (h:SP (X.wish E) pins D f s'):SP X pins D f s':=by
 cases f with
 | next=>obtain⟨σ',H',I,q⟩:=h;exact⟨σ',H',I.unwish,q⟩
 | brk=>obtain⟨σ',H',I,q⟩:=h;exact⟨σ',H',I.unwish,q⟩
 | cont=>obtain⟨σ',H',I,q⟩:=h;exact⟨σ',H',I.unwish,q⟩
 | ret u=>obtain⟨v,σ',H',I,r,q⟩:=h;exact⟨v,σ',H',I.unwish,r,q⟩
theorem PSs.nox {st:List Stmt} {t:TS} (h:PSs X.nox st t):PSs X st t:=λpins s σ H D I hw=>
 wpAny_mono (h pins s σ H D (I.wish _) hw) (λ_ _ q=>q.unwish) λ_ _ z=>False.elim z
end
section
variable {X:Cx} {st:Stmt} {e_G:List Stmt} {t u:TS} {e:Expr} {te:TE} {pos:Pos}
def q_1:TS:=λD σ H=>D.nx σ H
def p_3 (t u:TS):TS:=λD σ H=>t { D with nx:=u D } σ H
theorem a_p:PSs X [] q_1:=λ_ _ σ H _ I h=>wpAny_execs_nil ⟨σ,H,I,h⟩
theorem a_c (h1:PS X st t) (h2:PSs X e_G u):PSs X (st::e_G) (p_3 t u):=by
 intro pins s σ H D I h;refine wpAny_execs_cons (thn (h1 pins s σ H { D with nx:=u D } I h) λf s1 q=> ?_);cases f with
 | next=>
   obtain⟨σ',H',I',q⟩:=q;exact h2 pins s1 σ' H' D I' q
 | ret v=>exact q
 | brk=>exact q
 | cont=>exact q
theorem a_f (h1:PS X st t):PSs X [st] t:=by
 intro pins s σ H D I h;refine wpAny_execs_cons (thn (h1 pins s σ H D I h) λf s1 q=> ?_);cases f with
 | next=>exact wpAny_execs_nil q
 | ret v=>exact q
 | brk=>exact q
 | cont=>exact q
theorem Inv.quiet {pins:List (Addr×Obj)} {σ:St} {H:Hp} {s:Shared} (I:Inv X pins σ H s):interactive X.env=false:=by simp[interactive,I.ok.kind]
def q_b (te:TE):TS:=λD σ H=>te σ H λ_ H1=>D.nx σ H1
theorem a_z (he:PE X e te) (hs:swapsWith e none pos.line X.env=pure false:=by rfl):PS X (.Expr e pos) (q_b te):=by
 intro pins s σ H D I h;exact wpAny_Expr_any (thn (he pins s σ H _ I h) λv s1 ⟨x,H1,I1,r1,q1⟩=>⟨σ,H1,I1,q1⟩) I.quiet hs
def r_r (te:TE):TS:=λD σ H=>te σ H D.rt
theorem a_n (he:PE X e te):PS X (.Return (some e) pos) (r_r te):=by
 intro pins s σ H D I h;exact wpAny_Return_some (thn (he pins s σ H _ I h) λv s1 ⟨x,H1,I1,r1,q1⟩=>⟨x,σ,H1,I1,r1,q1⟩)
def q_G:TS:=λD _ H=>D.rt .non H
theorem k_n:PS X (.Return none pos) q_G:=λ_ _ σ H _ I h=>wpAny_Return_none ⟨.non,σ,H,I,rfl,h⟩
def r_z (c:TT) (t u:TS):TS:=λD σ H=>c σ H λb H1=>if b=true then t D σ H1 else u D σ H1
theorem a_C {c:Expr} {a b:List Stmt} {tc:TT} (hc:PT X c tc) (ha:PSs X a t) (hb:PSs X b u):PS X (.If c a b pos) (r_z tc t u):=by
 intro pins s σ H D I h;refine wpAny_If (thn (hc pins s σ H _ I h) λd s1 ⟨H1,I1,q1⟩=> ?_);cases d with
 | true=>exact ha pins s1 σ H1 D I1 q1
 | false=>exact hb pins s1 σ H1 D I1 q1
def o_4:TS:=λ_ _ _=>False
theorem k_1:PS X st o_4:=λ_ _ _ _ _ _ h=>h.elim
end
abbrev TG:=V->St->Hp->(St->Hp->Prop)->Prop
abbrev TGs:=List V->St->Hp->(St->Hp->Prop)->Prop
def PG (X:Cx) (target:Expr) (t:TG):Prop:=
 ∀(pins:List (Addr×Obj)) (s:Shared) (σ:St) (H:Hp) (v:V) (u:Value) (Q:St->Hp->Prop),Inv X pins σ H s->RelV v u->t v σ H Q->
  wpAny (model X.prog X.w) X.A (assign target X.env u) (λ_ s'=>∃σ' H',Inv X pins σ' H' s'/\Q σ' H') X.xe s
def PGs (X:Cx) (ts:List Expr) (t:TGs):Prop:=
 ∀(pins:List (Addr×Obj)) (s:Shared) (σ:St) (H:Hp) (vs:List V) (us:List Value) (Q:St->Hp->Prop),Inv X pins σ H s->Vals vs us->t vs σ H Q->
  wpAny (model X.prog X.w) X.A (assignInOrder ((assignEach ts X.env).map (·.2)) us) (λ_ s'=>∃σ' H',Inv X pins σ' H' s'/\Q σ' H') X.xe s
abbrev q_P:=V->V->V->Hp->(Hp->Prop)->Prop
def r_i (X:Cx) (t:q_P):Prop:=
 ∀(pins:List (Addr×Obj)) (s:Shared) (σ:St) (H:Hp) (o i v:V) (ov iv u:Value) (Q:Hp->Prop),Inv X pins σ H s->RelV o ov->RelV i iv->RelV v u->t o i v H Q->
  wpAny (model X.prog X.w) X.A (setItem ov iv u) (λ_ s'=>∃H',Inv X pins σ H' s'/\Q H') X.xe s
section
variable {X:Cx} {pos:Pos}
def l_C (i:Nat):TG:=λv σ H Q=>Q (σ.set i (some v)) H
theorem a_9 {i:Nat} {x:Str} (hN:X.N.Nodup) (hi:X.N[i]? =some x) (hx:Loc X.env.scope x) (hf:X.fn x=true\/X.env.scope.names.lookup x=some .local:=by first | exact .inl rfl | exact .inr rfl | assumption):PG X (.Name x pos) (l_C i):=by
 intro pins s σ H v u Q I r h;exact wpAny_assign_Name (d_1 I hN hi hx r (λs' I'=>⟨_,H,I',h⟩) hf)
def r_V:TGs:=λvs σ H Q=>vs= []/\Q σ H
def p_8 (t:TG) (u:TGs):TGs:=λvs σ H Q=>∃v r,vs=v::r/\t v σ H λσ' H'=>u r σ' H' Q
theorem n_X:PGs X [] r_V:=by
 intro pins s σ H vs us Q I r h;obtain⟨e,h⟩:=h;subst e;cases r;exact assignInOrder_nil ⟨σ,H,I,h⟩
theorem h_S {e:Expr} {es:List Expr} {t:TG} {u:TGs} (h1:PG X e t) (h2:PGs X es u)
 (hs:(assignEach (e::es) X.env).map (·.2)=assign e X.env::(assignEach es X.env).map (·.2):=by rfl):PGs X (e::es) (p_8 t u):=by
 intro pins s σ H vs us Q I r h;obtain⟨v,vr,e1,h⟩:=h;subst e1;cases r with
 | cons r rr=>
   rw[hs];refine assignInOrder_cons (thn (h1 pins s σ H _ _ _ I r h) λ_ s1 ⟨σ1,H1,I1,q1⟩=> ?_);exact h2 pins s1 σ1 H1 _ _ Q I1 rr q1
def r_E (K:PySem.W.Frag) (n:Nat) (t:TGs):TG:=λv σ H Q=>∃a xs,v= .ref a/\SqT K H a xs/\xs.length=n/\t xs σ H Q
theorem o_U {es:List Expr} {k:Nat} {t:TGs} {n:Nat} (hc:X.calm=true) (h:PGs X es t)
 (hn:(assignEach es X.env).length=n:=by rfl) (hst:(assignEach es X.env).findIdx? (·.1)=none:=by rfl):PG X (.Tuple es k pos) (r_E X.K n t):=by
 intro pins s σ H v u Q I r hw;obtain⟨a,xs,e1,hq,hl,hw⟩:=hw;subst e1;cases r;obtain⟨its,rv,ht,hz⟩:=I.tuple hq;refine assign_Tuple_tuple (I.ok.hd hc) ht (by simp[hn,<-hl,rv.length]) hst λh' hx=> ?_;have I1:Inv X pins σ H { s with heap:=h' }:=I.kept (t':=s.toks) λb o e=>hx b o (s_k (Heap.lt_size e)) e;exact h pins _ σ H xs _ Q I1 (by simpa using rv) hw
def r_x (to ti:TE) (t:q_P):TG:=λv σ H Q=>to σ H λo H1=>ti σ H1 λi H2=>t o i v H2 λH3=>Q σ H3
theorem m_s {o i:Expr} {to ti:TE} {t:q_P} (ho:PE X o to) (hi:PE X i ti) (hs:r_i X t)
 (ha:∀v,assign (.Subscript o i pos) X.env v=(do
   let ov<-holding [v] (eval o X.env);let iv<-holding [v,ov] (eval i X.env)
   standAt pos
   holding [v,ov,iv] (setItem ov iv v)
   release [v,ov,iv] []):=by intro _;rfl):PG X (.Subscript o i pos) (r_x to ti t):=by
 intro pins s σ H v u Q I r h;rw[ha];refine wpAny_bind (wpAny_holding (thn (ho pins s σ H _ I h) λov s1 ⟨x,H1,I1,r1,q1⟩=> ?_));refine wpAny_bind (wpAny_holding (thn (hi pins s1 σ H1 _ I1 q1) λiv s2 ⟨y,H2,I2,r2,q2⟩=> ?_));refine wpAny_bind (wpAny_standAt (wpAny_bind (wpAny_holding (thn (hs pins s2 σ H2 x y v ov iv u _ I2 r1 r2 r q2) λ_ s3 ⟨H3,I3,q3⟩=> ?_))));exact wpAny_release ⟨σ,H3,I3,q3⟩
def p_R (te:TE) (g:TG):TS:=λD σ H=>te σ H λx H1=>g x σ H1 D.nx
theorem m_K {tg e:Expr} {te:TE} {g:TG} (he:PE X e te) (hg:PG X tg g) (hs:swapsWithSole [tg] e pos.line X.env=pure false:=by rfl) (hw:swappedStores [tg] e X.env=pure none:=by rfl)
 (h1:(assignEach [tg] X.env).map (·.2)= [assign tg X.env]:=by rfl):PS X (.Assign [tg] e pos) (p_R te g):=by
 intro pins s σ H D I h;refine wpAny_Assign_stores (thn (he pins s σ H _ I h) λv s1 ⟨x,H1,I1,r1,q1⟩=> ?_) hs hw;rw[h1];exact thn (hg pins s1 σ H1 x v _ I1 r1 q1) λ_ s2 q=>q
theorem a_w {i:Nat} {x:Str} {e:Expr} {te:TE} {pos':Pos} (hN:X.N.Nodup) (hi:X.N[i]? =some x) (hx:Loc X.env.scope x) (he:PE X e te) (hs:swapsWith e (some (.Name x pos')) pos.line X.env=pure false:=by rfl) (hf:X.fn x=true\/X.env.scope.names.lookup x=some .local:=by first | exact .inl rfl | exact .inr rfl | assumption):
 PS X (.Assign [.Name x pos'] e pos) (p_R te (l_C i)):=by
 intro pins s σ H D I h;refine wpAny_Assign_Name (thn (he pins s σ H _ I h) λv s1 ⟨y,H1,I1,r1,q1⟩=> ?_) hs;exact d_1 I1 hN hi hx r1 (λs2 I2=>⟨_,H1,I2,q1⟩) hf
end
section
variable {X:Cx} {pos:Pos}
def o_V (c:TT) (tb:TS):TS:=λD σ H=>∃W:Nat->St->Hp->Prop,(∃m,W m σ H)/\∀m σ H,W m σ H->
 c σ H λb H1=>if b=true then ∃N:St->Hp->Prop,(∀σ' H',N σ' H'->∃m',m' < m/\W m' σ' H')/\tb { D with nx:=N,ct:=N,bk:=D.nx } σ H1 else D.nx σ H1
theorem d_x {c:Expr} {body:List Stmt} {tc:TT} {tb:TS} (hp:PassesOwn (model X.prog X.w) X.A X.env X.xe) (hc:PT X c tc) (hb:PSs X body tb):PS X (.While c body [] pos) (o_V tc tb):=by
 intro pins s σ H D I h;obtain⟨W,⟨m0,w0⟩,turn⟩:=h;refine wpAny_While (codeAny_whileLoop (λn s'=>∃σ' H',Inv X pins σ' H' s'/\W n σ' H') ?_ m0 ⟨σ,H,I,w0⟩);rintro n s1 ⟨σ1,H1,I1,w1⟩;refine wpAny_passesOwn hp (thn (hc pins s1 σ1 H1 _ I1 (turn n σ1 H1 w1)) λb s2 ⟨H2,I2,q2⟩=> ?_);cases b with
 | true=>
   obtain⟨N,hN,q2⟩:=q2;rw[if_pos rfl];refine wpAny_passesOwn hp (thn (hb pins s2 σ1 H2 _ I2 q2) λf s3 q3=> ?_);cases f with
   | next=>
     obtain⟨σ3,H3,I3,n3⟩:=q3;obtain⟨m',hm,w3⟩:=hN σ3 H3 n3;exact⟨m',hm,σ3,H3,I3,w3⟩
   | cont=>
     obtain⟨σ3,H3,I3,n3⟩:=q3;obtain⟨m',hm,w3⟩:=hN σ3 H3 n3;exact⟨m',hm,σ3,H3,I3,w3⟩
   | brk=>exact q3
   | ret v=>exact q3
 | false=>
   rw[if_neg s_d];exact wpAny_execs_nil ⟨σ1,H2,I2,q2⟩
end
structure It where
 go:Nat->Hp->Prop
 yld:Nat->Hp->V->Hp->Prop
 stop:Nat->Hp->Prop
def f_Z (X:Cx) (pins:List (Addr×Obj)) (H:Hp) (b:Addr):Prop:=
 H b=none/\b≠X.env.locals/\b∉X.fs/\(b∈X.ex\/X.s₀.heap.objs.size<=b)/\(∀x c,X.env.cells.lookup x=some c->c≠b)/\∀p∈X.pn++pins,p.1≠b
theorem Inv.fpOk {X:Cx} {pins:List (Addr×Obj)} {σ:St} {H H':Hp} {s:Shared} {b:Addr} (I:Inv X pins σ H s) (hb:s.heap.objs.size<=b) (hn:H' b=none):f_Z X pins H' b:=by
 refine⟨hn,Nat.ne_of_gt (s_c I.lt hb),I.nofs hb,.inr (s_h I.sz hb),λx c e z=> ?_, λp hp z=> ?_⟩
 ·obtain⟨v,q⟩:=I.cell x c e
  exact absurd (s_c q.lt (by rw[z];exact hb)) (Nat.lt_irrefl _)
 ·exact absurd (s_c (Heap.lt_size (I.pin p hp).1) (by rw[z];exact hb)) (Nat.lt_irrefl _)
structure p_S (P:Program) (w:World) (K:PySem.W.Frag) (tg:Expr) (J:It) (fp:List Addr) (it:Addr) (tn:Nat->Heap->Prop):Prop where
 mem:it∈fp
 obj:∀i h,tn i h->∀b∈fp,∃o,h.get? b=some o/\∀v,o.data≠ .cell v
 keep:∀i h h',tn i h->(∀b∈fp,∀o,h.get? b=some o->h'.get? b=some o)->tn i h'
 item:∀(X:Cx),X.prog=P->X.w=w->X.K=K->X.calm=true->∀(i:Nat) (pins:List (Addr×Obj)) (s:Shared) (σ:St) (H:Hp) (E:Value->Shared->Prop),Inv X pins σ H s->(∀b∈fp,f_Z X pins H b)->tn i s.heap->J.go i H->
  wpAny (model P w) X.A (pyNext (.ref it)) (λr s1=>∃u,r=some u/\
   wpAny (model P w) X.A (letOwnedTupleGo tg (.ref it) u) (λ_ s2=>∃x H',Inv X pins σ H' s2/\RelV x u/\J.yld i H x H'/\tn (i+1) s2.heap/\∀b∈fp,H' b=none) E s1) E s
 done:∀(X:Cx),X.prog=P->X.w=w->X.K=K->X.calm=true->∀(i:Nat) (pins:List (Addr×Obj)) (s:Shared) (σ:St) (H:Hp) (E:Value->Shared->Prop),Inv X pins σ H s->(∀b∈fp,f_Z X pins H b)->tn i s.heap->J.stop i H->
  wpAny (model P w) X.A (pyNext (.ref it)) (λr s1=>r=none/\Inv X pins σ H s1) E s
 self:∀(A:Around) (i:Nat) (s:Shared) (Q:Value->Shared->Prop) (E:Value->Shared->Prop),tn i s.heap->Q (.ref it) s->wpAny (model P w) A (pyIter (.ref it)) Q E s
abbrev TI:=St->Hp->(It->Hp->Prop)->Prop
def PIE (X:Cx) (pins:List (Addr×Obj)) (σ:St) (tg:Expr) (R:It->Hp->Prop) (itv:Value) (s2:Shared):Prop:=
 ∃(it:Addr) (fp:List Addr) (tn:Nat->Heap->Prop) (J:It) (H':Hp),itv= .ref it/\Inv X pins σ H' s2/\p_S X.prog X.w X.K tg J fp it tn/\tn 0 s2.heap/\(∀b∈fp,f_Z X pins H' b)/\R J H'
def PI (X:Cx) (tg iter:Expr) (wi:TI):Prop:=
 ∀(pins:List (Addr×Obj)) (s:Shared) (σ:St) (H:Hp) (R:It->Hp->Prop),Inv X pins σ H s->wi σ H R->
  wpAny (model X.prog X.w) X.A (eval iter X.env) (λv s1=>wpAny (model X.prog X.w) X.A (pyIter v) (PIE X pins σ tg R) X.xe s1) X.xe s
theorem o_c {M:Model} {A:Around} {E:Value->Shared->Prop} {s:Shared} {tg:Expr} {it:Addr} {u:Value} {o:Obj} {n:String} {vs:Array Value} {Q:Unit->Shared->Prop} (ho:s.heap.get? it=some o) (hc:o.cls= .type n) (hd:o.data= .fields vs)
 (hn: ["enumerate","zip","dict_itemiterator","dict_reverseitemiterator","odict_iterator","itertools.zip_longest","itertools.pairwise"].contains n=false) (hQ:Q () s):wpAny M A (letOwnedTupleGo tg (.ref it) u) Q E s:=by
 unfold letOwnedTupleGo
 cases tg <;> first
  | exact wpAny_pure hQ
  | (cases u <;> first
      | exact wpAny_pure hQ
      | (refine wpAny_bind (wpAny_load ho ?_)
         rw[hc,hd];show wpAny M A (if (["enumerate","zip","dict_itemiterator","dict_reverseitemiterator","odict_iterator","itertools.zip_longest","itertools.pairwise"].contains n&&vs[0]? == some (rawInt _))=true then _ else _) Q E s;rw[if_neg (by intro h;rw[hn,Bool.false_and] at h;cases h)];exact wpAny_pure hQ))
def Itl (K:PySem.W.Frag) (a:Addr):It:=
 ⟨λi H=>∃xs x,SqL K H a xs/\xs[i]? =some x,λi H x H'=>H'=H/\∀xs,SqL K H a xs->xs[i]? =some x,λi H=>∃xs,SqL K H a xs/\xs.length<=i⟩
def Itr (lo:Int) (n:Nat):It:=⟨λi _=>i < n,λi H x H'=>H'=H/\x= .int (lo+i),λi _=>n<=i⟩
theorem j_V {P:Program} {w:World} {K:PySem.W.Frag} {tg:Expr} (a it:Addr):p_S P w K tg (Itl K a) [it] it (λi h=>h.IsListIter it a i) where
 mem:=by simp
 obj:=λi h st b hb=>by
  have e:b=it:=by simpa using hb
  subst e;obtain⟨o,e,c,d⟩:=st;exact⟨o,e,λv z=>by rw[d] at z;cases z⟩
 keep:=λi h h' st k=>st.at λo e=>k it (by simp) o e
 item:=by
  intro X hP hw hK hc i pins s σ H E I hf st hg;subst hP hw hK;obtain⟨xs,x,hq,hx⟩:=hg;obtain⟨its,rv,p,hz⟩:=I.list hq;obtain⟨u,hu,ru⟩:=rv.get hx;obtain⟨f0,f1,f2,f3,f4,f5⟩:=hf it (by simp);refine wpAny_pyNext_list_item st p.isList (x:=u) (by simpa using hu) λh' st' sb=> ?_;have I1:Inv X pins σ H { s with heap:=h' }:=I.turned (t':=s.toks) (λb o hb e=>(sb.2 b hb).trans e) f0 f1 f3 f4 f5;obtain⟨o,e,c,d⟩:=id st';exact⟨u,rfl,o_c (s:={ s with heap:=h' }) e c d (by decide) ⟨x,H,I1,ru,⟨rfl,λys hy=>by rw[I.list_inj hy hq];exact hx⟩,st',λb hb=>(hf b hb).1⟩⟩
 done:=by
  intro X hP hw hK hc i pins s σ H E I hf st hg;subst hP hw hK;obtain⟨xs,hq,hx⟩:=hg;obtain⟨its,rv,p,hz⟩:=I.list hq;obtain⟨f0,f1,f2,f3,f4,f5⟩:=hf it (by simp);have hl:=rv.length;exact wpAny_pyNext_list_end (I.ok.hd hc) st p.isList (by simp;omega) λh' eb=>⟨rfl,I.turned (t':=s.toks) (λb o hb e=>eb b o hb e) f0 f1 f3 f4 f5⟩
 self:=λ_ _ _ _ _ st h=>wpAny_pyIter_listiter st h
theorem i_P {P:Program} {w:World} {K:PySem.W.Frag} {tg:Expr} (it:Addr) (lo:Int) (n:Nat):p_S P w K tg (Itr lo n) [it] it (λi h=>IsRangeIter h it (lo+(i:Nat) * 1) ((n:Int) - (i:Nat)) 1) where
 mem:=by simp
 obj:=λi h st b hb=>by
  have e:b=it:=by simpa using hb
  subst e
  exact⟨_,st,λv z=>by
   have z':Data.fields _=Data.cell v:=z;cases z'⟩
 keep:=λi h h' st k=>k it (by simp) _ st
 item:=by
  intro X hP hw hK hc i pins s σ H E I hf st hg;subst hP hw hK;obtain⟨f0,f1,f2,f3,f4,f5⟩:=hf it (by simp);have W:=Walks.range (prog:=X.prog) (w:=X.w) (I.ok.hd hc) it lo 1 n;refine W.item i s _ _ hg st λv h' tk hv st' kk=> ?_;obtain⟨t,rfl⟩:=hv;have I1:Inv X pins σ H { s with heap:=h',toks:=tk }:=I.turned (λb o hb e=>kk b o (by simpa using hb) e) f0 f1 f3 f4 f5;refine⟨_,rfl,o_c (s:={ s with heap:=h',toks:=tk }) (n:="range_iterator") st' rfl rfl (by decide) ⟨.int (lo+i),H,I1,⟨t,?_⟩,⟨rfl,rfl⟩,st',λb hb=>(hf b hb).1⟩⟩;rw[Int.mul_one]
 done:=by
  intro X hP hw hK hc i pins s σ H E I hf st hg;subst hP hw hK;obtain⟨f0,f1,f2,f3,f4,f5⟩:=hf it (by simp);exact wpAny_pyNext_range_end (I.ok.hd hc) st (by have:n<=i:=hg;omega) λh' eb=>⟨rfl,I.turned (t':=s.toks) (λb o hb e=>eb b o hb e) f0 f1 f3 f4 f5⟩
 self:=λ_ _ _ _ _ st h=>wpAny_pyIter_rangeiter st h
section
variable {X:Cx} {tg:Expr}
def o_E (K:PySem.W.Frag) (tl:TE):TI:=λσ H R=>tl σ H λx H1=>∃a,x= .ref a/\(∃xs,SqL K H1 a xs)/\R (Itl K a) H1
theorem b_e {l:Expr} {tl:TE} (hl:PE X l tl):PI X tg l (o_E X.K tl):=by
 intro pins s σ H R I h;refine thn (hl pins s σ H _ I h) λv s1 ⟨x,H1,I1,r1,q1⟩=> ?_;obtain⟨a,e,⟨xs,hq⟩,q⟩:=q1;subst e;cases r1;obtain⟨its,rv,p,hz⟩:=I1.list hq;refine wpAny_pyIter_list p.isList ?_;refine⟨s1.heap.objs.size, [s1.heap.objs.size],_,_,H1,rfl,I1.kept (t':=s1.toks) λb o e=>Heap.get?_push_of_some _ e,j_V a _,⟨_,Heap.get?_push_size _ rfl,rfl,rfl⟩,λb hb=> ?_, q⟩;have e:b=s1.heap.objs.size:=by simpa using hb
 subst e;exact I1.fpOk (r_5 _) (I1.hok.fresh (r_5 _))
theorem i_c {pins:List (Addr×Obj)} {σ:St} {H:Hp} {s:Shared} {R:It->Hp->Prop} {E:Value->Shared->Prop} {lo hi:Int} {t u v:Tok} {tk:Nat} (I:Inv X pins σ H s) (h1: -(2 ^ 62)<=lo) (h2:lo < 2 ^ 62) (h3: -(2 ^ 62)<=hi) (h4:hi < 2 ^ 62)
 (q:R (Itr lo (hi - lo).toNat) H):wpAny (model X.prog X.w) X.A (pyIter (.ref s.heap.objs.size)) (PIE X pins σ tg R) E { s with heap:=s.heap.push { cls:= .type "range",data:= .fields #[.int lo t,.int hi u,.int 1 v] },toks:=tk }:=by
 refine wpAny_pyIter_range (IsRange.new ..) (small_one h1 h2 h3 h4) ?_;have I1:Inv X pins σ H { s with heap:=s.heap.push { cls:= .type "range",data:= .fields #[.int lo t,.int hi u,.int 1 v] },toks:=tk }:=I.kept λb o e=>Heap.get?_push_of_some _ e
 refine⟨(s.heap.push { cls:= .type "range",data:= .fields #[.int lo t,.int hi u,.int 1 v] }).objs.size, [(s.heap.push { cls:= .type "range",data:= .fields #[.int lo t,.int hi u,.int 1 v] }).objs.size],_,_,H,rfl,
  I1.kept (t':=tk) λb o e=>Heap.get?_push_of_some _ e,i_P _ lo (hi - lo).toNat,?_, λb hb=> ?_, q⟩
 ·have e1:lo+((0:Nat):Int) * 1=lo:=by simp
  have e2:(((hi - lo).toNat:Nat):Int) - ((0:Nat):Int)=Builtin.Range.rangeSize lo hi 1:=by rw[rangeSize_one];split <;> omega
  show IsRangeIter _ _ (lo+((0:Nat):Int) * 1) ((((hi - lo).toNat:Nat):Int) - ((0:Nat):Int)) 1;rw[e1,e2];exact Heap.get?_push_size _ rfl
 ·have e:b=(s.heap.push { cls:= .type "range",data:= .fields #[.int lo t,.int hi u,.int 1 v] }).objs.size:=by simpa using hb
  subst e;exact I1.fpOk (r_5 _) (I1.hok.fresh (r_5 _))
def q_z (ta:TA):TI:=λσ H R=>ta σ H λvs H1=>∃j:Int,vs= [.int j]/\-(2 ^ 62)<=j/\j < 2 ^ 62/\R (Itr 0 j.toNat) H1
def p_Y (ta:TA):TI:=λσ H R=>ta σ H λvs H1=>∃i j:Int,vs= [.int i,.int j]/\(-(2 ^ 62)<=i/\i < 2 ^ 62/\-(2 ^ 62)<=j/\j < 2 ^ 62)/\R (Itr i (j - i).toNat) H1
theorem c_d {a:Expr} {ta:TA} {p pos:Pos} (hg:Gl X "range") (hm:X.mg "range"=none) (ha:PA X [a] ta) (hs:starEach [a] X.env= [(false,eval a X.env)]:=by rfl):PI X tg (.Call (.Name "range" p) [a] [] pos) (q_z ta):=by
 intro pins s σ H R I h;refine Call_ (e_7 I hg hm boot_range (PyProof.Rows.callWith_type1 (thn (ha pos pins s σ H _ I h) λus s1 ⟨vs,H1,I1,r1,q1⟩=> ?_) hs rfl));obtain⟨j,e,q1,q2,q⟩:=q1;subst e;cases r1 with
 | cons r rr=>
   cases rr;obtain⟨t,rfl⟩:=r;exact call_range_1 (i_c I1 (by omega) (by omega) q1 q2 (by simpa using q))
theorem j_N {a b:Expr} {ta:TA} {p pos:Pos} (hg:Gl X "range") (hm:X.mg "range"=none) (ha:PA X [a,b] ta) (hs:starEach [a,b] X.env= [(false,eval a X.env),(false,eval b X.env)]:=by rfl) (hs2:starEach [b] X.env= [(false,eval b X.env)]:=by rfl):
 PI X tg (.Call (.Name "range" p) [a,b] [] pos) (p_Y ta):=by
 intro pins s σ H R I h;refine Call_ (e_7 I hg hm boot_range (PyProof.Rows.callWith_type1 (thn (ha pos pins s σ H _ I h) λus s1 ⟨vs,H1,I1,r1,q1⟩=> ?_) (by rw[hs,hs2]) (by rw[hs2];rfl)));obtain⟨i,j,e,⟨q1,q2,q3,q4⟩,q⟩:=q1;subst e;cases r1 with
 | cons r rr=>
   cases rr with
   | cons r' rr=>
     cases rr;obtain⟨t,rfl⟩:=r;obtain⟨t',rfl⟩:=r';exact call_range_2 (i_c I1 q1 q2 q3 q4 q)
def r_C (wi:TI) (g:TG) (tb:TS):TS:=λD σ H=>wi σ H λJ H1=>∃W:Nat->Nat->St->Hp->Prop,(∃m,W 0 m σ H1)/\∀i m σ H,W i m σ H->
 (J.stop i H/\D.nx σ H)\/(J.go i H/\∃N:St->Hp->Prop,(∀σ' H',N σ' H'->∃m',m' < m/\W (i+1) m' σ' H')/\∀x H',J.yld i H x H'->g x σ H' λσ2 H2=>tb { D with nx:=N,ct:=N,bk:=D.nx } σ2 H2)
def f_o (fp:List Addr) (h:Heap):List (Addr×Obj):=fp.filterMap λb=>(h.get? b).map λo=>(b,o)
theorem b_Q {fp:List Addr} {h:Heap} {b:Addr} {o:Obj} (hb:b∈fp) (e:h.get? b=some o):(b,o)∈f_o fp h:=List.mem_filterMap.mpr ⟨b,hb,by rw[e];rfl⟩
theorem j_F {fp:List Addr} {h:Heap} {p:Addr×Obj} (hp:p∈f_o fp h):p.1∈fp/\h.get? p.1=some p.2:=by
 obtain⟨b,hb,e⟩:=List.mem_filterMap.mp hp;cases q:h.get? b with
 | none=>rw[q] at e;cases e
 | some o=>
   rw[q] at e;have e':(b,o)=p:=r_3 e;subst e';exact⟨hb,q⟩
theorem Inv.pinned {pins:List (Addr×Obj)} {σ:St} {H:Hp} {s:Shared} {fp:List Addr} (I:Inv X pins σ H s) (hf:∀b∈fp,f_Z X pins H b) (ho:∀b∈fp,∃o,s.heap.get? b=some o/\∀v,o.data≠ .cell v):Inv X (pins++f_o fp s.heap) σ H s:=
 I.pins_of λp hp=>(s_e.mp hp).elim (λz=>I.pin p (r_9 _ z)) λz=>by
  obtain⟨hb,e⟩:=j_F z;obtain⟨f0,f1,f2,_⟩:=hf p.1 hb;obtain⟨o,e',d⟩:=ho p.1 hb;rw[e] at e';cases e';exact⟨e,f0,f1,f2,d⟩
theorem Inv.unpinned {pins pl:List (Addr×Obj)} {σ:St} {H:Hp} {s:Shared} (I:Inv X (pins++pl) σ H s):Inv X pins σ H s:=I.pins_of λp hp=>I.pin p (r_9 _ (s_v _ hp))
theorem b_0 {iter:Expr} {body:List Stmt} {wi:TI} {g:TG} {tb:TS} {pos:Pos} (hp:PassesOwn (model X.prog X.w) X.A X.env X.xe) (hc:X.calm=true) (hi:PI X tg iter wi) (hg:PG X tg g) (hb:PSs X body tb)
 (hs:∀x,foldedSetIterable iter X.env x=pure x:=by intro _;rfl):PS X (.For tg iter body [] pos) (r_C wi g tb):=by
 intro pins s σ H D I h;refine wpAny_For (thn (hi pins s σ H _ I h) λv s1 h1=>thn h1 λitv s2 h2=> ?_) hs;obtain⟨it,fp,tn,J,H2,e,I2,T,k,f2,W,⟨m0,w0⟩,turn⟩:=h2;subst e
 -- what stays true of the iterator's objects through the loop
 have stat:∀{H':Hp},(∀b∈fp,H' b=none)->∀b∈fp,f_Z X pins H' b:=λhn b hb=>⟨hn b hb,(f2 b hb).2⟩;refine codeAny_forLoop_any (λn s'=>∃i σ' H',Inv X pins σ' H' s'/\tn i s'.heap/\(∀b∈fp,H' b=none)/\W i n σ' H') ?_ m0 ⟨0,σ,H2,I2,k,λb hb=>(f2 b hb).1,w0⟩;rintro n s3 ⟨i,σ3,H3,I3,j,c,w3⟩;rcases turn i n σ3 H3 w3 with⟨stop,qn⟩ | ⟨go,N,hN,step⟩
 ·refine wpAny_passesOwn hp (thn (T.done X rfl rfl rfl hc i pins s3 σ3 H3 X.xe I3 (stat c) j stop) λr s4 ⟨hr,I4⟩=> ?_)
  subst hr;exact wpAny_execs_nil ⟨σ3,H3,I4,qn⟩
 ·refine wpAny_passesOwn hp (thn (T.item X rfl rfl rfl hc i pins s3 σ3 H3 X.xe I3 (stat c) j go) λr s4 ⟨u,hr,h4⟩=> ?_)
  subst hr;refine wpAny_passesOwn hp (thn h4 λ_ s5 ⟨x,H5,I5,r5,y5,a,p⟩=> ?_);have l:=I5.pinned (stat p) (T.obj _ _ a);refine wpAny_passesOwn hp (thn (hg _ s5 σ3 H5 x u _ l r5 (step x H5 y5)) λ_ s6 ⟨σ6,H6,I6,q6⟩=> ?_);refine wpAny_passesOwn hp (thn (hb _ s6 σ6 H6 _ I6 q6) λf s7 q7=> ?_)
  have again:∀{σ7:St} {H7:Hp},Inv X (pins++f_o fp s5.heap) σ7 H7 s7->N σ7 H7->∃m,m < n/\∃i σ' H',Inv X pins σ' H' s7/\tn i s7.heap/\(∀b∈fp,H' b=none)/\W i m σ' H':=λ{σ7 H7} I7 n7=>by
   obtain⟨m',hm,w7⟩:=hN σ7 H7 n7;refine⟨m',hm,i+1,σ7,H7,I7.unpinned,T.keep _ _ _ a λb hb o e=>(I7.pin (b,o) (r_9 _ (r_9 _ (b_Q hb e)))).1,λb hb=> ?_, w7⟩;obtain⟨o,e,d⟩:=T.obj _ _ a b hb;exact (I7.pin (b,o) (r_9 _ (r_9 _ (b_Q hb e)))).2.1
  cases f with
  | next=>obtain⟨σ7,H7,I7,n7⟩:=q7;exact again I7 n7
  | cont=>obtain⟨σ7,H7,I7,n7⟩:=q7;exact again I7 n7
  | brk=>obtain⟨σ7,H7,I7,q7⟩:=q7;exact⟨σ7,H7,I7.unpinned,q7⟩
  | ret v=>obtain⟨x7,σ7,H7,I7,r7,q7⟩:=q7;exact⟨x7,σ7,H7,I7.unpinned,r7,q7⟩
end
theorem b_X {K:PySem.W.Frag} {a:Addr} {xs:List V} {g:TG} {tb:TS} {D:i_A} {σ:St} {H:Hp} (Pv:Nat->St->Hp->Prop) (h0:Pv 0 σ H) (hl:∀i σ H,i<=xs.length->Pv i σ H->SqL K H a xs)
 (hs:∀i x σ H,xs[i]? =some x->Pv i σ H->g x σ H λσ2 H2=>tb { D with nx:=Pv (i+1),ct:=Pv (i+1),bk:=D.nx } σ2 H2) (hd:∀σ H,Pv xs.length σ H->D.nx σ H):
 ∃W:Nat->Nat->St->Hp->Prop,(∃m,W 0 m σ H)/\∀i m σ H,W i m σ H->
  ((Itl K a).stop i H/\D.nx σ H)\/((Itl K a).go i H/\∃N:St->Hp->Prop,(∀σ' H',N σ' H'->∃m',m' < m/\W (i+1) m' σ' H')/\∀x H',(Itl K a).yld i H x H'->g x σ H' λσ2 H2=>tb { D with nx:=N,ct:=N,bk:=D.nx } σ2 H2):=by
 refine⟨λi m σ H=>m=xs.length - i/\i<=xs.length/\Pv i σ H,⟨xs.length,by simp,s_o _,h0⟩,?_⟩;rintro i m σ H ⟨rfl,hi,p⟩;have q:=hl i σ H hi p;by_cases b:i < xs.length
 ·refine .inr ⟨⟨xs,xs[i],q,by simp[b]⟩,Pv (i+1),λσ' H' p'=>⟨xs.length - (i+1),by omega,rfl,b,p'⟩,λx H' y=> ?_⟩
  obtain⟨e,y⟩:=y;subst e;exact hs i x σ _ (y xs q) p
 ·have e:i=xs.length:=by omega
  subst e;exact .inl ⟨⟨xs,q,r_5 _⟩,hd σ H p⟩
theorem c_k {lo:Int} {n:Nat} {g:TG} {tb:TS} {D:i_A} {σ:St} {H:Hp} (Pv:Nat->St->Hp->Prop) (h0:Pv 0 σ H)
 (hs:∀i σ H,i < n->Pv i σ H->g (.int (lo+i)) σ H λσ2 H2=>tb { D with nx:=Pv (i+1),ct:=Pv (i+1),bk:=D.nx } σ2 H2) (hd:∀σ H,Pv n σ H->D.nx σ H):
 ∃W:Nat->Nat->St->Hp->Prop,(∃m,W 0 m σ H)/\∀i m σ H,W i m σ H->
  ((Itr lo n).stop i H/\D.nx σ H)\/((Itr lo n).go i H/\∃N:St->Hp->Prop,(∀σ' H',N σ' H'->∃m',m' < m/\W (i+1) m' σ' H')/\∀x H',(Itr lo n).yld i H x H'->g x σ H' λσ2 H2=>tb { D with nx:=N,ct:=N,bk:=D.nx } σ2 H2):=by
 refine⟨λi m σ H=>m=n - i/\i<=n/\Pv i σ H,⟨n,by simp,s_o _,h0⟩,?_⟩;rintro i m σ H ⟨rfl,hi,p⟩;by_cases a:i < n
 ·refine .inr ⟨a,Pv (i+1),λσ' H' p'=>⟨n - (i+1),by omega,rfl,a,p'⟩,λx H' y=> ?_⟩
  obtain⟨e,y⟩:=y;subst e y;exact hs i σ _ a p
 ·have e:i=n:=by omega
  subst e;exact .inl ⟨r_5 _,hd σ H p⟩
abbrev R2:=V->V->Hp->VK->Prop
def OpR (X:Cx) (f:Value->Value->Sem Value) (r:R2):Prop:=
 ∀(pins:List (Addr×Obj)) (s:Shared) (σ:St) (H:Hp) (x y:V) (v u:Value) (Q:VK),Inv X pins σ H s->RelV x v->RelV y u->r x y H Q->
  wpAny (model X.prog X.w) X.A (f v u) (EP X pins σ Q) X.xe s
def UnR (X:Cx) (f:Value->Sem Value) (r:V->Hp->VK->Prop):Prop:=
 ∀(pins:List (Addr×Obj)) (s:Shared) (σ:St) (H:Hp) (x:V) (v:Value) (Q:VK),Inv X pins σ H s->RelV x v->r x H Q->
  wpAny (model X.prog X.w) X.A (f v) (EP X pins σ Q) X.xe s
def c_W (X:Cx) (f:Value) (r:List V->Hp->VK->Prop):Prop:=
 ∀(pins:List (Addr×Obj)) (s:Shared) (σ:St) (H:Hp) (xs:List V) (us:List Value) (Q:VK),Inv X pins σ H s->Vals xs us->r xs H Q->
  wpAny (model X.prog X.w) X.A (call f us) (EP X pins σ Q) X.xe s
def tOp (r:R2) (ta tb:TE):TE:=λσ H Q=>ta σ H λx H1=>tb σ H1 λy H2=>r x y H2 Q
def tUn (r:V->Hp->VK->Prop) (ta:TE):TE:=λσ H Q=>ta σ H λx H1=>r x H1 Q
def rI (C:Int->Int->Prop) (g:Int->Int->V):R2:=λx y H Q=>∃i j,x= .int i/\y= .int j/\C i j/\Q (g i j) H
def rI0 (g:Int->Int->V):R2:=λx y H Q=>∃i j,x= .int i/\y= .int j/\Q (g i j) H
def rU (g:Int->V):V->Hp->VK->Prop:=λx H Q=>∃i,x= .int i/\Q (g i) H
section
variable {X:Cx} {a b c:Expr} {ta tb tc:TE} {pos:Pos}
theorem q_y (ha:PE X a ta) (hb:PE X b tb) {pins:List (Addr×Obj)} {s:Shared} {σ:St} {H:Hp} {R:V->V->Hp->Prop} (I:Inv X pins σ H s)
 (h:ta σ H λx H1=>tb σ H1 λy H2=>R x y H2) {Q:Value->Shared->Prop} {f:Value->Value->Sem Value}
 (hf:∀v u s2 x y H2,Inv X pins σ H2 s2->RelV x v->RelV y u->R x y H2->wpAny (model X.prog X.w) X.A (f v u) Q X.xe s2):
 wpAny (model X.prog X.w) X.A (eval a X.env) (λv s₁=>wpAny (model X.prog X.w) X.A (eval b X.env) (λu s₂=>wpAny (model X.prog X.w) X.A (f v u) Q X.xe s₂) X.xe s₁) X.xe s:=by
 refine thn (ha pins s σ H _ I h) λv s1 ⟨x,H1,I1,r1,q1⟩=> ?_;refine thn (hb pins s1 σ H1 _ I1 q1) λu s2 ⟨y,H2,I2,r2,q2⟩=> ?_;exact hf v u s2 x y H2 I2 r1 r2 q2
theorem a_u {op:Operator} {r:R2} (ho:OpR X (binaryOp op) r) (ha:PE X a ta) (hb:PE X b tb):PE X (.BinOp a op b pos) (tOp r ta tb):=by
 intro pins s σ H Q I h;exact wpAny_BinOp (q_y ha hb I h λv u s2 x y H2 I2 rx ry q=>ho pins s2 σ H2 x y v u Q I2 rx ry q)
theorem n_V {op:UnaryOp} {r:V->Hp->VK->Prop} (ho:UnR X (unaryOp op) r) (ha:PE X a ta):PE X (.UnaryOp op a pos) (tUn r ta):=by
 intro pins s σ H Q I h;exact UnaryOp_ (thn (ha pins s σ H _ I h) λv s1 ⟨x,H1,I1,r1,q1⟩=>ho pins s1 σ H1 x v Q I1 r1 q1)
theorem opI {f:Value->Value->Sem Value} {C:Int->Int->Prop} {g:Int->Int->Int}
 (rule:∀(i j:Int) (t u:Tok) (s:Shared) (Q:Value->Shared->Prop) (E:Value->Shared->Prop),C i j->Q (.int (g i j) s.toks) { s with toks:=s.toks+1 }->wpAny (model X.prog X.w) X.A (f (.int i t) (.int j u)) Q E s):
 OpR X f (rI C λi j=> .int (g i j)):=by
 intro pins s σ H x y v u Q I rx ry h;obtain⟨i,j,rfl,rfl,hc,q⟩:=h;obtain⟨t,rfl⟩:=rx;obtain⟨t',rfl⟩:=ry;exact rule i j t t' s _ _ hc ⟨.int (g i j),H,I.tok _,⟨_,rfl⟩,q⟩
theorem q_3 {f:Value->Value->Sem Value} {g:Int->Int->Int}
 (rule:∀(i j:Int) (t u:Tok) (s:Shared) (Q:Value->Shared->Prop) (E:Value->Shared->Prop),Q (.int (g i j) s.toks) { s with toks:=s.toks+1 }->wpAny (model X.prog X.w) X.A (f (.int i t) (.int j u)) Q E s):
 OpR X f (rI0 λi j=> .int (g i j)):=by
 intro pins s σ H x y v u Q I rx ry h;obtain⟨i,j,rfl,rfl,q⟩:=h;obtain⟨t,rfl⟩:=rx;obtain⟨t',rfl⟩:=ry;exact rule i j t t' s _ _ ⟨.int (g i j),H,I.tok _,⟨_,rfl⟩,q⟩
theorem p_T {f:Value->Value->Sem Value} {g:Int->Int->Bool}
 (rule:∀(i j:Int) (t u:Tok) (s:Shared) (Q:Value->Shared->Prop) (E:Value->Shared->Prop),Q (.bool (g i j)) s->wpAny (model X.prog X.w) X.A (f (.int i t) (.int j u)) Q E s):
 OpR X f (rI0 λi j=> .bl (g i j)):=by
 intro pins s σ H x y v u Q I rx ry h;obtain⟨i,j,rfl,rfl,q⟩:=h;obtain⟨t,rfl⟩:=rx;obtain⟨t',rfl⟩:=ry;exact rule i j t t' s _ _ ⟨.bl (g i j),H,I,rfl,q⟩
def r_G (i j:Int):Prop:=0 < j/\j < 1073741824
def r_s (i j:Int):Prop:=0<=j/\j<=1000000/\i.natAbs < 2 ^ 64
def CMul (i j:Int):Prop:=(-(2 ^ 64) < i/\i < 2 ^ 64)\/(-(2 ^ 64) < j/\j < 2 ^ 64)
theorem CMul.ok {i j:Int} (h:CMul i j):IntMulOk i j:=by
 rcases h with⟨h1,h2⟩ | ⟨h1,h2⟩
 ·exact .of_left (intBits_le_64 h1 h2)
 ·exact .of_right (intBits_le_64 h1 h2)
theorem a_U:OpR X (binaryOp .Add) (rI0 λi j=> .int (i+j)):=q_3 λ_ _ _ _ _ _ _ q=>add_int q
theorem b_T:OpR X (binaryOp .Sub) (rI0 λi j=> .int (i - j)):=q_3 λ_ _ _ _ _ _ _ q=>sub_int q
theorem b_H:OpR X (binaryOp .Mult) (rI CMul λi j=> .int (i * j)):=opI λ_ _ _ _ _ _ _ hc q=>mul_int q hc.ok
theorem a_1:OpR X (binaryOp .FloorDiv) (rI r_G λi j=> .int (i / j)):=opI λi j _ _ _ _ _ hc q=>by
 have h1:(0:Int) < j:=hc.1;have h2:j < 1073741824:=hc.2;exact floordiv_int (by omega) (by rw[Int.fdiv_eq_ediv_of_nonneg i (by omega)];exact q) (.inl (PyProof.noPylong_small (by omega)))
theorem a_S:OpR X (binaryOp .Mod) (rI (λ_ j=>0 < j) λi j=> .int (i % j)):=opI λi j _ _ _ _ _ hc q=>by
 have h1:(0:Int) < j:=hc;exact mod_int' (by omega) (by rw[Int.fmod_eq_emod_of_nonneg i (by omega)];exact q)
theorem h_J:OpR X (binaryOp .Pow) (rI r_s λi j=> .int (i ^ j.toNat)):=opI λ_ _ _ _ _ _ _ hc q=>pow_int_small hc.1 hc.2.1 hc.2.2 q
theorem unI {f:Value->Sem Value} {g:Int->Int}
 (rule:∀(i:Int) (t:Tok) (s:Shared) (Q:Value->Shared->Prop) (E:Value->Shared->Prop),Q (.int (g i) s.toks) { s with toks:=s.toks+1 }->wpAny (model X.prog X.w) X.A (f (.int i t)) Q E s):
 UnR X f (rU λi=> .int (g i)):=by
 intro pins s σ H x v Q I rx h;obtain⟨i,rfl,q⟩:=h;obtain⟨t,rfl⟩:=rx;exact rule i t s _ _ ⟨.int (g i),H,I.tok _,⟨_,rfl⟩,q⟩
theorem j_P:UnR X (unaryOp .USub) (rU λi=> .int (-i)):=unI λ_ _ _ _ _ q=>neg_int q
end
def q_9:V->V->Bool
 | .non,.non=>true | .non,.int _=>true | .int _,.non=>true | .non,.bl _=>true | .bl _,.non=>true | .non,.str _=>true | .str _,.non=>true
 | .int _,.int _=>true | .bl _,.bl _=>true | .str _,.str _=>true | .byt _,.byt _=>true
 | .int _,.str _=>true | .str _,.int _=>true | .bl _,.str _=>true | .str _,.bl _=>true
 | _,_=>false
def rEq:R2:=λx y H Q=>q_9 x y=true/\Q (.bl (decide (x=y))) H
def rNe:R2:=λx y H Q=>q_9 x y=true/\Q (.bl (!decide (x=y))) H
theorem h_l {i j:Int}:decide (V.int i=V.int j)=(i == j):=by
 rw[Bool.eq_iff_iff];simp
theorem m_A {i j:Bool}:decide (V.bl i=V.bl j)=(i == j):=by
 rw[Bool.eq_iff_iff];simp
theorem h_G {i j:Str}:decide (V.str i=V.str j)=(i == j):=by
 rw[Bool.eq_iff_iff];simp
theorem k_c {i j:Array UInt8}:decide (V.byt i=V.byt j)=(i.toList == j.toList):=by
 rw[Bool.eq_iff_iff];cases i;cases j;simp
section
variable {X:Cx} {a b c:Expr} {ta tb tc:TE} {pos:Pos}
theorem a_K {pins:List (Addr×Obj)} {σ:St} {H:Hp} {s:Shared} {Q:VK} {k k':Bool} (I:Inv X pins σ H s) (q:Q (.bl k) H) (e:k=k'):EP X pins σ Q (.bool k') s:=by
 subst e;exact⟨.bl k,H,I,rfl,q⟩
theorem a_I:OpR X (compareOp .Eq) rEq:=by
 intro pins s σ H x y v u Q I rx ry h;obtain⟨hs,q⟩:=h;cases x with
 | non=>
   cases rx;cases y with
   | non=>cases ry;exact PySem.EqNone.eq_none_none (a_K I q (by simp))
   | bl j=>cases ry;exact PySem.EqNone.eq_none_bool (a_K I q (by simp))
   | int j=>obtain⟨t',rfl⟩:=ry;exact PySem.EqNone.eq_none_int (a_K I q (by simp))
   | str j=>obtain⟨t',rfl⟩:=ry;exact PySem.EqNone.eq_none_str (a_K I q (by simp))
   | _=>exact absurd (show false=true from hs) s_d
 | bl i=>
   cases rx;cases y with
   | non=>cases ry;exact PySem.EqNone.eq_bool_none (a_K I q (by simp))
   | bl j=>cases ry;exact eq_bool (a_K I q m_A)
   | str j=>obtain⟨t',rfl⟩:=ry;exact PySem.EqMixed.eq_bool_str (a_K I q (by simp))
   | _=>exact absurd (show false=true from hs) s_d
 | int i=>
   obtain⟨t,rfl⟩:=rx;cases y with
   | non=>cases ry;exact PySem.EqNone.eq_int_none (a_K I q (by simp))
   | int j=>obtain⟨t',rfl⟩:=ry;exact eq_int (a_K I q h_l)
   | str j=>obtain⟨t',rfl⟩:=ry;exact PySem.EqMixed.eq_int_str (a_K I q (by simp))
   | _=>exact absurd (show false=true from hs) s_d
 | str i=>
   obtain⟨t,rfl⟩:=rx;cases y with
   | non=>cases ry;exact PySem.EqNone.eq_str_none (a_K I q (by simp))
   | bl j=>cases ry;exact PySem.EqMixed.eq_str_bool (a_K I q (by simp))
   | int j=>obtain⟨t',rfl⟩:=ry;exact PySem.EqMixed.eq_str_int (a_K I q (by simp))
   | str j=>obtain⟨t',rfl⟩:=ry;exact eq_str (a_K I q h_G)
   | _=>exact absurd (show false=true from hs) s_d
 | byt i=>
   obtain⟨t,rfl⟩:=rx;cases y with
   | byt j=>obtain⟨t',rfl⟩:=ry;exact PySem.W.eq_bytes (a_K I q k_c)
   | _=>exact absurd (show false=true from hs) s_d
 | _=>cases y <;> exact absurd (show false=true from hs) s_d
theorem d_e:OpR X (compareOp .NotEq) rNe:=by
 intro pins s σ H x y v u Q I rx ry h;obtain⟨hs,q⟩:=h;cases x with
 | non=>
   cases rx;cases y with
   | non=>cases ry;exact PySem.EqNone.ne_none_none (a_K I q (by simp))
   | bl j=>cases ry;exact PySem.EqNone.ne_none_bool (a_K I q (by simp))
   | int j=>obtain⟨t',rfl⟩:=ry;exact PySem.EqNone.ne_none_int (a_K I q (by simp))
   | str j=>obtain⟨t',rfl⟩:=ry;exact PySem.EqNone.ne_none_str (a_K I q (by simp))
   | _=>exact absurd (show false=true from hs) s_d
 | bl i=>
   cases rx;cases y with
   | non=>cases ry;exact PySem.EqNone.ne_bool_none (a_K I q (by simp))
   | bl j=>cases ry;exact ne_bool (a_K I q (congrArg not m_A))
   | str j=>obtain⟨t',rfl⟩:=ry;exact PySem.EqMixed.ne_bool_str (a_K I q (by simp))
   | _=>exact absurd (show false=true from hs) s_d
 | int i=>
   obtain⟨t,rfl⟩:=rx;cases y with
   | non=>cases ry;exact PySem.EqNone.ne_int_none (a_K I q (by simp))
   | int j=>obtain⟨t',rfl⟩:=ry;exact ne_int (a_K I q (congrArg not h_l))
   | str j=>obtain⟨t',rfl⟩:=ry;exact PySem.EqMixed.ne_int_str (a_K I q (by simp))
   | _=>exact absurd (show false=true from hs) s_d
 | str i=>
   obtain⟨t,rfl⟩:=rx;cases y with
   | non=>cases ry;exact PySem.EqNone.ne_str_none (a_K I q (by simp))
   | bl j=>cases ry;exact PySem.EqMixed.ne_str_bool (a_K I q (by simp))
   | int j=>obtain⟨t',rfl⟩:=ry;exact PySem.EqMixed.ne_str_int (a_K I q (by simp))
   | str j=>obtain⟨t',rfl⟩:=ry;exact ne_str (a_K I q (congrArg not h_G))
   | _=>exact absurd (show false=true from hs) s_d
 | byt i=>
   obtain⟨t,rfl⟩:=rx;cases y with
   | byt j=>obtain⟨t',rfl⟩:=ry;exact PySem.W.ne_bytes (a_K I q (congrArg not k_c))
   | _=>exact absurd (show false=true from hs) s_d
 | _=>cases y <;> exact absurd (show false=true from hs) s_d
theorem e_Z:OpR X (compareOp .Lt) (rI0 λi j=> .bl (decide (i < j))):=p_T λ_ _ _ _ _ _ _ q=>lt_int q
theorem q_E:OpR X (compareOp .LtE) (rI0 λi j=> .bl (decide (i<=j))):=p_T λ_ _ _ _ _ _ _ q=>le_int q
theorem h_y:OpR X (compareOp .Gt) (rI0 λi j=> .bl (decide (j < i))):=p_T λ_ _ _ _ _ _ _ q=>gt_int q
theorem j_o:OpR X (compareOp .GtE) (rI0 λi j=> .bl (decide (j<=i))):=p_T λ_ _ _ _ _ _ _ q=>ge_int q
theorem a_q (b:Expr) {op:CmpOp} (h:op≠ .In:=by decide) (h2:op≠ .NotIn:=by decide):behindInMarks op b=false:=by
 have e1:(op == CmpOp.In)=false:=by cases op <;> first | rfl | exact absurd rfl h
 have e2:(op == CmpOp.NotIn)=false:=by cases op <;> first | rfl | exact absurd rfl h2
 cases b <;> simp[behindInMarks,e1,e2]
theorem c_n {op:CmpOp} {r:R2} (ho:OpR X (compareOp op) r) (ha:PE X a ta) (hb:PE X b tb) (hm:behindInMarks op b=false):PE X (.Compare a [op] [b] pos) (tOp r ta tb):=by
 intro pins s σ H Q I h;exact wpAny_Compare1 (q_y ha hb I h λv u s2 x y H2 I2 rx ry q=>ho pins s2 σ H2 x y v u Q I2 rx ry q) hm
def q_k (t:TE):TT:=λσ H Q=>t σ H λx H'=>∃k,x= .bl k/\Q k H'
theorem a_l {op:CmpOp} {r:R2} (ho:OpR X (compareOp op) r) (ha:PE X a ta) (hb:PE X b tb) (hm:behindInMarks op b=false):PT X (.Compare a [op] [b] pos) (q_k (tOp r ta tb)):=by
 intro pins s σ H Q I h
 refine wpAny_isTrue_Compare1 (thn (ha pins s σ H _ I h) λv s1 ⟨x,H1,I1,r1,q1⟩=>thn (hb pins s1 σ H1 _ I1 q1) λu s2 ⟨y,H2,I2,r2,q2⟩=>
  thn (ho pins s2 σ H2 x y v u _ I2 r1 r2 q2) λc s3 ⟨z,H3,I3,r3,k,e,q3⟩=> ?_) hm
 subst e;cases r3;exact wpAny_truthy_bool ⟨H3,I3,q3⟩
theorem e_P:(sizeLine:Nat) < 2 ^ 63:=by rw[sizeLine_eq];decide
theorem f_c:OpR X (binaryOp .Add) (λx y H Q=>∃i j,x= .str i/\y= .str j/\i.length+j.length<=sizeLine/\Q (.str (i++j)) H):=by
 intro pins s σ H x y v u Q I rx ry h;obtain⟨i,j,rfl,rfl,hz,q⟩:=h;obtain⟨t,rfl⟩:=rx;obtain⟨t',rfl⟩:=ry;exact add_str (λt' tk=>⟨.str (i++j),H,I.tok _,⟨_,rfl⟩,q⟩) hz
theorem i_q {x:V} {us:List Value} (r:Vals [x] us):∃u,us= [u]/\RelV x u:=by
 cases r with
 | cons r1 r2=>cases r2;exact⟨_,rfl,r1⟩
theorem p_K {x y:V} {us:List Value} (r:Vals [x,y] us):∃u w',us= [u,w']/\RelV x u/\RelV y w':=by
 cases r with
 | cons r1 r2=>
   cases r2 with
   | cons r3 r4=>cases r4;exact⟨_,_,rfl,r1,r3⟩
theorem j_W (hc:X.calm=true):c_W X (.builtin "max") (λxs H Q=>∃i j,xs= [.int i,.int j]/\Q (.int (if j > i then j else i)) H):=by
 intro pins s σ H xs us Q I r h;obtain⟨i,j,rfl,q⟩:=h;obtain⟨u,w',rfl,⟨t,rfl⟩,⟨t',rfl⟩⟩:=p_K r;refine max_two_ints (I.ok.hd hc) λh' tk k=>⟨_,H,I.kept k,?_, q⟩;by_cases hj:j > i
 ·rw[if_pos hj,if_pos hj];exact⟨_,rfl⟩
 ·rw[if_neg hj,if_neg hj];exact⟨_,rfl⟩
theorem j_9 (hc:X.calm=true):c_W X (.builtin "min") (λxs H Q=>∃i j,xs= [.int i,.int j]/\Q (.int (if j < i then j else i)) H):=by
 intro pins s σ H xs us Q I r h;obtain⟨i,j,rfl,q⟩:=h;obtain⟨u,w',rfl,⟨t,rfl⟩,⟨t',rfl⟩⟩:=p_K r;refine min_two_ints (I.ok.hd hc) λh' tk k=>⟨_,H,I.kept k,?_, q⟩;by_cases hj:j < i
 ·rw[if_pos hj,if_pos hj];exact⟨_,rfl⟩
 ·rw[if_neg hj,if_neg hj];exact⟨_,rfl⟩
theorem b_S:c_W X (.type "int") (λxs H Q=>(∃i,xs= [.int i]/\Q (.int i) H)\/∃k,xs= [.bl k]/\Q (.int (if k then 1 else 0)) H):=by
 intro pins s σ H xs us Q I r h;rcases h with⟨i,rfl,q⟩ | ⟨k,rfl,q⟩
 ·obtain⟨u,rfl,t,rfl⟩:=i_q r
  exact call_int_int ⟨.int i,H,I,⟨_,rfl⟩,q⟩
 ·obtain⟨u,rfl,r1⟩:=i_q r
  cases r1;exact call_int_bool ⟨.int (if k then 1 else 0),H,I.tok _,⟨_,rfl⟩,q⟩
end
structure ObjM (h:Heap) (x dx C:Addr) (mA:Str->Option Value):Prop where
 obj:h.get? x=some (PySem.W.instObj C dx)
 ns:h.Ns1 dx mA
 ne:dx≠x
theorem k_p {h:Heap} {dx:Addr} {mA:Str->Option Value} (n:h.Ns1 dx mA):∃od,h.get? dx=some od/\∀name,PySem.W.lookIn name od=some (mA name):=by
 obtain⟨o,es,ep,ho,hd,hk,_,hm⟩:=n;refine⟨o,ho,λname=> ?_⟩;have e:=hm name;unfold nsFind findBy at e;rw[<-Array.find?_toList] at e;unfold PySem.W.lookIn;rw[hd];dsimp only;split
 ·rename_i y q
  rw[q] at e;exact congrArg some e
 ·rename_i q
  rw[q] at e
  have a:es.toList.any (·.refKey)=false:=by
   rw[List.any_eq_false];intro y hy;obtain⟨z,t,b⟩:=hk y (Array.mem_toList_iff.mp hy);simp[DictEntry.refKey,b]
  have a':¬ es.toList.any (·.refKey)=true:=by rw[a];exact s_d
  rw[if_neg a'];exact congrArg some e
theorem ObjM.look {h:Heap} {x dx C:Addr} {mA:Str->Option Value} (I:ObjM h x dx C mA):∃od,PySem.W.InstAt h x (PySem.W.instObj C dx) C (some od)/\∀name,PySem.W.lookIn name od=some (mA name):=
 let ⟨od,ho,hl⟩:=k_p I.ns
 ⟨od,⟨I.obj,rfl,rfl,ho⟩,hl⟩
section
variable {prog:Program} {w:World} {A:Around} {E:Value->Shared->Prop} {s:Shared} {K:PySem.W.Frag} {x dx C f:Addr} {mA:Str->Option Value} {name:Str} {v:Value}
theorem n_D {expr:Bool} {Q:Value->Shared->Prop} (X:K.In s.heap) (I:ObjM s.heap x dx C mA) (hg:PySem.W.plainGet K C name=true) (hh:PySem.W.hasDictIn K C=true)
 (ha:PySem.W.findIn K (.ref C) name=some none) (hv:mA name=some v) (hv':PySem.W.handedIn v=true) (h:Q v { s with toks:=s.toks+1 }):
 wpAny (model prog w) A (getAttr (.ref x) name expr) Q E s:=by
 obtain⟨od,J,hl⟩:=I.look;exact PySem.W.get_value X J (PySem.W.plainGet_of hg).1 (PySem.W.findObj_own hh ha rfl (by rw[hl,hv])) hv' h
theorem l_5 {pl:Sem Bool} {Q:Value×List Value->Shared->Prop} (X:K.In s.heap) (I:ObjM s.heap x dx C mA) (hg:PySem.W.plainGet K C name=true)
 (hf:PySem.W.findIn K (.ref C) name=some (some (.ref f))) (ht:PySem.W.isFn K (.ref f)=true) (hv:mA name=none) (h:Q (.ref f, [.ref x]) s):
 wpAny (model prog w) A (getMethod (.ref x) name pl) Q E s:=by
 obtain⟨od,J,hl⟩:=I.look;exact PySem.W.method_fn X J (PySem.W.plainGet_of hg).1 (PySem.W.plainGet_of hg).2 hf (beq_iff_eq.mp ht) (by show (PySem.W.lookIn name od).map (·.isSome)=some false;rw[hl,hv];rfl) h
theorem n_0 {ns:List Str} {Q:Unit->Shared->Prop} (X:K.In s.heap) (I:ObjM s.heap x dx C mA)
 (hs:PySem.W.findIn K (.ref C) "__setattr__"=some (some (.builtin "object.__setattr__"))) (hp:PySem.W.plainOver K C=true) (ht:PySem.W.takerIn K C name=some none) (hh:PySem.W.hasDictIn K C=true)
 (hw:PySem.Within mA ns) (hsz:ns.length<=sizeLine)
 (h:∀h',ObjM h' x dx C (λy=>if y=name then some v else mA y)->Heap.SameBut dx s.heap h'->Q () { s with heap:=h',toks:=s.toks+2 }):
 wpAny (model prog w) A (setAttr (.ref x) name v) Q E s:=by
 obtain⟨od,J,hl⟩:=I.look;refine PySem.W.set_plain X J hs (PySem.W.osa_open (s:={ s with toks:=s.toks+1 }) (r:=none) X J hp ht λb=> ?_);obtain⟨cd,hc,e⟩:=PySem.W.any_some hh;have hx:s.heap.get? x=some ⟨.ref C,some dx,.plain,#[]⟩:=I.obj;refine wpAny_bind (wpAny_pure (wpAny_bind (wpAny_bind (wpAny_loadPart hx (wpAny_bind (PySem.W.Looks.here (s:={ s with toks:=s.toks+1 }) (PySem.W.looks_clsIn X hc) ?_))))));rw[e];refine wpAny_pure (a:=some dx) (wpAny_bind (wpAny_pure (wpAny_bind ?_)));refine wpAny_nsSet1 (s:={ s with toks:=s.toks+1 }) I.ns λh' d c=> ?_;obtain⟨oD,esD,epD,f,i,g⟩:=d.count (PySem.Within.cons name v hw);refine wpAny_bind (wpAny_lookBehind f (by rw[i];exact pastItsLine_dict (s_h g (by rw[r_2];omega))) ?_);exact wpAny_pure (h _ ⟨(c.2 _ (Ne.symm I.ne)).trans I.obj,d,I.ne⟩ c)
theorem l_p {R:Result->Shared->Prop} {vs:List Value} {kw:List (Str×Value)} (X:K.In s.heap) (hm:PySem.W.makesIn K C=true)
 (hi:PySem.W.findIn K (.ref C) "__init__"=some (some (.ref f))) (hf:PySem.W.typeIn K (.ref f)=some (.type "function"))
 (h:codeAny (model prog w) (A.under (.builtin "type.__call__" ⟨.ref C::vs,kw⟩)) (.call (.ref f) ⟨.ref (s.heap.objs.size+1)::vs,kw⟩) (PySem.W.InitBack (s.heap.objs.size+1) R)
   { s with heap:=(s.heap.push PySem.W.emptyDict).push (PySem.W.instObj C s.heap.objs.size) }):
 codeAny (model prog w) A (.call (.ref C) ⟨vs,kw⟩) R s:=by
 obtain⟨hh,g,d,t,os⟩:=s;exact PySem.W.make_core (PySem.W.makes_of X hm) (PySem.W.looks_findIn X hi) (λself=>PySem.W.bind_fn X self hf) (.inl rfl) h
end
def d_C (f:Str) (v:V):List (Str×V)->List (Str×V)
 | []=> [(f,v)]
 | (g,x)::r=>if g=f then (g,v)::r else (g,x)::d_C f v r
theorem b_n (f g:Str) (v:V):∀fs:List (Str×V),(d_C f v fs).lookup g=if g=f then some v else fs.lookup g
 | []=>by
   show List.lookup g [(f,v)]=_;by_cases h:g=f
   ·have hb:(g == f)=true:=beq_iff_eq.mpr h
    simp only[List.lookup,hb,if_pos h]
   ·have hb:(g == f)=false:=beq_eq_false_iff_ne.mpr h
    simp only[List.lookup,hb,if_neg h]
 | (k,x)::r=>by
   have ih:=b_n f g v r;rw[show d_C f v ((k,x)::r)=(if k=f then (k,v)::r else (k,x)::d_C f v r) from rfl];by_cases hk:k=f
   ·rw[if_pos hk]
    by_cases h:g=k
    ·have hb:(g == k)=true:=beq_iff_eq.mpr h
     simp only[List.lookup,hb,if_pos (h.trans hk)]
    ·have hb:(g == k)=false:=beq_eq_false_iff_ne.mpr h
     simp only[List.lookup,hb,if_neg (λe:g=f=>h (e.trans hk.symm))]
   ·rw[if_neg hk]
    by_cases h:g=k
    ·have hb:(g == k)=true:=beq_iff_eq.mpr h
     simp only[List.lookup,hb,if_neg (λe:g=f=>hk (h.symm.trans e))]
    ·have hb:(g == k)=false:=beq_eq_false_iff_ne.mpr h
     simp only[List.lookup,hb];exact ih
theorem e_t (f:Str) (v:V):∀fs:List (Str×V),f∈(d_C f v fs).map (·.1)/\∀g,g∈fs.map (·.1)->g∈(d_C f v fs).map (·.1)
 | []=>⟨by simp[d_C],λg h=>by simp at h⟩
 | (k,x)::r=>by
   obtain⟨i1,i2⟩:=e_t f v r;rw[show d_C f v ((k,x)::r)=(if k=f then (k,v)::r else (k,x)::d_C f v r) from rfl];by_cases hk:k=f
   ·rw[if_pos hk]
    subst hk;exact⟨by simp,λg h=>by simpa using h⟩
   ·rw[if_neg hk]
    refine⟨?_, λg h=> ?_⟩
    ·rw[s_b]
     exact r_Z _ i1
    ·rw[s_b] at h ⊢
     rcases r_7.mp h with e | e
     ·exact r_7.mpr (.inl e)
     ·exact r_Z _ (i2 g e)
theorem e_f (f:Str) (v:V):∀fs:List (Str×V),(d_C f v fs).length<=fs.length+1
 | []=>by simp[d_C]
 | (k,x)::r=>by
   have ih:=e_f f v r;rw[show d_C f v ((k,x)::r)=(if k=f then (k,v)::r else (k,x)::d_C f v r) from rfl];by_cases hk:k=f
   ·rw[if_pos hk,r_2,r_2];omega
   ·rw[if_neg hk,r_2,r_2];omega
theorem RelO.some_of {v:V} {o:Option Value} (r:RelO (some v) o):∃u,o=some u/\RelV v u:=by
 cases o with
 | none=>exact (show False from r).elim
 | some u=>exact⟨u,rfl,r⟩
theorem RelO.none_of {o:Option Value} (r:RelO none o):o=none:=by
 cases o with
 | none=>rfl
 | some u=>exact (show False from r).elim
theorem j_s {v:V} {u:Value} (r:RelV v u):PySem.W.handedIn u=true:=by
 cases v with
 | non=>cases (show u=Value.none from r);rfl
 | bl b=>cases (show u=Value.bool b from r);rfl
 | int i=>obtain⟨t,e⟩:=(show ∃t,u=Value.int i t from r);cases e;rfl
 | str x=>obtain⟨t,e⟩:=(show ∃t,u=Value.str x t from r);cases e;rfl
 | byt b=>obtain⟨t,e⟩:=(show ∃t,u=Value.bytes b t from r);cases e;rfl
 | flt b=>obtain⟨t,e⟩:=(show ∃t,u=Value.float b t from r);cases e;rfl
 | ref a=>cases (show u=Value.ref a from r);rfl
 | ty n=>cases (show u=Value.type n from r);rfl
section
variable {P:Program} {w:World} {H H':Hp} {h h':Heap} {a C dx:Addr} {fs fs':List (Str×V)}
theorem f_Y (hok:HOk P w H h) (e:H a=some (.ins C dx fs)):∃mA,ObjM h a dx C mA/\(∀f,RelO (fs.lookup f) (mA f))/\PySem.Within mA (fs.map (·.1))/\fs.length<=1000/\H dx=some (.own a):=by
 obtain⟨d,z,ne,ob,mA,n,r,q⟩:=(show ObjOk P w H h a (.ins C dx fs) from hok a _ e);exact⟨mA,⟨ob,n,ne⟩,r,q,z,d⟩
end
structure Cls (K:PySem.W.Frag) (C:Addr):Prop where
 pg:PySem.W.plainGet K C Str.empty=true
 hd:PySem.W.hasDictIn K C=true
 po:PySem.W.plainOver K C=true
 sa:PySem.W.findIn K (.ref C) "__setattr__"=some (some (.builtin "object.__setattr__"))
theorem Cls.get {K:PySem.W.Frag} {C:Addr} (c:Cls K C) (f:Str):PySem.W.plainGet K C f=true:=c.pg
def NoAttr (K:PySem.W.Frag) (C:Addr) (f:Str):Prop:=PySem.W.findIn K (.ref C) f=some none
theorem NoAttr.taker {K:PySem.W.Frag} {C:Addr} {f:Str} (n:NoAttr K C f):PySem.W.takerIn K C f=some none:=by
 unfold PySem.W.takerIn;rw[show PySem.W.findIn K (.ref C) f=some none from n];rfl
structure o_R (K:PySem.W.Frag) (C:Addr) (m:Str) (f:Addr):Prop where
 at_:PySem.W.findIn K (.ref C) m=some (some (.ref f))
 fn:PySem.W.isFn K (.ref f)=true
 kp:PySem.W.keepIn K (.ref f)=true
section
variable {X:Cx} {pins:List (Addr×Obj)} {σ:St} {H:Hp} {s:Shared} {a C dx:Addr} {fs:List (Str×V)} {f:Str} {v:V} {A:Around} {E:Value->Shared->Prop}
theorem i_Q {b:Bool} {Q:Value->Shared->Prop} (I:Inv X pins σ H s) (e:H a=some (.ins C dx fs)) (c:Cls X.K C) (n:NoAttr X.K C f) (l:fs.lookup f=some v)
 (h:∀u s',Inv X pins σ H s'->RelV v u->Q u s'):wpAny (model X.prog X.w) A (getAttr (.ref a) f b) Q E s:=by
 obtain⟨mA,O,r,_,_,_⟩:=f_Y I.hok e;obtain⟨u,hu,ru⟩:=RelO.some_of (v:=v) (o:=mA f) (by rw[<-l];exact r f);exact n_D I.kIn O (c.get f) c.hd n hu (j_s ru) (h u _ (I.tok _) ru)
theorem d_G {m:Str} {g:Addr} {pl:Sem Bool} {Q:Value×List Value->Shared->Prop} (I:Inv X pins σ H s) (e:H a=some (.ins C dx fs)) (c:Cls X.K C) (k:o_R X.K C m g) (l:fs.lookup m=none)
 (h:Q (.ref g, [.ref a]) s):wpAny (model X.prog X.w) A (getMethod (.ref a) m pl) Q E s:=by
 obtain⟨mA,O,r,_,_,_⟩:=f_Y I.hok e;have hn:mA m=none:=RelO.none_of (by rw[<-l];exact r m);exact l_5 I.kIn O (c.get m) k.at_ k.fn hn h
theorem i_C {y:V} {u:Value} {Q:Unit->Shared->Prop} (I:Inv X pins σ H s) (e:H a=some (.ins C dx fs)) (c:Cls X.K C) (n:NoAttr X.K C f) (hl:fs.length < 1000) (ry:RelV y u)
 (h:∀s',Inv X pins σ (upd H a (.ins C dx (d_C f y fs))) s'->Q () s'):wpAny (model X.prog X.w) A (setAttr (.ref a) f u) Q E s:=by
 obtain⟨mA,O,r,wi,_,ho⟩:=f_Y I.hok e;have hz:(fs.map (·.1)).length<=sizeLine:=by rw[r_W,sizeLine_eq];omega
 refine n_0 I.kIn O c.sa c.po n.taker c.hd wi hz λh' O' sb=>h _ ?_;have hd:∃o,h'.get? dx=some o:=let ⟨o,_,_,e',_⟩:=O'.ns;⟨o,e'⟩;refine I.write (x:=a) (e:=dx) (by rw[e];exact True.intro) (.inr ho) (λb q hb z=>(sb.2 b hb).trans z) hd ?_;refine⟨by rw[a_i O.ne];exact ho,?_, O.ne,O'.obj,_,O'.ns,λg=> ?_, λg hg=> ?_⟩
 ·have:=e_f f y fs;omega
 ·show RelO ((d_C f y fs).lookup g) (if g=f then some u else mA g)
  rw[b_n];by_cases q:g=f
  ·rw[if_pos q,if_pos q];exact ry
  ·rw[if_neg q,if_neg q];exact r g
 ·by_cases q:g=f
  ·rw[q];exact (e_t f y fs).1
  ·refine (e_t f y fs).2 g (wi g λz=>hg ?_)
   show (if g=f then some u else mA g)=none;rw[if_neg q];exact z
theorem Inv.made (I:Inv X pins σ H s):Inv X pins σ (upd (upd H s.heap.objs.size (.own (s.heap.objs.size+1))) (s.heap.objs.size+1) (.ins C s.heap.objs.size []))
 { s with heap:=(s.heap.push PySem.W.emptyDict).push (PySem.W.instObj C s.heap.objs.size) }:=by
 have e1:(s.heap.push PySem.W.emptyDict).get? s.heap.objs.size=some PySem.W.emptyDict:=Heap.get?_push_size s.heap rfl
 have e2:((s.heap.push PySem.W.emptyDict).push (PySem.W.instObj C s.heap.objs.size)).get? (s.heap.objs.size+1)=some (PySem.W.instObj C s.heap.objs.size):=by
  have:=Heap.get?_push_size (s.heap.push PySem.W.emptyDict) (o:=PySem.W.instObj C s.heap.objs.size) rfl
  rwa [Heap.size_push] at this
 have e3:(s.heap.push PySem.W.emptyDict).Ns s.heap.objs.size (λ_=>none):=⟨PySem.W.emptyDict,#[],_,e1,rfl,(λe he=>absurd he (by simp)),λ_=>rfl⟩;have I1:=I.laid (a:=s.heap.objs.size) (o:= .own (s.heap.objs.size+1)) (h':=s.heap.push PySem.W.emptyDict) (t':=s.toks) (λb u q=>Heap.get?_push_of_some _ q) (r_5 _) ⟨_,e1⟩;refine I1.laid (a:=s.heap.objs.size+1) (o:= .ins C s.heap.objs.size []) (t':=s.toks) (λb u q=>Heap.get?_push_of_some _ q) (Nat.le_of_eq (Heap.size_push _ _)) ?_;have ne:s.heap.objs.size≠s.heap.objs.size+1:=s_k (Nat.lt_succ_self _);refine⟨by rw[a_i ne,a_b],s_o _,ne,e2,λ_=>none,(Heap.Ns1.of_empty e3).at λo q=>Heap.get?_push_of_some _ q,λ_=>True.intro,λy hy=>absurd rfl hy⟩
theorem n_Y {prog:Program} {w:World} {env:Env} {e:Expr} {f:Str} {pos:Pos} {s:Shared} {Q:Value->Shared->Prop} (hb:attributeBase e f env (eval e env)=eval e env)
 (h:wpAny (model prog w) A (eval e env) (λo s₁=>wpAny (model prog w) A (getAttr o f true) Q E s₁) E s):wpAny (model prog w) A (eval (.Attribute e f pos) env) Q E s:=
 Attribute_any_ h (by rw[arm_eval_Attribute,hb])
end
def r_U (K:PySem.W.Frag) (ta:TE) (f:Str):TE:=λσ H Q=>ta σ H λx H1=>∃a C dx fs v,x= .ref a/\H1 a=some (.ins C dx fs)/\Cls K C/\NoAttr K C f/\fs.lookup f=some v/\Q v H1
def r_l (K:PySem.W.Frag) (ta tv:TE) (f:Str):TS:=λD σ H=>tv σ H λy H1=>ta σ H1 λx H2=>∃a C dx fs,x= .ref a/\H2 a=some (.ins C dx fs)/\Cls K C/\NoAttr K C f/\fs.length < 1000/\
 D.nx σ (upd H2 a (.ins C dx (d_C f y fs)))
section
variable {X:Cx} {o e value:Expr} {f:Str} {pos pos' tpos:Pos} {ta tv:TE}
theorem a_E (he:PE X e ta) (hb:attributeBase e f X.env (eval e X.env)=eval e X.env):PE X (.Attribute e f pos) (r_U X.K ta f):=by
 intro pins s σ H Q I h;refine n_Y hb (thn (he pins s σ H _ I h) λu s1 ⟨x,H1,I1,rx,a,C,dx,fs,v,ex,ea,c,n,l,q⟩=> ?_);subst ex;obtain rfl:u=Value.ref a:=rx;exact i_Q I1 ea c n l λu' s2 I2 ru=>⟨v,H1,I2,ru,q⟩
theorem d_p (ha:PE X o ta) (hv:PE X value tv) (hs:swapsWith value (some (.Attribute o f pos')) pos.line X.env=pure false):PS X (.Assign [.Attribute o f pos'] value pos) (r_l X.K ta tv f):=by
 intro pins s σ H D I h;refine plainObj_wpAny_Assign_Attribute (thn (hv pins s σ H _ I h) λu s1 ⟨y,H1,I1,ry,q⟩=>thn (ha pins s1 σ H1 _ I1 q) λov s2 ⟨x,H2,I2,rx,a,C,dx,fs,ex,ea,c,n,l,q2⟩=> ?_) hs;subst ex;obtain rfl:ov=Value.ref a:=rx;exact i_C I2 ea c n l ry λs3 I3=>⟨σ,_,I3,q2⟩
theorem o_r {pl:Sem Bool} {m:Str} {apos:Pos} {args:List Expr} {pins:List (Addr×Obj)} {s:Shared} {σ:St} {H:Hp} {Q:Value->Shared->Prop} {te:TE} (he:PE X e te) (I:Inv X pins σ H s)
 (h:te σ H fun x H1=>∃a C dx fs g,x= .ref a∧H1 a=some (.ins C dx fs)∧Cls X.K C∧o_R X.K C m g∧fs.lookup m=none∧
   ∀s1,Inv X pins σ H1 s1->wpAny (model X.prog X.w) X.A (callWith pos (.ref g) [.ref a] (backTo pos (starEach args X.env)) (backToKw pos (keywordEach [] X.env))) Q X.xe s1)
 (ht:eval (.Call (.Attribute e m apos) args [] pos) X.env=(do
   let ov<-eval e X.env
   standAt apos.atName
   let (f,first)<-holding [ov] (getMethod ov m pl)
   callWith pos f first (backTo pos (starEach args X.env)) (backToKw pos (keywordEach [] X.env)))):
 wpAny (model X.prog X.w) X.A (eval (.Call (.Attribute e m apos) args [] pos) X.env) Q X.xe s:=by
 refine PySem.W.methodCall_KW (pl:=pl) (thn (he pins s σ H _ I h) λu s1 ⟨x,H1,I1,rx,a,C,dx,fs,g,ex,ea,c,k,l,q⟩=> ?_) ht;subst ex;obtain rfl:u=Value.ref a:=rx;exact d_G I1 ea c k l (q s1 I1)
end
section
variable {X:Cx} {pins:List (Addr×Obj)} {σ:St} {H:Hp} {s:Shared} {A:Around} {E:Value->Shared->Prop} {Q:Value->Shared->Prop} {c:Value} {b:Bool}
inductive h_H (K:PySem.W.Frag) (H:Hp):V->Value->Prop where
 | non:h_H K H .non (.type "NoneType")
 | bl (x:Bool):h_H K H (.bl x) (.type "bool")
 | int (i:Int):h_H K H (.int i) (.type "int")
 | str (x:Str):h_H K H (.str x) (.type "str")
 | flt (x:UInt64):h_H K H (.flt x) (.type "float")
 | lst {a:Addr} {xs:List V} (e:H a=some (.lst xs)):h_H K H (.ref a) (.type "list")
 | frz {a:Addr} {o:Obj} {xs:List V} (e:H a=some (.frz o (.lst xs))):h_H K H (.ref a) (.type "list")
 | tup {a:Addr} {xs:List V} (e:H a=some (.tup xs)):h_H K H (.ref a) (.type "tuple")
 | dK {a:Addr} {kvs:List (Key×V)} (e:H a=some (.dK kvs)):h_H K H (.ref a) (.type "dict")
 | dT {a:Addr} {kvs:List (List Key×V)} (e:H a=some (.dT kvs)):h_H K H (.ref a) (.type "dict")
 | ins {a C dx:Addr} {fs:List (Str×V)} (e:H a=some (.ins C dx fs)) (cl:Cls K C) (ha:PySem.W.findIn K (.ref C) "__class__"=some (some (.builtin "object.__class__")))
    (hn:PySem.W.specialIn K (.builtin "object.__class__") "__get__"=some (some (.builtin "getset_descriptor.__get__"))) (htk:PySem.W.takesIn K (.builtin "object.__class__")=some true)
    (hm:PySem.W.mroIn K C (.type "object")=some true):h_H K H (.ref a) (.ref C)
theorem j_6 {x:V} {u t:Value} (I:Inv X pins σ H s) (rx:RelV x u) (ty:h_H X.K H x t) (e:PySem.W.kitOne X.K t c=some b) (h:∀tk,Q (.bool b) { s with toks:=tk }):
 wpAny (model X.prog X.w) A (call (.builtin "isinstance") [u,c]) Q E s:=by
 cases ty with
 | non=>cases (show u=Value.none from rx);exact PySem.W.kia_one PySem.W.kitx_none I.kIn True.intro e (λz=>nomatch z) h
 | bl y=>cases (show u=Value.bool y from rx);exact PySem.W.kia_one PySem.W.kitx_bool I.kIn True.intro e (λz=>nomatch z) h
 | int i=>obtain⟨t,q⟩:=(show ∃t,u=Value.int i t from rx);cases q;exact PySem.W.kia_one PySem.W.kitx_int I.kIn True.intro e (λz=>nomatch z) h
 | str y=>obtain⟨t,q⟩:=(show ∃t,u=Value.str y t from rx);cases q;exact PySem.W.kia_one PySem.W.kitx_str I.kIn True.intro e (λz=>nomatch z) h
 | flt y=>obtain⟨t,q⟩:=(show ∃t,u=Value.float y t from rx);cases q;exact PySem.W.kia_one PySem.W.kitx_float I.kIn True.intro e (λz=>nomatch z) h
 | @lst a xs ea=>
   cases (show u=Value.ref a from rx);obtain⟨_,_,n,_,h1⟩:=(show ObjOk X.prog X.w H s.heap a (.lst xs) from I.hok a _ ea);exact PySem.W.kia_one PySem.W.kitx_list I.kIn ⟨_,h1,rfl⟩ e (λz=>nomatch z) h
 | @frz a ob xs ea=>
   cases (show u=Value.ref a from rx);obtain⟨_,_,_,n,_,h1⟩:=(show ObjOk X.prog X.w H s.heap a (.frz ob (.lst xs)) from I.hok a _ ea);exact PySem.W.kia_one PySem.W.kitx_list I.kIn ⟨_,h1,rfl⟩ e (λz=>nomatch z) h
 | @tup a xs ea=>
   cases (show u=Value.ref a from rx);obtain⟨_,_,_,p⟩:=(show ObjOk X.prog X.w H s.heap a (.tup xs) from I.hok a _ ea);obtain⟨o,h1,h2,_⟩:=p;exact PySem.W.kia_one PySem.W.kitx_tuple I.kIn ⟨o,h1,h2⟩ e (λz=>nomatch z) h
 | @dK a kvs ea=>
   cases (show u=Value.ref a from rx);obtain⟨_,_,vs,_,p⟩:=(show ObjOk X.prog X.w H s.heap a (.dK kvs) from I.hok a _ ea);obtain⟨o,es,ep,h1,h2,_⟩:=p;exact PySem.W.kia_one PySem.W.kitx_dict I.kIn ⟨o,h1,h2.1⟩ e (λz=>nomatch z) h
 | @dT a kvs ea=>
   cases (show u=Value.ref a from rx);obtain⟨_,_,xs,_,o,es,ep,h1,h2,_⟩:=(show ObjOk X.prog X.w H s.heap a (.dT kvs) from I.hok a _ ea);exact PySem.W.kia_one PySem.W.kitx_dict I.kIn ⟨o,h1,h2.1⟩ e (λz=>nomatch z) h
 | @ins a C dx fs ea cl ha hn htk hm=>
   cases (show u=Value.ref a from rx);obtain⟨mA,O,_⟩:=f_Y I.hok ea;obtain⟨od,J,_⟩:=O.look;exact PySem.W.kia_one (PySem.W.kitx_own (cl.get _) cl.hd ha hn htk hm) I.kIn J e (λz=>nomatch z) h
end
structure Room (k:Nat) (A:Around):Prop where
 hd:A.handled=none
 dp:A.depth+3 * k+5 < recursionLimit
 un:A.units+16 * k+200 < cLine
theorem Room.mono {j k:Nat} {A:Around} (r:Room k A) (h:j<=k):Room j A:=⟨r.hd,by have:=r.dp;omega,by have:=r.un;omega⟩
theorem Room.deeper {k:Nat} {A:Around} (r:Room (k+1) A) (env:Env):Room k (A.deeper env):=
 ⟨r.hd,by have:=r.dp;show A.depth+1+3 * k+5 < _;omega,by have:=r.un;show A.units+3+16 * k+200 < _;omega⟩
theorem i_u {A:Around} {C:Addr} {us:List Value} {kw:List (Str×Value)}:(A.under (.builtin "type.__call__" ⟨.ref C::us,kw⟩)).depth=A.depth+1:=by
 first | rfl | simp[Around.under,Code.weight,Code.isCreation,Code.isGuard,Code.isCaller,Code.frames,Code.isFrame,guardIds]
theorem i_O {A:Around} {C:Addr} {us:List Value} {kw:List (Str×Value)}:(A.under (.builtin "type.__call__" ⟨.ref C::us,kw⟩)).units=A.units+1:=by
 first | rfl | simp[Around.under,Code.cUnits,Code.frames,Code.isFrame]
theorem Room.make {k:Nat} {A:Around} (r:Room (k+1) A) (C:Addr) (us:List Value) (kw:List (Str×Value)):Room k (A.under (.builtin "type.__call__" ⟨.ref C::us,kw⟩)):=
 ⟨r.hd,by have:=r.dp;rw[i_u];omega,by have:=r.un;rw[i_O];omega⟩
theorem Room.depth {k:Nat} {A:Around} (r:Room k A):A.depth < recursionLimit:=by have:=r.dp;omega
theorem Room.units {k:Nat} {A:Around} (r:Room k A):A.units+64 < cLine:=by have:=r.un;omega
theorem Room.units0 {k:Nat} {A:Around} (r:Room k A):A.units < cLine:=by have:=r.un;omega
def p_W:TA:=λ_ H Q=>Q [] H
def q_X (ta:TE) (tr:TA):TA:=λσ H Q=>ta σ H λx H1=>tr σ H1 λxs H2=>Q (x::xs) H2
section
variable {X:Cx} {e:Expr} {es:List Expr} {te:TE} {t:TA} {pos:Pos}
theorem a_d:PA X [] p_W:=λ_ _ _ _ H Q I h=>Calls.spliced_nil ⟨[],H,I,.nil,h⟩
theorem a_a (ha:PE X e te) (hr:PA X es t) (hs:starEach (e::es) X.env=(false,eval e X.env)::starEach es X.env:=by rfl):PA X (e::es) (q_X te t):=by
 intro pos pins s σ H Q I h;rw[hs];show wpAny _ _ (spliced ((false,eval e X.env)::backTo pos (starEach es X.env))) _ _ s;refine Calls.spliced_cons (thn (ha pins s σ H _ I h) λu s1 ⟨x,H1,I1,r1,q1⟩=> ?_);exact thn (hr pos pins s1 σ H1 _ I1 q1) λus s2 ⟨xs,H2,I2,r2,q2⟩=>⟨x::xs,H2,I2,.cons r1 r2,q2⟩
def r_P (t:TA):TE:=λσ H Q=>t σ H λxs H1=>xs.length<=sizeLine/\∀p,H1 p=none->Q (.ref p) (upd H1 p (.tup xs))
def r_w (t:TA):TE:=λσ H Q=>t σ H λxs H1=>xs.length<=sizeLine/\∀p,H1 p=none->Q (.ref p) (upd H1 p (.lst xs))
theorem a_G {x1} (h:PA X es t):PE X (.Tuple es x1 pos) (r_P t):=by
 intro pins s σ H Q I hq;refine wpAny_Tuple_spliced (thn (h pos pins s σ H _ I hq) λus s1 ⟨xs,H1,I1,r,z,q⟩=>⟨by rw[<-r.length];exact z,?_⟩);have hf:H1 s1.heap.objs.size=none:=I1.hok.fresh (r_5 _);refine⟨.ref s1.heap.objs.size,upd H1 s1.heap.objs.size (.tup xs),I1.laid (t':=s1.toks) (λb u e=>Heap.get?_push_of_some _ e) (r_5 _) ?_, rfl,q _ hf⟩;exact⟨z,us,r,⟨_,Heap.get?_push_size _ rfl,rfl,_,rfl⟩⟩
theorem a_O (h:PA X es t):PE X (.List es pos) (r_w t):=by
 intro pins s σ H Q I hq;refine wpAny_List_spliced (thn (h pos pins s σ H _ I hq) λus s1 ⟨xs,H1,I1,r,z,q⟩=>⟨by rw[<-r.length];exact z,?_⟩);have hf:H1 s1.heap.objs.size=none:=I1.hok.fresh (r_5 _);refine⟨.ref s1.heap.objs.size,upd H1 s1.heap.objs.size (.lst xs),I1.laid (t':=s1.toks) (λb u e=>Heap.get?_push_of_some _ e) (r_5 _) ?_, rfl,q _ hf⟩;exact⟨z,us,0,r,Heap.get?_push_size _ rfl⟩
end
abbrev Sp:=List V->Hp->VK->XK->Prop
abbrev CXT:=List Env->Hp->Shared->XK->Value->Shared->Prop
structure Env0 (P:Program) (w:World) (K:PySem.W.Frag) (mg:Str->Option Value) (base:Heap) (A:Around) (outer:List Env) (s:Shared) (H:Hp):Prop where
 frames:A.frames=some outer
 mod:Mod K mg base
 bs:∀b o,base.get? b=some o->s.heap.get? b=some o/\H b=none
 bsz:base.objs.size<=s.heap.objs.size
 funs:s.heap.FunFrames base outer
 frf:∀b∈frs outer,H b=none
 hok:HOk P w H s.heap
 bare:AllBare s.gens
def CE (outer:List Env) (P:Program) (w:World) (H:Hp) (s:Shared) (Q:VK) (u:Value) (s':Shared):Prop:=
 ∃v H',s'.os=s.os/\AllBare s'.gens/\Un (frs outer) [] H H' s.heap s'.heap/\HOk P w H' s'.heap/\RelV v u/\Q v H'
def CR (CX:CXT) (outer:List Env) (P:Program) (w:World) (H:Hp) (s:Shared) (Q:VK) (E:XK) (r:Result) (s':Shared):Prop:=
 match r with
 | .ok (.ret u)=>CE outer P w H s Q u s'
 | .ok _=>False
 | .error e=>CX outer H s E e s'
structure FnOk (P:Program) (w:World) (K:PySem.W.Frag) (mg:Str->Option Value) (base:Heap) (CX:CXT) (k:Nat) (f:Addr) (fd:FuncData) (ps:List Str) (sp:Sp):Prop where
 len:∀vs H Q E,sp vs H Q E->vs.length=ps.length
 run:∀(A:Around) (outer:List Env) (s:Shared) (H:Hp) (args:Args) (us:List Value) (vs:List V) (Q:VK) (E:XK),Room k A->Env0 P w K mg base A outer s H->BindsTo s fd args (ps.zip us)->Vals vs us->sp vs H Q E->
  codeAny (model P w) A (.call (.ref f) args) (CR CX outer P w H s Q E) s
theorem FnOk.imp {P:Program} {w:World} {K:PySem.W.Frag} {mg:Str->Option Value} {base:Heap} {CX:CXT} {k:Nat} {f:Addr} {fd:FuncData} {ps:List Str} {sp sp':Sp} (F:FnOk P w K mg base CX k f fd ps sp)
 (h:∀vs H Q E,sp' vs H Q E->sp vs H Q E):FnOk P w K mg base CX k f fd ps sp':=
 ⟨λvs H Q E q=>F.len vs H Q E (h _ _ _ _ q),λA outer s H args us vs Q E hr he hb hv hs=>F.run A outer s H args us vs Q E hr he hb hv (h _ _ _ _ hs)⟩
theorem Env0.make {P:Program} {w:World} {K:PySem.W.Frag} {mg:Str->Option Value} {base:Heap} {A:Around} {outer:List Env} {s:Shared} {H:Hp} (e:Env0 P w K mg base A outer s H) (C:Addr) (us:List Value) (kw:List (Str×Value)):
 Env0 P w K mg base (A.under (.builtin "type.__call__" ⟨.ref C::us,kw⟩)) outer s H:=⟨by first | exact e.frames | (simpa[Around.under,Code.envs,Code.isFrame,pushEnvs] using e.frames),e.mod,e.bs,e.bsz,e.funs,e.frf,e.hok,e.bare⟩
section
variable {X:Cx} {pins:List (Addr×Obj)} {σ:St} {H:Hp} {s s':Shared}
theorem Inv.env0 (I:Inv X pins σ H s):Env0 X.prog X.w X.K X.mg X.base X.A X.stack s H:=
 ⟨I.ok.frames,I.ok.mod,I.bs,s_h I.ok.bsz I.sz,I.stack,I.stkFree,I.hok,I.bare⟩
theorem Inv.after {Q:VK} {u:Value} (I:Inv X pins σ H s) (h:CE X.stack X.prog X.w H s Q u s'):EP X pins σ Q u s':=by
 obtain⟨v,H',os,bare,un,hok,r,q⟩:=h;obtain⟨hh,g,d,t,os'⟩:=s';obtain rfl:os'=s.os:=os;exact⟨v,H',I.call (h':=hh) (g':=g) (d':=d) (t':=t) (ch:= []) un hok bare (λb z=>absurd z (by simp)),r,q⟩
end
def p_L (sp:Sp) (dvs:List V) (E:XK) (t:TA):TE:=λσ H Q=>t σ H λvs H1=>sp (vs++dvs) H1 Q E
def p_B (C:Addr) (m:Str) (sp:Sp) (dvs:List V) (E:XK) (ta:TE) (t:TA):TE:=λσ H Q=>ta σ H λx H1=>∃a dx fs,x= .ref a/\H1 a=some (.ins C dx fs)/\fs.lookup m=none/\
 t σ H1 λvs H2=>sp (x::(vs++dvs)) H2 Q E
def q_K (C:Addr) (sp:Sp) (dvs:List V) (E:XK) (t:TA):TE:=λσ H Q=>t σ H λvs H1=>∀x dx,H1 x=none->H1 dx=none->dx≠x->
 sp (.ref x::(vs++dvs)) (upd (upd H1 dx (.own x)) x (.ins C dx [])) (λv H2=>v= .non/\Q (.ref x) H2) E
def Binds (K:PySem.W.Frag) (fd:FuncData) (ps:List Str) (ds:List Value):Prop:=
 ∀(s:Shared) (us:List Value),K.In s.heap->(us++ds).length=ps.length->BindsTo s fd ⟨us, []⟩ (ps.zip (us++ds))
theorem Binds.all {K:PySem.W.Frag} {fd:FuncData} {ps:List Str} (h:∀us:List Value,us.length=ps.length->bindArgs fd ⟨us, []⟩=pure (ps.zip us)):Binds K fd ps []:=λs us _ hl=>by
 rw[s_t] at hl ⊢;exact .of_eq (h us hl)
def c_E (CX:CXT) (X:Cx) (E:XK):Prop:=∀(pins:List (Addr×Obj)) (σ:St) (H:Hp) (s:Shared) (e:Value) (s':Shared),Inv X pins σ H s->CX X.stack H s E e s'->X.xe e s'
section
variable {X:Cx} {CX:CXT} {k:Nat} {f C:Addr} {fd:FuncData} {ps:List Str} {sp:Sp} {dvs:List V} {ds:List Value} {E:XK} {x m:Str} {p pos apos:Pos} {e o:Expr} {es:List Expr} {ta:TE} {t:TA}
theorem g_G {pins:List (Addr×Obj)} {σ:St} {H:Hp} {s:Shared} {Q:VK} {us:List Value} {vs:List V} (F:FnOk X.prog X.w X.K X.mg X.base CX k f fd ps sp) (hr:Room k X.A) (hb:Binds X.K fd ps ds) (hd:Vals dvs ds) (hx:c_E CX X E)
 (I:Inv X pins σ H s) (r:Vals vs us) (h:sp (vs++dvs) H Q E):wpAny (model X.prog X.w) X.A (call (.ref f) us) (EP X pins σ Q) X.xe s:=by
 have r2:Vals (vs++dvs) (us++ds):=r.append hd;have hl:(us++ds).length=ps.length:=by rw[<-r2.length];exact F.len _ _ _ _ h
 refine wpAny_call (codeAny_mono (F.run X.A X.stack s H ⟨us, []⟩ (us++ds) (vs++dvs) Q E hr I.env0 (hb s us I.kIn hl) r2 h) λr s' hq=> ?_);cases r with
 | error e=>exact hx pins σ H s e s' I hq
 | ok fl=>
   cases fl with
   | ret u=>exact I.after hq
   | next=>exact False.elim hq
   | brk=>exact False.elim hq
   | cont=>exact False.elim hq
theorem a_j (F:FnOk X.prog X.w X.K X.mg X.base CX k f fd ps sp) (hr:Room k X.A) (hg:Gl X x) (hm:X.mg x=some (.ref f)) (hk:PySem.W.keepIn X.K (.ref f)=true) (hb:Binds X.K fd ps ds) (hd:Vals dvs ds) (hx:c_E CX X E)
 (ha:PA X (e::es) t) (hdb:(x == ("__debug__":Str))=false:=by decide) (he:starEach (e::es) X.env=(false,eval e X.env)::starEach es X.env:=by rfl) (hpl:(backTo pos (starEach es X.env)).any (·.1)=false:=by rfl):
 PE X (.Call (.Name x p) (e::es) [] pos) (p_L sp dvs E t):=by
 intro pins s σ H Q I h;refine wpAny_Call_Name_kw (c_2 I hg hm ?_ hdb);refine PySem.W.callWith_K (h₀:=X.base) I.ok.mod.kin hk (thn (ha pos pins s σ H _ I h) λus s1 ⟨vs,H1,I1,r,q⟩=>⟨I1.kIn,?_⟩) he hpl;exact g_G F hr hb hd hx I1 r q
theorem d_o (F:FnOk X.prog X.w X.K X.mg X.base CX k f fd ps sp) (hr:Room k X.A) (hg:Gl X x) (hm:X.mg x=some (.ref f)) (hk:PySem.W.keepIn X.K (.ref f)=true) (hb:Binds X.K fd ps ds) (hd:Vals dvs ds) (hx:c_E CX X E)
 (hdb:(x == ("__debug__":Str))=false:=by decide):PE X (.Call (.Name x p) [] [] pos) (p_L sp dvs E p_W):=by
 intro pins s σ H Q I h;refine wpAny_Call_Name_kw (c_2 I hg hm ?_ hdb);exact PySem.W.callWith_K0 I.kIn hk (g_G (us:= []) F hr hb hd hx I .nil h)
theorem a_Q {pl:Sem Bool} (he:PE X o ta) (c:Cls X.K C) (hm:o_R X.K C m f) (F:FnOk X.prog X.w X.K X.mg X.base CX k f fd ps sp) (hr:Room k X.A) (hb:Binds X.K fd ps ds) (hd:Vals dvs ds) (hx:c_E CX X E) (ha:PA X (e::es) t)
 (hst:starEach (e::es) X.env=(false,eval e X.env)::starEach es X.env:=by rfl) (hpl:(backTo pos (starEach es X.env)).any (·.1)=false:=by rfl)
 (ht:eval (.Call (.Attribute o m apos) (e::es) [] pos) X.env=(do
   let ov<-eval o X.env
   standAt apos.atName
   let (f,first)<-holding [ov] (getMethod ov m pl)
   callWith pos f first (backTo pos (starEach (e::es) X.env)) (backToKw pos (keywordEach [] X.env))):=by rfl):
 PE X (.Call (.Attribute o m apos) (e::es) [] pos) (p_B C m sp dvs E ta t):=by
 intro pins s σ H Q I h;refine PySem.W.methodCall_KW (pl:=pl) (thn (he pins s σ H _ I h) λu s1 ⟨x,H1,I1,rx,a,dx,fs,ex,ea,l,q⟩=> ?_) ht;subst ex;obtain rfl:u=Value.ref a:=rx;refine d_G I1 ea c hm l ?_;refine PySem.W.callWith_K (first:= [.ref a]) (h₀:=X.base) I.ok.mod.kin hm.kp (thn (ha pos pins s1 σ H1 _ I1 q) λus s2 ⟨vs,H2,I2,r,q2⟩=>⟨I2.kIn,?_⟩) hst hpl;exact g_G (us:= .ref a::us) (vs:= .ref a::vs) F hr hb hd hx I2 (.cons rfl r) q2
theorem b_A {pl:Sem Bool} (he:PE X o ta) (c:Cls X.K C) (hm:o_R X.K C m f) (F:FnOk X.prog X.w X.K X.mg X.base CX k f fd ps sp) (hr:Room k X.A) (hb:Binds X.K fd ps ds) (hd:Vals dvs ds) (hx:c_E CX X E)
 (ht:eval (.Call (.Attribute o m apos) [] [] pos) X.env=(do
   let ov<-eval o X.env
   standAt apos.atName
   let (f,first)<-holding [ov] (getMethod ov m pl)
   callWith pos f first (backTo pos (starEach [] X.env)) (backToKw pos (keywordEach [] X.env))):=by rfl):
 PE X (.Call (.Attribute o m apos) [] [] pos) (p_B C m sp dvs E ta p_W):=by
 intro pins s σ H Q I h;refine PySem.W.methodCall_KW (pl:=pl) (thn (he pins s σ H _ I h) λu s1 ⟨x,H1,I1,rx,a,dx,fs,ex,ea,l,q⟩=> ?_) ht;subst ex;obtain rfl:u=Value.ref a:=rx;refine d_G I1 ea c hm l ?_;exact PySem.W.callWith_K0 (first:= [.ref a]) I1.kIn hm.kp (g_G (us:= [.ref a]) (vs:= [.ref a]) F hr hb hd hx I1 (.cons rfl .nil) q)
structure Mk (K:PySem.W.Frag) (C f:Addr):Prop where
 makes:PySem.W.makesIn K C=true
 init:PySem.W.findIn K (.ref C) "__init__"=some (some (.ref f))
 fn:PySem.W.isFn K (.ref f)=true
 kp:PySem.W.keepIn K (.ref C)=true
theorem l_4 {pins:List (Addr×Obj)} {σ:St} {H:Hp} {s:Shared} {Q:VK} {us:List Value} {vs:List V} (M:Mk X.K C f) (F:FnOk X.prog X.w X.K X.mg X.base CX k f fd ps sp) (hr:Room (k+1) X.A) (hb:Binds X.K fd ps ds) (hd:Vals dvs ds)
 (hx:c_E CX X E) (I:Inv X pins σ H s) (r:Vals vs us)
 (h:∀x dx,H x=none->H dx=none->dx≠x->sp (.ref x::(vs++dvs)) (upd (upd H dx (.own x)) x (.ins C dx [])) (λv H2=>v= .non/\Q (.ref x) H2) E):
 wpAny (model X.prog X.w) X.A (call (.ref C) us) (EP X pins σ Q) X.xe s:=by
 have hq:=h (s.heap.objs.size+1) s.heap.objs.size (I.hok.fresh (Nat.le_succ _)) (I.hok.fresh (r_5 _)) (s_k (Nat.lt_succ_self _));have I2:=Inv.made (C:=C) I;have r2:Vals (V.ref (s.heap.objs.size+1)::(vs++dvs)) (Value.ref (s.heap.objs.size+1)::(us++ds)):= .cons rfl (r.append hd)
 have hl:(Value.ref (s.heap.objs.size+1)::us++ds).length=ps.length:=by
  have e:=r2.length;rw[F.len _ _ _ _ hq] at e;exact e.symm
 refine wpAny_call (l_p (f:=f) I.kIn M.makes M.init (beq_iff_eq.mp M.fn) (codeAny_mono (F.run _ X.stack _ _ ⟨Value.ref (s.heap.objs.size+1)::us, []⟩ (Value.ref (s.heap.objs.size+1)::(us++ds)) _ _ E (hr.make C us [])
  (I2.env0.make C us []) (hb _ (Value.ref (s.heap.objs.size+1)::us) I2.kIn hl) r2 hq) λr s' a=> ?_))
 cases r with
 | error e=>exact hx pins σ _ _ e s' I2 a
 | ok fl=>
   cases fl with
   | ret u=>
     obtain⟨v,H',I3,rv,ev,q3⟩:=I2.after a;subst ev;exact⟨rv,⟨V.ref (s.heap.objs.size+1),H',I3,rfl,q3⟩⟩
   | next=>exact False.elim a
   | brk=>exact False.elim a
   | cont=>exact False.elim a
theorem f_F (M:Mk X.K C f) (F:FnOk X.prog X.w X.K X.mg X.base CX k f fd ps sp) (hr:Room (k+1) X.A) (hg:Gl X x) (hm:X.mg x=some (.ref C)) (hb:Binds X.K fd ps ds) (hd:Vals dvs ds) (hx:c_E CX X E)
 (ha:PA X (e::es) t) (hdb:(x == ("__debug__":Str))=false:=by decide) (he:starEach (e::es) X.env=(false,eval e X.env)::starEach es X.env:=by rfl) (hpl:(backTo pos (starEach es X.env)).any (·.1)=false:=by rfl):
 PE X (.Call (.Name x p) (e::es) [] pos) (q_K C sp dvs E t):=by
 intro pins s σ H Q I h;refine wpAny_Call_Name_kw (c_2 I hg hm ?_ hdb);refine PySem.W.callWith_K (h₀:=X.base) I.ok.mod.kin M.kp (thn (ha pos pins s σ H _ I h) λus s1 ⟨vs,H1,I1,r,q⟩=>⟨I1.kIn,?_⟩) he hpl;exact l_4 M F hr hb hd hx I1 r q
end
section
variable {X:Cx} {CX:CXT} {k:Nat} {f C:Addr} {fd:FuncData} {ps ks:List Str} {sp:Sp} {E:XK} {x m:Str} {p pos apos kpos:Pos} {e o:Expr} {es:List Expr} {kws:List Keyword} {te ta:TE} {t tk:TA} {nm:Option Str}
variable {g:List Value->List Value->List Value} {gV:List V->List V->List V}
end
structure a_s (N P:List Str) (sc:Scope):Prop where
 kind:sc.kind= .function
 co:sc.isCoroutine=false
 gen:sc.isGenerator=false
 nd:N.Nodup
 pre:N.take P.length=P
 par:∀x∈P,sc.names.lookup x=some .local\/sc.names.lookup x=some .cell
 nofree:∀y∈sc.names,y.2≠ .free
theorem f_3 {kindOf:Str->Option NameKind} {x:Str}:∀{binds:List (Str×Value)} {m:Str->Option Value},(∀v,(x,v)∉binds)->bindL kindOf binds m x=m x
 | [],_,_=>rfl
 | (n,v)::r,m,h=>by
   unfold bindL;rw[f_3 λw hw=>h w (r_Z _ hw)];split
   ·have:x≠n:=by rintro rfl;exact h v r_0
    simp[this]
   ·rfl
theorem g_H {kindOf:Str->Option NameKind} {x:Str}:∀{binds:List (Str×Value)} {m:Str->Option Value},(∀v,(x,v)∉binds)->bindC kindOf binds m x=m x
 | [],_,_=>rfl
 | (n,v)::r,m,h=>by
   unfold bindC;rw[g_H λw hw=>h w (r_Z _ hw)];split
   ·rfl
   ·have:x≠n:=by rintro rfl;exact h v r_0
    simp[this]
theorem g_R {kindOf:Str->Option NameKind} {x:Str} {v:Value}:∀{P:List Str} {vs:List Value} {i:Nat} {m:Str->Option Value},P.Nodup->P[i]? =some x->vs[i]? =some v->kindOf x=some .local->
 bindL kindOf (P.zip vs) m x=some v
 | [],_,_,_,_,h,_,_=>by simp at h
 | _::_, [],_,_,_,_,h,_=>by simp at h
 | p::P,w::vs,0,m,nd,h1,h2,hk=>by
   simp at h1 h2;subst h1;subst h2;show bindL kindOf ((p,w)::P.zip vs) m p=_;unfold bindL;rw[f_3 λv hv=>(s_q.mp nd).1 (List.of_mem_zip hv).1,if_pos hk];simp
 | p::P,w::vs,i+1,m,nd,h1,h2,hk=>by
   show bindL kindOf ((p,w)::P.zip vs) m x=_;unfold bindL;exact g_R (i:=i) (s_q.mp nd).2 (by simpa using h1) (by simpa using h2) hk
theorem f_4 {kindOf:Str->Option NameKind} {x:Str} {v:Value}:∀{P:List Str} {vs:List Value} {i:Nat} {m:Str->Option Value},P.Nodup->P[i]? =some x->vs[i]? =some v->kindOf x≠some .local->
 bindC kindOf (P.zip vs) m x=some v
 | [],_,_,_,_,h,_,_=>by simp at h
 | _::_, [],_,_,_,_,h,_=>by simp at h
 | p::P,w::vs,0,m,nd,h1,h2,hk=>by
   simp at h1 h2;subst h1;subst h2;show bindC kindOf ((p,w)::P.zip vs) m p=_;unfold bindC;rw[g_H λv hv=>(s_q.mp nd).1 (List.of_mem_zip hv).1,if_neg hk];simp
 | p::P,w::vs,i+1,m,nd,h1,h2,hk=>by
   show bindC kindOf ((p,w)::P.zip vs) m x=_;unfold bindC;exact f_4 (i:=i) (s_q.mp nd).2 (by simpa using h1) (by simpa using h2) hk
def start (N:List Str) (vs:List V):St:=vs.map some++List.replicate (N.length - vs.length) none
def i_p (CX:CXT) (P:Program) (w:World) (K:PySem.W.Frag) (mg:Str->Option Value) (base:Heap) (N:List Str) (qual:Str) (scope:Scope) (f:Addr) (cd:Value) (A:Around) (outer:List Env) (s:Shared) (H:Hp) (E:XK):Cx where
 prog:=P
 w:=w
 K:=K
 mg:=mg
 base:=base
 A:=A.deeper (envOfC qual scope s.heap.objs.size f cd)
 N:=N
 s₀:=s
 H₀:=H
 env:=envOfC qual scope s.heap.objs.size f cd
 outer:=outer
 stack:=envOfC qual scope s.heap.objs.size f cd::outer
 ex:= []
 calm:=true
 fn:=λ_=>true
 pn:= []
 xe:=λe s'=>wpAny (model P w) (A.deeper (envOfC qual scope s.heap.objs.size f cd)) (leaving (envOfC qual scope s.heap.objs.size f cd) e) (λ_ s''=>CX outer H s E e s'') (λe' s''=>CX outer H s E e' s'') s'
theorem h_3 {sc:Scope} {n:Nat} {x:Str} (h:sc.names.lookup x=some .cell):∃c,(cellsFrom n sc.names []).lookup x=some c:=by
 have q:=PySem.W.cellsFrom_some sc.names n [] (.inl h);exact Option.isSome_iff_exists.mp q
theorem k_U {CX:CXT} {P:Program} {w:World} {K:PySem.W.Frag} {mg:Str->Option Value} {base:Heap} {N ps:List Str} {qual:Str} {scope:Scope} {f:Addr} {cd:Value} {A:Around} {outer:List Env} {s s1:Shared} {H:Hp} {E:XK} {us:List Value} {vs:List V}
 (S:a_s N ps scope) (hd:A.handled=none) (e0:Env0 P w K mg base A outer s H) (hl:vs.length=ps.length) (r:Vals vs us)
 (x:InCallC s s.heap.objs.size (bindL (envOfC qual scope s.heap.objs.size f cd).kindOf (ps.zip us) λ_=>none) (cellsFrom (s.heap.objs.size+1) scope.names []) (bindC (envOfC qual scope s.heap.objs.size f cd).kindOf (ps.zip us) λ_=>none) s1):
 Inv (i_p CX P w K mg base N qual scope f cd A outer s H E) [] (start N vs) H s1:=by
 have d:ps.length<=N.length:=by have:=congrArg List.length S.pre;rw[s_i] at this;omega
 obtain⟨h1,tk,rfl,hk⟩:=x.done;have noA:∀b:Addr,b∉(i_p CX P w K mg base N qual scope f cd A outer s H E).ex:=λb z=>absurd (show b∈([]:List Addr) from z) (by simp)
 refine⟨⟨e0.mod,S.kind,rfl,rfl,r_5 _,λy z c h1 h2=> ?_, λy hy=> ?_, λy c _ h=> ?_, λ_=>hd,Around.frames_deeper e0.frames,.inr ⟨rfl,rfl⟩,λb z=>absurd z (noA b),e0.bs,e0.bsz,λb _ _=>noA b,λb z=>absurd z (noA b),e0.funs,e0.frf⟩,
  rfl,e0.bare,Un.kept hk,⟨_,x.toInCall.ns,λi y v h1 h2 h3=> ?_⟩,λy c h=>⟨_,x.cell y c h⟩,e0.hok.fresh (r_5 _),λy c h=> ?_, λp hp=>absurd (show p∈([]:List (Addr×Obj)) from hp) (by simp),e0.hok.kept hk,?_⟩
 ·exact name_of_addr x.apart (PySem.mem_of_lookup h1) (PySem.mem_of_lookup h2)
 ·have hy:scope.names.lookup y=some .cell\/scope.names.lookup y=some .free:=hy
  rcases hy with hy | hy
  ·exact h_3 hy
  ·exact absurd rfl (S.nofree _ (PySem.mem_of_lookup hy))
 ·exact Nat.le_of_lt (x.above y c (PySem.mem_of_lookup h))
 ·have hi:i < vs.length:=by
   unfold start at h2;by_cases hi:i < vs.length
   ·exact hi
   ·rw[List.getElem?_append_right (by simpa using hi)] at h2
    rw[List.getElem?_replicate] at h2
    split at h2 <;> cases h2
  have ha:vs[i]? =some v:=by
   unfold start at h2;rw[List.getElem?_append_left (by simpa using hi),r_8] at h2;cases e:vs[i]? with
   | none=>rw[e] at h2;cases h2
   | some a=>rw[e] at h2;cases h2;rfl
  obtain⟨u,hu,rv⟩:=r.get ha
  have hp:ps[i]? =some y:=by
   rw[<-S.pre,List.getElem?_take_of_lt (by omega)];exact h1
  have ndP:ps.Nodup:=by rw[<-S.pre];exact S.nd.sublist (List.take_sublist _ _)
  refine⟨u,rv,?_⟩;rcases S.par y (s_m hp) with k | k
  ·exact .inl ⟨k,g_R ndP hp hu k⟩
  ·obtain⟨c,e⟩:=h_3 (n:=s.heap.objs.size+1) k
   refine .inr ⟨.inl k,c,e,?_⟩;have q:=x.cell y c e;rw[f_4 ndP hp hu (by show scope.names.lookup y≠_;rw[k];decide)] at q;exact q
 ·exact e0.hok.fresh (Nat.le_of_lt (x.above y c (PySem.mem_of_lookup h)))
 ·unfold start
  show _=N.length;rw[r_Y,r_W,List.length_replicate];omega
theorem p_b {CX:CXT} {P:Program} {w:World} {K:PySem.W.Frag} {mg:Str->Option Value} {base:Heap} {k:Nat} {f:Addr} {name qual:Str} {params:Arguments} {body:List Stmt} {scope:Scope} {dV kV doc pm cdv ct oc:Value} {an od:Option Addr}
 {osl:Array (Option Value)} {N ps:List Str} {sp:Sp} (lk:K.lookup f=some ⟨oc,od,.func (PySem.W.fnOf name qual params body scope dV kV doc pm an cdv ct),osl⟩) (hcd:PySem.W.codeIn K cdv qual=true) (S:a_s N ps scope)
 (len:∀vs H Q E,sp vs H Q E->vs.length=ps.length)
 (hbody:∀(A:Around) (outer:List Env) (s:Shared) (H:Hp) (vs:List V) (Q:VK) (E:XK),Room k (A.deeper (envOfC qual scope s.heap.objs.size f cdv))→sp vs H Q E→
   ∃t,PSs (i_p CX P w K mg base N qual scope f cdv A outer s H E) body t/\t { nx:=λ_ H'=>Q .non H',rt:=Q } (start N vs) H):
 FnOk P w K mg base CX (k+1) f (PySem.W.fnOf name qual params body scope dV kV doc pm an cdv ct) ps sp:=by
 refine⟨len,λA outer s H args us vs Q E hr e0 hb r c=> ?_⟩;have hl:=len _ _ _ _ c;have KX:K.In s.heap:=e0.mod.kin.keeps λb o e=>(e0.bs b o e).1;have lim:s.heap.NoLimit:=e0.mod.nolimit.keeps λb o e=>(e0.bs b o e).1
 have a:∀y∈ps.zip us,scope.names.lookup y.1=some .local\/(scope.names.lookup y.1=some .cell/\((cellsFrom (s.heap.objs.size+1) scope.names []).lookup y.1).isSome=true):=λ⟨n,v⟩ hy=>by
  rcases S.par n (List.of_mem_zip hy).1 with q | q
  ·exact .inl q
  ·exact .inr ⟨q,PySem.W.cellsFrom_some _ _ _ (.inl q)⟩
 refine codeAny_call_function hr.depth (KX _ _ lk) rfl S.co S.gen rfl (PySem.W.codeRec_of KX hcd) (hb _ _ _ _ ?_);refine wpAny_newFunctionEnv_cells S.kind a λenv he s1 x=> ?_;subst he;refine⟨lim.keeps x.toInCall.keep,codeAny_func ?_⟩;obtain⟨t,ht,hq⟩:=hbody A outer s H vs Q E (hr.deeper _) c;have I:Inv (i_p CX P w K mg base N qual scope f cdv A outer s H E) [] (start N vs) H s1:=k_U S hr.hd e0 hl r x;refine wpAny_mono (ht [] s1 (start N vs) H _ I hq) (λfl s' hs=> ?_) λe s' hs=>hs
 have fin:∀{σ':St} {H':Hp} {v:V} {u:Value},Inv (i_p CX P w K mg base N qual scope f cdv A outer s H E) [] σ' H' s'->RelV v u->Q v H'->CE outer P w H s Q u s':=
  λ{σ' H' v u} J rv q=>⟨v,H',J.os,J.bare,J.base,J.hok,rv,q⟩
 cases fl with
 | ret u=>
   obtain⟨v,σ',H',J,rv,q⟩:=hs;exact fin J rv q
 | next=>
   obtain⟨σ',H',J,q⟩:=hs;exact fin (v:=V.non) (u:=Value.none) J rfl q
 | brk=>
   obtain⟨_,_,_,q⟩:=hs;exact False.elim q
 | cont=>
   obtain⟨_,_,_,q⟩:=hs;exact False.elim q
section
variable {X:Cx} {x:Str} {p pos:Pos} {e:Expr} {es:List Expr} {t:TA} {id T:String} {r:List V->Hp->VK->Prop}
def tCB (r:List V->Hp->VK->Prop) (t:TA):TE:=λσ H Q=>t σ H λvs H1=>r vs H1 Q
theorem a_t (hc:c_W X (.builtin id) r) (hg:Gl X x) (hm:X.mg x=none) (hv:bootBuiltins x=some (.builtin id)) (ha:PA X (e::es) t) (hn:x≠"__name__":=by decide) (hdb:(x == ("__debug__":Str))=false:=by decide)
 (he:starEach (e::es) X.env=(false,eval e X.env)::starEach es X.env:=by rfl) (hpl:(backTo pos (starEach es X.env)).any (·.1)=false:=by rfl):PE X (.Call (.Name x p) (e::es) [] pos) (tCB r t):=by
 intro pins s σ H Q I h;refine wpAny_Call_Name_kw (e_7 I hg hm hv ?_ hn hdb);exact PyProof.Rows.callWith_builtin1 (thn (ha pos pins s σ H _ I h) λus s1 ⟨vs,H1,I1,r1,q1⟩=>hc pins s1 σ H1 vs us Q I1 r1 q1) he hpl
theorem b_F (hc:c_W X (.type T) r) (hg:Gl X x) (hm:X.mg x=none) (hv:bootBuiltins x=some (.type T)) (ha:PA X (e::es) t) (hn:x≠"__name__":=by decide) (hdb:(x == ("__debug__":Str))=false:=by decide)
 (he:starEach (e::es) X.env=(false,eval e X.env)::starEach es X.env:=by rfl) (hpl:(backTo pos (starEach es X.env)).any (·.1)=false:=by rfl):PE X (.Call (.Name x p) (e::es) [] pos) (tCB r t):=by
 intro pins s σ H Q I h;refine wpAny_Call_Name_kw (e_7 I hg hm hv ?_ hn hdb);exact PyProof.Rows.callWith_type1 (thn (ha pos pins s σ H _ I h) λus s1 ⟨vs,H1,I1,r1,q1⟩=>hc pins s1 σ H1 vs us Q I1 r1 q1) he hpl
end
end L2
namespace HT
open PySem PyProof.Rows
section
open PySem.SeqAt
open PySem.AutoSeq1 (wpAny_loadPart')
open PySem.MeetsSeq PySem.MeetsSeq2 PySem.MeetsSeq3
end
section
variable {prog:Program} {w:World} {A:Around} {E:Value->Shared->Prop} {s:Shared}
def sIx (n d:Nat):Option Int->Nat
 | none=>d
 | some v=>if v < 0 then (v+(n:Int)).toNat else min v.toNat n
theorem sIx_none (n d:Nat):sIx n d none=d:=rfl
theorem sIx_nat (n d k:Nat):sIx n d (some (k:Int))=min k n:=by
 show (if (k:Int) < 0 then ((k:Int)+(n:Int)).toNat else min (k:Int).toNat n)=min k n;rw[if_neg (by omega),Int.toNat_natCast]
end
end HT
namespace L2
open PySem PySem.Spec PyProof.Rows
abbrev TO:=St->Hp->(Option Int->Hp->Prop)->Prop
def PO (X:Cx) (e:Option Expr) (t:TO):Prop:=
 ∀(pins:List (Addr×Obj)) (s:Shared) (σ:St) (H:Hp) (Q:Option Int->Hp->Prop),Inv X pins σ H s->t σ H Q->
  wpAny (model X.prog X.w) X.A (evalPart e X.env) (λu s'=>∃o H',Inv X pins σ H' s'/\IsPart u o/\Q o H') X.xe s
def n_e:TO:=λ_ H Q=>Q none H
def p_5 (t:TE):TO:=λσ H Q=>t σ H λx H1=>∃i,x= .int i/\Q (some i) H1
theorem i_F {ns:List Int}:∀{us:List Value},Vals (ns.map V.int) us->IntsAre us ns:=by
 induction ns with
 | nil=>intro us r;rw[List.map_nil] at r;cases r;exact .nil
 | cons n ns ih=>
   intro us r;rw[s_b] at r;cases r with
   | cons r1 r2=>
     obtain⟨t,e⟩:=r1;subst e;exact .cons n t (ih r2)
section
variable {X:Cx} {e:Expr} {te:TE} {lo hi:Option Expr} {tl th:TO} {pos p2:Pos}
theorem b_7:PO X none n_e:=by
 intro pins s σ H Q I h;rw[evalPart_none];exact wpAny_pure ⟨none,H,I,.none,h⟩
theorem b_G (h:PE X e te):PO X (some e) (p_5 te):=by
 intro pins s σ H Q I hw;rw[evalPart_some];refine thn (h pins s σ H _ I hw) λu s1 ⟨x,H1,I1,r1,q1⟩=> ?_;obtain⟨i,rfl,q⟩:=q1;obtain⟨t,rfl⟩:=r1;exact⟨some i,H1,I1,.int i t,q⟩
def SlR (X:Cx) (r:V->Option Int->Option Int->Hp->VK->Prop):Prop:=
 ∀(pins:List (Addr×Obj)) (s:Shared) (σ:St) (H:Hp) (x:V) (v vl vu:Value) (lo hi:Option Int) (sl:Addr) (Q:VK),Inv X pins σ H s->RelV x v->s.heap.IsSliceOf sl vl vu .none->IsPart vl lo->IsPart vu hi->r x lo hi H Q->
  ∃T id,typeLookup (.type T) "__getitem__"=pure (some (.builtin id))/\s.TypeIs v T/\wpAny (model X.prog X.w) X.A (getItem v (.ref sl)) (EP X pins σ Q) X.xe s
def tSl (r:V->Option Int->Option Int->Hp->VK->Prop) (te:TE) (tl th:TO):TE:=λσ H Q=>te σ H λx H1=>tl σ H1 λl H2=>th σ H2 λu H3=>r x l u H3 Q
theorem b_s {r:V->Option Int->Option Int->Hp->VK->Prop} (hr:SlR X r) (he:PE X e te) (hl:PO X lo tl) (hu:PO X hi th):PE X (.Subscript e (.Slice lo hi none p2) pos) (tSl r te tl th):=by
 intro pins s σ H Q I h;refine Subscript_ (thn (he pins s σ H _ I h) λv s1 ⟨x,H1,I1,r1,q1⟩=> ?_);refine wpAny_Slice (thn (hl pins s1 σ H1 _ I1 q1) λvl s2 ⟨l,H2,I2,pl,q2⟩=>thn (hu pins s2 σ H2 _ I2 q2) λvu s3 ⟨u,H3,I3,pu,q3⟩=> ?_);rw[evalPart_none];refine wpAny_pure ?_;have I4:Inv X pins σ H3 { s3 with heap:=s3.heap.push { cls:= .type "slice",data:= .fields #[vl,vu,.none] } }:=I3.kept (t':=s3.toks) λb ob q=>Heap.get?_push_of_some _ q;obtain⟨T,id,hT,ht,hg⟩:=hr pins { s3 with heap:=s3.heap.push { cls:= .type "slice",data:= .fields #[vl,vu,.none] } } σ H3 x v vl vu l u s3.heap.objs.size Q I4 r1 (Heap.IsSliceOf.new ..) pl pu q3;show wpAny (model X.prog X.w) X.A (subscriptTail e (.Slice lo hi none p2) v (.ref s3.heap.objs.size)) (EP X pins σ Q) X.xe { s3 with heap:=s3.heap.push { cls:= .type "slice",data:= .fields #[vl,vu,.none] } };exact tail_any (ops:= [.ref s3.heap.objs.size,v]) ht hT hg (by with_unfolding_all rfl)
def g_u (xs:List V) (lo hi:Option Int):List V:=(xs.drop (HT.sIx xs.length 0 lo)).take (HT.sIx xs.length xs.length hi - HT.sIx xs.length 0 lo)
theorem g_2 (xs:List V) (lo hi:Option Int):(g_u xs lo hi).length<=xs.length:=by
 unfold g_u;rw[s_i,List.length_drop];omega
end
def ixN (n:Nat) (i:Int):Option Nat:=if 0<=i then (if i < n then some i.toNat else none) else if -(n:Int)<=i then some (i+n).toNat else none
def atI {α:Type} (xs:List α) (i:Int):Option α:=(ixN xs.length i).bind λj=>xs[j]?
theorem k_D {n:Nat} {i:Int} {j:Nat} (h:ixN n i=some j):seqIndex? i n=some j/\j < n/\-(n:Int)<=i/\i < n:=by
 unfold ixN at h;by_cases h0:0<=i
 ·rw[if_pos h0] at h
  by_cases h1:i < n
  ·rw[if_pos h1] at h
   have e:i.toNat=j:=r_3 h;exact⟨by rw[seqIndex_of h0 h1,e],by omega,by omega,h1⟩
  ·rw[if_neg h1] at h;cases h
 ·rw[if_neg h0] at h
  by_cases h1: -(n:Int)<=i
  ·rw[if_pos h1] at h
   have e:(i+n).toNat=j:=r_3 h;exact⟨by rw[seqIndex_neg (by omega) h1,e],by omega,h1,by omega⟩
  ·rw[if_neg h1] at h;cases h
theorem h_v {α:Type} {xs:List α} {i:Int} {v:α} (h:atI xs i=some v):∃j,seqIndex? i xs.length=some j/\xs[j]? =some v/\j < xs.length/\-(xs.length:Int)<=i/\i < xs.length:=by
 unfold atI at h;cases e:ixN xs.length i with
 | none=>rw[e] at h;cases h
 | some j=>
   rw[e] at h;obtain⟨h1,h2,h3,h4⟩:=k_D e;exact⟨j,h1,h,h2,h3,h4⟩
theorem a_e {α:Type} {xs:List α} {j:Nat} {v:α} (h:xs[j]? =some v):atI xs (j:Int)=some v:=by
 have hj:j < xs.length:=(s_a.mp h).1
 have e:ixN xs.length (j:Int)=some j:=by
  unfold ixN;rw[if_pos (by omega),if_pos (by omega)];simp
 unfold atI;rw[e];exact h
theorem l_F {α:Type} (xs:List α) (v:α):atI (xs++ [v]) (-1)=some v:=by
 have hl:(xs++ [v]).length=xs.length+1:=by simp
 have e:ixN (xs++ [v]).length (-1)=some xs.length:=by
  unfold ixN;rw[hl,if_neg (by decide),if_pos (by omega)];congr 1;omega
 unfold atI;rw[e];show (xs++ [v])[xs.length]? =some v;simp
def h_m (b:Expr):Prop:=∀o i,subscripted b false o i=operate [o,i] (getItem o i)
def IxR (X:Cx) (r:R2):Prop:=
 ∀(value slice:Expr) (pins:List (Addr×Obj)) (s:Shared) (σ:St) (H:Hp) (x y:V) (v u:Value) (Q:VK),Inv X pins σ H s->RelV x v->RelV y u->r x y H Q->
  subscripted slice false v u=operate [v,u] (getItem v u)->wpAny (model X.prog X.w) X.A (subscriptTail value slice v u) (EP X pins σ Q) X.xe s
def MtR (X:Cx) (id:String) (r:V->List V->Hp->VK->Prop):Prop:=
 ∀(pins:List (Addr×Obj)) (s:Shared) (σ:St) (H:Hp) (x:V) (xs:List V) (v:Value) (us:List Value) (Q:VK),Inv X pins σ H s->RelV x v->Vals xs us->r x xs H Q->
  wpAny (model X.prog X.w) X.A (call (.builtin id) (v::us)) (EP X pins σ Q) X.xe s
section
variable {X:Cx} {a b:Expr} {ta tb:TE} {pos:Pos}
theorem MtR.or {id:String} {r r':V->List V->Hp->VK->Prop} (h:MtR X id r) (h':MtR X id r'):MtR X id (λx xs H Q=>r x xs H Q\/r' x xs H Q):=by
 intro pins s σ H x xs v us Q I rx rs q;rcases q with q | q
 ·exact h pins s σ H x xs v us Q I rx rs q
 ·exact h' pins s σ H x xs v us Q I rx rs q
theorem a_r {r:R2} (hr:IxR X r) (ha:PE X a ta) (hb:PE X b tb) (hs:h_m b):PE X (.Subscript a b pos) (tOp r ta tb):=by
 intro pins s σ H Q I h;exact Subscript_ (q_y ha hb I h λv u s2 x y H2 I2 rx ry q=>hr a b pins s2 σ H2 x y v u Q I2 rx ry q (hs _ _))
def q_8 (K:PySem.W.Frag):R2:=λx y H Q=>∃p xs i v,x= .ref p/\y= .int i/\SqL K H p xs/\atI xs i=some v/\Q v H
def q_6 (K:PySem.W.Frag):R2:=λx y H Q=>∃p xs i v,x= .ref p/\y= .int i/\SqT K H p xs/\atI xs i=some v/\Q v H
def r_D:R2:=λx y H Q=>∃z i c,x= .str z/\y= .int i/\z.length<=sizeLine/\atI z.cps.toList i=some c/\Q (.str ⟨#[c]⟩) H
theorem a_P:IxR X (q_8 X.K):=by
 intro value slice pins s σ H x y v u Q I rx ry h hs;obtain⟨p,xs,i,z,rfl,rfl,hq,he,q⟩:=h;cases rx;obtain⟨t,rfl⟩:=ry;obtain⟨its,r,pl,hz⟩:=I.list hq;obtain⟨j,h1,h2,h3,h4,h5⟩:=h_v he;obtain⟨w,ew,rw'⟩:=r.get h2;have hl:=r.length;have hn:=e_P;have fin:EP X pins σ Q w s:=⟨z,H,I,rw',q⟩;by_cases h0:0<=i
 ·have hj:i.toNat=j:=by
   rw[seqIndex_of h0 h5] at h1;exact r_3 h1
  exact item_listR pl.isList h0 (by omega) (by rw[hj];simpa using ew) fin hs
 ·have hj:(i+(its.toArray.size:Int)).toNat=j:=by
   rw[seqIndex_neg (by omega) h4] at h1;rw[r_6,<-hl];exact r_3 h1
  exact subscriptTail_builtinR (x:=w) pl.isList.typeIs slot_list_getitem.lookup
   (wpAny_getItem_list_neg (Q:=λr s'=>r=w/\EP X pins σ Q r s') pl.isList (by omega) (by rw[r_6] <;> omega) (by omega) (by rw[hj];simpa using ew) ⟨rfl,fin⟩) hs
theorem a_o:IxR X (q_6 X.K):=by
 intro value slice pins s σ H x y v u Q I rx ry h hs;obtain⟨p,xs,i,z,rfl,rfl,hq,he,q⟩:=h;cases rx;obtain⟨t,rfl⟩:=ry;obtain⟨its,r,pl,hz⟩:=I.tuple hq;obtain⟨j,h1,h2,h3,h4,h5⟩:=h_v he;obtain⟨w,ew,rw'⟩:=r.get h2;have hl:=r.length;have hn:=e_P;have fin:EP X pins σ Q w s:=⟨z,H,I,rw',q⟩
 exact subscriptTail_builtinR (x:=w) pl.typeIs slot_tuple_getitem.lookup
  (getItem_tuple (j:=j) (Q:=λr s'=>r=w/\EP X pins σ Q r s') pl (by omega) (by omega) (by rw[r_6,<-hl];exact h1) (by simpa using ew) ⟨rfl,fin⟩) hs
theorem i_J (its:List Value) (n j:Nat) (u:Value):Obj.mapSeq (·.setIfInBounds j u) { cls:= .type "list",data:= .seq its.toArray n }={ cls:= .type "list",data:= .seq (its.set j u).toArray n }:=by
 simp[Obj.mapSeq]
theorem Inv.lst {pins:List (Addr×Obj)} {σ:St} {H:Hp} {s:Shared} {p:Addr} {xs:List V} (I:Inv X pins σ H s) (h:H p=some (.lst xs)):
 ∃(its:List Value) (n:Nat),Vals xs its/\s.heap.get? p=some { cls:= .type "list",data:= .seq its.toArray n }/\xs.length<=sizeLine:=by
 obtain⟨z,its,n,r,e⟩:=I.hok p _ h;exact⟨its,n,r,e,z⟩
theorem Inv.lstUpd {pins:List (Addr×Obj)} {σ:St} {H:Hp} {s:Shared} {p:Addr} {xs ys:List V} {its its':List Value} {n n':Nat} {f:Obj->Obj} (I:Inv X pins σ H s) (h:H p=some (.lst xs))
 (ho:s.heap.get? p=some { cls:= .type "list",data:= .seq its.toArray n }) (hf:f { cls:= .type "list",data:= .seq its.toArray n }={ cls:= .type "list",data:= .seq its'.toArray n' }) (r:Vals ys its') (hz:ys.length<=sizeLine) (t:Nat):
 Inv X pins σ (upd H p (.lst ys)) { s with heap:=s.heap.update p f,toks:=t }:=by
 have e:(s.heap.update p f).get? p=some { cls:= .type "list",data:= .seq its'.toArray n' }:=by
  rw[Heap.get?_update_self f ho (by rw[hf] <;> rfl),hf]
 refine I.write (x:=p) (e:=p) (by rw[h];trivial) (.inl rfl) (λb u hb q=>(Heap.get?_update_other _ _ (Ne.symm hb)).trans q) ⟨_,e⟩ ?_;exact⟨hz,its',n',r,e⟩
def q_L:V->V->V->Hp->(Hp->Prop)->Prop:=λo i v H Q=>∃p xs k j,o= .ref p/\i= .int k/\H p=some (.lst xs)/\ixN xs.length k=some j/\Q (upd H p (.lst (xs.set j v)))
theorem h_P:r_i X q_L:=by
 intro pins s σ H o i v ov iv u Q I ro ri rv h;obtain⟨p,xs,k,j,rfl,rfl,hp,hj,q⟩:=h;cases ro;obtain⟨t,rfl⟩:=ri;obtain⟨its,n,r,ho,hz⟩:=I.lst hp;obtain⟨h1,h2,h3,h4⟩:=k_D hj;have hl:=r.length;have hn:=e_P
 have I':Inv X pins σ (upd H p (.lst (xs.set j v))) { s with heap:=s.heap.update p (Obj.mapSeq (·.setIfInBounds j u)) }:=
  I.lstUpd hp ho (i_J its n j u) (r.set rv j) (by rw[List.length_set];exact hz) s.toks
 by_cases h0:0<=k
 ·have hk:k.toNat=j:=by
   rw[seqIndex_of h0 h4] at h1;exact r_3 h1
  exact PySem.W.ki_setAt ho h0 (by omega) (by rw[r_6,<-hl];exact h4) (by rw[hk];exact⟨_,I',q⟩)
 ·have hk:(k+(its.toArray.size:Int)).toNat=j:=by
   rw[seqIndex_neg (by omega) h3] at h1;rw[r_6,<-hl];exact r_3 h1
  exact PySem.W.ki_setBack ho (by omega) (by rw[r_6,<-hl];exact h3) (by omega) (by rw[hk];exact⟨_,I',q⟩)
theorem f_9 (lo hi:Option Int) (n:Nat):(sliceBounds lo hi none n).1=((HT.sIx n 0 lo:Nat):Int)/\(sliceBounds lo hi none n).2.1=((HT.sIx n n hi:Nat):Int)/\(sliceBounds lo hi none n).2.2=1:=by
 refine⟨?_, ?_, rfl⟩
 ·cases lo with
  | none=>simp[sliceBounds,HT.sIx]
  | some i=>
    simp only[sliceBounds,HT.sIx,Option.getD_none,show (1:Int) > 0 by decide,if_true];by_cases h:i < 0
    ·simp only[h,if_true] <;> omega
    ·simp only[h,if_false] <;> omega
 ·cases hi with
  | none=>simp[sliceBounds,HT.sIx]
  | some i=>
    simp only[sliceBounds,HT.sIx,Option.getD_none,show (1:Int) > 0 by decide,if_true];by_cases h:i < 0
    ·simp only[h,if_true] <;> omega
    ·simp only[h,if_false] <;> omega
theorem f_U (its:List Value) (lo hi:Option Int):slicePick its.toArray lo hi none=((its.drop (HT.sIx its.length 0 lo)).take (HT.sIx its.length its.length hi - HT.sIx its.length 0 lo)).toArray:=by
 obtain⟨h1,h2,h3⟩:=f_9 lo hi its.toArray.size;unfold slicePick;rw[h1,h2,h3]
 simp only[sliceRange_one,pick_run,r_6] <;> rfl
def q_7 (K:PySem.W.Frag):V->Option Int->Option Int->Hp->VK->Prop:=λx lo hi H Q=>∃a xs,x= .ref a/\SqL K H a xs/\∀p,H p=none->Q (.ref p) (upd H p (.lst (g_u xs lo hi)))
theorem e_x:SlR X (q_7 X.K):=by
 intro pins s σ H x v vl vu lo hi sl Q I rx hs pl pu h;obtain⟨a,xs,rfl,hx,q⟩:=h;cases rx;obtain⟨its,r,ht,hz⟩:=I.list hx;have c:=r.length;refine⟨"list",_,slot_list_getitem.lookup,ht.isList.typeIs,?_⟩
 refine wpAny_getItem_list_slice ht.isList hs pl pu .none (by simp) ?_ (by rw[r_6] <;> omega)
 rw[f_U,<-c];refine⟨.ref s.heap.objs.size,_,I.laid (t':=s.toks) (o:= .lst (g_u xs lo hi)) (λb ob q=>Heap.get?_push_of_some _ q) (r_5 _) ?_, rfl,q _ (I.hok.fresh (r_5 _))⟩;exact⟨s_h (g_2 xs lo hi) hz,_,0,(r.drop (HT.sIx xs.length 0 lo)).take (HT.sIx xs.length xs.length hi - HT.sIx xs.length 0 lo),Heap.get?_push_size _ rfl⟩
def g_s:V->Bool
 | .non=>true
 | .bl _=>true
 | .int _=>true
 | .str _=>true
 | _=>false
def eqV:V->V->Bool
 | .non,.non=>true
 | .bl a,.bl b=>a == b
 | .bl a,.int b=>(if a then 1 else 0) == b
 | .int a,.bl b=>a == (if b then 1 else 0)
 | .int a,.int b=>a == b
 | .str a,.str b=>a == b
 | _,_=>false
theorem m_F {A:Around} {s:Shared} {y x:V} {u v:Value} (ry:RelV y u) (rx:RelV x v) (fy:g_s y=true) (fx:g_s x=true):SeqAt.EqAt A s u v (eqV y x):=by
 cases y with
 | non=>
   cases ry;cases x with
   | non=>cases rx;exact SeqAt.EqAt.same _
   | bl b=>cases rx;exact SeqAt.EqAt.none_bool b
   | int b=>obtain⟨t,rfl⟩:=rx;exact SeqAt.EqAt.none_int b t
   | str b=>obtain⟨t,rfl⟩:=rx;exact SeqAt.EqAt.none_str b t
   | _=>exact absurd (show false=true from fx) s_d
 | bl a=>
   cases ry;cases x with
   | non=>cases rx;exact SeqAt.EqAt.bool_none a
   | bl b=>cases rx;exact SeqAt.EqAt.bool_bool a b
   | int b=>obtain⟨t,rfl⟩:=rx;exact SeqAt.EqAt.bool_int a b t
   | str b=>obtain⟨t,rfl⟩:=rx;exact SeqAt.EqAt.bool_str a b t
   | _=>exact absurd (show false=true from fx) s_d
 | int a=>
   obtain⟨t',rfl⟩:=ry;cases x with
   | non=>cases rx;exact SeqAt.EqAt.int_none a t'
   | bl b=>cases rx;exact SeqAt.EqAt.int_bool a t' b
   | int b=>obtain⟨t,rfl⟩:=rx;exact SeqAt.EqAt.int_int a t' b t
   | str b=>obtain⟨t,rfl⟩:=rx;exact SeqAt.EqAt.int_str a t' b t
   | _=>exact absurd (show false=true from fx) s_d
 | str a=>
   obtain⟨t',rfl⟩:=ry;cases x with
   | non=>cases rx;exact SeqAt.EqAt.str_none a t'
   | bl b=>cases rx;exact SeqAt.EqAt.str_bool a t' b
   | int b=>obtain⟨t,rfl⟩:=rx;exact SeqAt.EqAt.str_int a t' b t
   | str b=>obtain⟨t,rfl⟩:=rx;exact SeqAt.EqAt.str_str a t' b t
   | _=>exact absurd (show false=true from fx) s_d
 | _=>exact absurd (show false=true from fy) s_d
def eqU (x:V) (u:Value):Bool:=match u with
 | .none=>eqV .non x
 | .bool b=>eqV (.bl b) x
 | .int i _=>eqV (.int i) x
 | .str z _=>eqV (.str z) x
 | _=>false
theorem m_D {x y:V} {u:Value} (r:RelV y u) (f:g_s y=true):eqU x u=eqV y x:=by
 cases y with
 | non=>cases r;rfl
 | bl b=>cases r;rfl
 | int i=>obtain⟨t,rfl⟩:=r;rfl
 | str z=>obtain⟨t,rfl⟩:=r;rfl
 | _=>exact absurd (show false=true from f) s_d
theorem e_g {x:V}:∀{xs:List V} {us:List Value},Vals xs us->xs.all g_s=true->us.any (eqU x)=xs.any λy=>eqV y x
 | _,_,.nil,_=>rfl
 | y::xs,u::us,.cons r t,f=>by
   rw[List.all_cons,Bool.and_eq_true] at f;rw[List.any_cons,List.any_cons,m_D r f.1,e_g t f.2]
theorem d_f {A:Around} {s:Shared} {x:V} {v:Value} (rx:RelV x v) (fx:g_s x=true):∀{xs:List V} {us:List Value},Vals xs us->xs.all g_s=true->∀u∈us,SeqAt.EqAt A s u v (eqU x u)
 | _,_,.nil,_=>λu hu=>by cases hu
 | y::xs,u::us,.cons r t,f=>fun u' hu=>by
   rw[List.all_cons,Bool.and_eq_true] at f;rcases r_7.mp hu with rfl | hu
   ·rw[m_D r f.1];exact m_F r rx f.1 fx
   ·exact d_f rx fx t f.2 u' hu
def inV (x:V) (xs:List V):Bool:=xs.any λy=>eqV y x
def rIn (K:PySem.W.Frag) (neg:Bool):R2:=λx y H Q=>∃p xs,y= .ref p/\(SqL K H p xs\/SqT K H p xs)/\g_s x=true/\xs.all g_s=true/\Q (.bl (if neg then !inV x xs else inV x xs)) H
theorem d_d:OpR X (compareOp .In) (rIn X.K false):=by
 intro pins s σ H x y v u Q I rx ry h;obtain⟨p,xs,rfl,hq,fx,fs,q⟩:=h;cases ry;rcases hq with hq | hq
 ·obtain⟨its,r,pl,hz⟩:=I.list hq
  refine SeqAt.in_listAt (eqU x) pl.isList (λw hw=>d_f rx fx r fs w (by simpa using hw)) ⟨.bl _,H,I,rfl,?_⟩;rw[show its.toArray.any (eqU x)=its.any (eqU x) by simp,e_g r fs];exact q
 ·obtain⟨its,r,pl,hz⟩:=I.tuple hq
  refine SeqAt.in_tupleAt (eqU x) pl (λw hw=>d_f rx fx r fs w (by simpa using hw)) ⟨.bl _,H,I,rfl,?_⟩;rw[show its.toArray.any (eqU x)=its.any (eqU x) by simp,e_g r fs];exact q
theorem d_S:OpR X (compareOp .NotIn) (rIn X.K true):=by
 intro pins s σ H x y v u Q I rx ry h;obtain⟨p,xs,rfl,hq,fx,fs,q⟩:=h;cases ry;rcases hq with hq | hq
 ·obtain⟨its,r,pl,hz⟩:=I.list hq
  refine SeqAt.notIn_listAt (eqU x) pl.isList (λw hw=>d_f rx fx r fs w (by simpa using hw)) ⟨.bl _,H,I,rfl,?_⟩;rw[show its.toArray.any (eqU x)=its.any (eqU x) by simp,e_g r fs];exact q
 ·obtain⟨its,r,pl,hz⟩:=I.tuple hq
  refine SeqAt.notIn_tupleAt (eqU x) pl (λw hw=>d_f rx fx r fs w (by simpa using hw)) ⟨.bl _,H,I,rfl,?_⟩;rw[show its.toArray.any (eqU x)=its.any (eqU x) by simp,e_g r fs];exact q
theorem a_x:c_W X (.builtin "len") (λxs H Q=>∃p ys,xs= [.ref p]/\(SqL X.K H p ys\/SqT X.K H p ys)/\Q (.int ys.length) H):=by
 intro pins s σ H xs us Q I r h;obtain⟨p,ys,rfl,hq,q⟩:=h;obtain⟨u,rfl,rx⟩:=i_q r;cases rx;have hn:=e_P;rcases hq with hq | hq
 ·obtain⟨its,r',pl,hz⟩:=I.list hq
  have a:=r'.length
  exact Calls.call_len_list pl.isList (by simp only[r_6] <;> omega) ⟨.int ys.length,H,I.tok _,⟨s.toks+1,by rw[r_6,a]⟩,q⟩
 ·obtain⟨its,r',pl,hz⟩:=I.tuple hq
  have a:=r'.length
  exact len_tuple pl (by simp only[r_6] <;> omega) ⟨.int ys.length,H,I.tok _,⟨s.toks+1,by rw[r_6,a]⟩,q⟩
theorem g_M:c_W X (.builtin "len") (λxs H Q=>∃z,xs= [.str z]/\z.length<=sizeLine/\Q (.int z.length) H):=by
 intro pins s σ H xs us Q I r h;obtain⟨z,rfl,hz,q⟩:=h;obtain⟨u,rfl,t,rfl⟩:=i_q r;have hn:=e_P;exact len_str (by omega) ⟨.int z.length,H,I.tok _,⟨_,rfl⟩,q⟩
theorem g_N:c_W X (.type "list") (λxs H Q=>∃p ys,xs= [.ref p]/\(SqL X.K H p ys\/SqT X.K H p ys)/\∀l,H l=none->Q (.ref l) (upd H l (.lst ys))):=by
 intro pins s σ H xs us Q I r h;obtain⟨p,ys,rfl,hq,q⟩:=h;obtain⟨u,rfl,rx⟩:=i_q r;cases rx
 have fin:∀(its:List Value),Vals ys its->ys.length<=sizeLine->∀(h':Heap) (c':Nat),(∀b o',s.heap.get? b=some o'->h'.get? b=some o')->
  h'.get? s.heap.objs.size=some { cls:= .type "list",dict:=none,data:= .seq its.toArray c',slots:= #[] }->EP X pins σ Q (.ref s.heap.objs.size) { s with heap:=h' }:=λits r' hz h' c' kp e=>
  ⟨.ref s.heap.objs.size,_,I.laid (t':=s.toks) kp (r_5 _) (show ObjOk X.prog X.w _ h' _ (.lst ys) from ⟨hz,its,c',r',e⟩),rfl,q _ (I.hok.fresh (r_5 _))⟩
 rcases hq with hq | hq
 ·obtain⟨its,r',pl,hz⟩:=I.list hq
  have a:=r'.length;obtain⟨o,ho,hc,n,hd⟩:=pl.isList
  exact call_list_seq p (.inl rfl) ho hc hd (λh' c' kp e=>fin its r' hz h' c' kp e) (by simp only[r_6] <;> omega)
 ·obtain⟨its,r',pl,hz⟩:=I.tuple hq
  have a:=r'.length;obtain⟨o,ho,hc,n,hd⟩:=pl
  exact call_list_seq p (.inr rfl) ho hc hd (λh' c' kp e=>fin its r' hz h' c' kp e) (by simp only[r_6] <;> omega)
def tyV (K:PySem.W.Frag) (T:String) (x:V) (H:Hp):Prop:=match x with
 | .str _=>T="str"
 | .int _=>T="int"
 | .ref p=>(T="list"∧∃xs,SqL K H p xs)∨(T="tuple"∧∃o,K.lookup p=some o∧o.cls= .type "tuple"∧o.dict=none)∨
    (T="dict"/\((∃kvs,H p=some (.dK kvs))\/∃kvs,H p=some (.dT kvs)))\/(T="set"/\∃S n,H p=some (.set S n))
 | _=>False
theorem j_A {pins:List (Addr×Obj)} {σ:St} {H:Hp} {s:Shared} {T:String} {x:V} {v:Value} (I:Inv X pins σ H s) (r:RelV x v) (ty:tyV X.K T x H):
 s.TypeIs v T/\∀a,v= .ref a->∃ob,s.heap.get? a=some ob/\ob.dict=none:=by
 cases x with
 | str z=>
   obtain⟨t,rfl⟩:=r;cases (show T="str" from ty);exact⟨typeIs_str s z t,λ_ e=>nomatch e⟩
 | int i=>
   obtain⟨t,rfl⟩:=r;cases (show T="int" from ty);exact⟨typeIs_int s i t,λ_ e=>nomatch e⟩
 | ref p=>
   cases r;rcases ty with⟨rfl,xs,hq⟩ | ⟨rfl,o,hk,hc,hd⟩ | ⟨rfl,hk⟩ | ⟨rfl,S,n,hk⟩
   ·obtain⟨its,_,pl,_⟩:=I.list hq
    refine⟨pl.isList.typeIs,λa e=> ?_⟩;cases e;obtain⟨o,n,e,c,hd,_⟩:=pl;exact⟨o,e,hd⟩
   ·refine⟨⟨o,I.kIn p o hk,hc⟩,λa e=> ?_⟩
    cases e;exact⟨o,I.kIn _ o hk,hd⟩
   ·have z:∃o,s.heap.get? p=some o∧o.ExactDict:=by
     rcases hk with⟨kvs,hk⟩ | ⟨kvs,hk⟩
     ·obtain⟨_,_,_,_,o,_,_,e,ex,_⟩:=I.hok p _ hk
      exact⟨o,e,ex⟩
     ·obtain⟨_,_,_,_,o,_,_,e,ex,_⟩:=I.hok p _ hk
      exact⟨o,e,ex⟩
    obtain⟨o,e,ex⟩:=z;refine⟨⟨o,e,ex.1⟩,λa e2=> ?_⟩;cases e2;exact⟨o,e,ex.2.1⟩
   ·obtain⟨o,_,_,_,e,ex,_⟩:=I.hok p _ hk
    refine⟨⟨o,e,ex.1⟩,λa e2=> ?_⟩;cases e2;exact⟨o,e,ex.2.1⟩
 | _=>exact False.elim ty
def r_t (K:PySem.W.Frag) (T:String) (r:V->List V->Hp->VK->Prop) (to:TE):TE:=λσ H Q=>to σ H λx H1=>tyV K T x H1/\r x [] H1 Q
def tBM (K:PySem.W.Frag) (T:String) (r:V->List V->Hp->VK->Prop) (to:TE) (t:TA):TE:=λσ H Q=>to σ H λx H1=>tyV K T x H1/\t σ H1 λxs H2=>r x xs H2 Q
variable {o e:Expr} {es:List Expr} {to:TE} {t:TA} {name:Str} {apos cpos:Pos} {T id:String} {r:V->List V->Hp->VK->Prop}
theorem e_u (pa:PlainAttrs T) (slot:Slot T name id) (hty:typeOf (.builtin id)=pure (.type "method_descriptor")) (hm:MtR X id r) (ho:PE X o to)
 (hbase:attributeBase o name X.env (eval o X.env)=eval o X.env:=by rfl) (hline:(apos.endLine == cpos.line)=true:=by rfl):PE X (.Call (.Attribute o name apos) [] [] cpos) (r_t X.K T r to):=by
 intro pins s σ H Q I h;refine wpAny_Call_method0_late hbase hline (thn (ho pins s σ H _ I h) λv s1 ⟨x,H1,I1,r1,ty,q1⟩=> ?_);obtain⟨h1,h2⟩:=j_A I1 r1 ty;exact⟨T,id,pa,slot,hty,h1,h2,Calls.callWith_builtin rfl (PySem.evalArgs_none (hm pins s1 σ H1 x [] v [] Q I1 r1 .nil q1))⟩
theorem b_y (pa:PlainAttrs T) (slot:Slot T name id) (hty:typeOf (.builtin id)=pure (.type "method_descriptor")) (hm:MtR X id r) (ho:PE X o to) (ha:PA X (e::es) t)
 (hbase:attributeBase o name X.env (eval o X.env)=eval o X.env:=by rfl)
 (hfew:((backTo cpos (starEach (e::es) X.env)).all (fun x=> !x.1)&&(backToKw cpos (keywordEach [] X.env)).all (fun x=>x.1.isSome)
   &&decide ((e::es).length+([]:List Keyword).length+(if ([]:List Keyword).isEmpty then 0 else 1) < 30))=true:=by rfl)
 (hline:(apos.endLine == cpos.line)=true:=by rfl) (hs:starEach (e::es) X.env=(false,eval e X.env)::starEach es X.env:=by rfl) (hplain:(backTo cpos (starEach es X.env)).any (·.1)=false:=by rfl):
 PE X (.Call (.Attribute o name apos) (e::es) [] cpos) (tBM X.K T r to t):=by
 intro pins s σ H Q I h;refine wpAny_Call_method_late hbase hfew hline rfl (thn (ho pins s σ H _ I h) λv s1 ⟨x,H1,I1,r1,ty,q1⟩=> ?_);obtain⟨h1,h2⟩:=j_A I1 r1 ty;refine⟨T,id,pa,slot,hty,h1,h2,?_⟩;have hA:=ha cpos pins s1 σ H1 _ I1 q1;rw[hs] at hA ⊢
 refine Calls.callWith_builtin (by show (false||(backTo cpos (starEach es X.env)).any (·.1))=false;rw[hplain] <;> rfl) (Calls.evalArgs_plain ?_)
 exact thn hA λus s2 ⟨vs,H2,I2,r2,q2⟩=>hm pins s2 σ H2 x vs v us Q I2 r1 r2 q2
end
def MtM (X:Cx) (id:String) (r:V->List V->Hp->VK->Prop):Prop:=
 ∀(pins:List (Addr×Obj)) (s:Shared) (σ:St) (H:Hp) (x:V) (xs:List V) (v:Value) (us:List Value) (Q:VK),Inv X pins σ H s->RelV x v->Vals xs us->r x xs H Q->
  wpAny (model X.prog X.w) X.A (call (.builtin id) (v::us)) (EP X pins σ Q) X.xe s
theorem Vals.one:∀{x:V} {us:List Value},Vals [x] us->∃u,us= [u]/\RelV x u
 | _,_,.cons r .nil=>⟨_,rfl,r⟩
theorem Vals.two:∀{x y:V} {us:List Value},Vals [x,y] us->∃u v,us= [u,v]/\RelV x u/\RelV y v
 | _,_,_,.cons r (.cons q .nil)=>⟨_,_,rfl,r,q⟩
theorem Vals.zero:∀{us:List Value},Vals [] us->us= []
 | _,.nil=>rfl
theorem Vals.dropLast {xs:List V} {us:List Value} (h:Vals xs us):Vals xs.dropLast us.dropLast:=by
 induction h with
 | nil=>exact .nil
 | cons r t ih=>
   cases t with
   | nil=>exact .nil
   | cons q t'=>exact .cons r ih
theorem Vals.eraseIdx:∀{xs:List V} {us:List Value} (i:Nat),Vals xs us->Vals (xs.eraseIdx i) (us.eraseIdx i)
 | _,_,_,.nil=> .nil
 | _,_,0,.cons _ t=>t
 | _,_,i+1,.cons r t=> .cons r (Vals.eraseIdx i t)
theorem Vals.rep {xs:List V} {us:List Value} (h:Vals xs us):∀k:Nat,Vals (List.replicate k xs).flatten (List.replicate k us).flatten
 | 0=> .nil
 | k+1=>by
   rw[List.replicate_succ,List.replicate_succ,s_p,s_p];exact Vals.append h (Vals.rep h k)
theorem i_H {α:Type} (l:List α):l.eraseIdx (l.length - 1)=l.dropLast:=by
 induction l with
 | nil=>rfl
 | cons a r ih=>
   cases r with
   | nil=>rfl
   | cons b r=>
     have e:(a::b::r).length - 1=((b::r).length - 1)+1:=by
      have h1:(a::b::r).length=r.length+2:=rfl;have h2:(b::r).length=r.length+1:=rfl;omega
     rw[e,List.eraseIdx_cons_succ,ih]
     all_goals rfl
theorem e_i {α:Type}:∀(l:List α) (i:Nat),(l.eraseIdx i).length<=l.length
 | [],_=>r_5 _
 | _::_,0=>Nat.le_succ _
 | _::r,i+1=>Nat.succ_le_succ (e_i r i)
theorem g_p (its:List Value):∀(k:Nat) (acc:List Value),
 List.foldl (λx1 x2=>x1++x2) acc.toArray (List.replicate k its.toArray)=(acc++(List.replicate k its).flatten).toArray
 | 0,acc=>by simp
 | k+1,acc=>by
   have e:acc.toArray++its.toArray=(acc++its).toArray:=by simp
   have e2:(acc++its)++(List.replicate k its).flatten=acc++(List.replicate (k+1) its).flatten:=by
    rw[List.replicate_succ,s_p,List.append_assoc]
   rw[<-e2,<-g_p its k (acc++its),<-e,List.replicate_succ,List.foldl_cons]
section
variable {X:Cx} {pins:List (Addr×Obj)} {σ:St} {H:Hp} {s:Shared} {l b:Addr} {xs ys zs:List V}
theorem Inv.lset {its its':List Value} {n:Nat} {f:Array Value->Array Value} {t':Nat} (I:Inv X pins σ H s) (hH:H l=some (.lst xs))
 (e:s.heap.get? l=some { cls:= .type "list",data:= .seq its.toArray n }) (hf:f its.toArray=its'.toArray) (hv:Vals ys its') (hz:ys.length<=sizeLine):
 Inv X pins σ (upd H l (.lst ys)) { s with heap:=s.heap.update l (Obj.mapSeq f),toks:=t' }:=by
 have q:=PySem.IsL.update e f;rw[hf] at q;refine I.write (x:=l) (e:=l) (by rw[hH];exact trivial) (.inl rfl) (λb' u hb hu=>(Heap.get?_update_other s.heap (Obj.mapSeq f) (Ne.symm hb)).trans hu) ⟨_,q⟩ ?_;exact⟨hz,its',_,hv,q⟩
theorem Inv.lnew {its:List Value} {t':Nat} (I:Inv X pins σ H s) (hv:Vals ys its) (hz:ys.length<=sizeLine):
 Inv X pins σ (upd H s.heap.objs.size (.lst ys)) { s with heap:=s.heap.push { cls:= .type "list",data:= .seq its.toArray },toks:=t' }:=
 I.laid (λ_ _ q=>Heap.get?_push_of_some _ q) (r_5 _) ⟨hz,its,0,hv,Heap.get?_push_size _ rfl⟩
theorem Inv.fresh (I:Inv X pins σ H s):H s.heap.objs.size=none:=I.hok.fresh (r_5 _)
theorem Inv.lstM (I:Inv X pins σ H s) (hH:H l=some (.lst xs)):xs.length<=sizeLine/\∃(its:List Value) (n:Nat),Vals xs its/\xs.length=its.length/\s.heap.get? l=some { cls:= .type "list",data:= .seq its.toArray n }:=by
 obtain⟨z,its,n,r,e⟩:=I.hok l _ hH;exact⟨z,its,n,r,r.length,e⟩
theorem f_E {n:Nat} (h:n<=sizeLine):Builtin.List.listTooLong n=false:=by
 unfold Builtin.List.listTooLong;exact s_D (by omega)
end
section
variable {X:Cx}
def m_S:V->List V->Hp->VK->Prop:=λx vs H Q=>∃l xs y,x= .ref l/\vs= [y]/\H l=some (.lst xs)/\xs.length < sizeLine/\Q .non (upd H l (.lst (xs++ [y])))
theorem a_N:MtM X "list.append" m_S:=by
 intro pins s σ H x vs v us Q I rx rv h;obtain⟨l,xs,y,rfl,rfl,hH,hz,q⟩:=h;cases rx;obtain⟨u,rfl,ru⟩:=rv.one;obtain⟨z,its,n,r,hl,e⟩:=I.lstM hH;refine call_meets F.slot_list_append ⟨_,e,rfl⟩ F.entry_list_append (F.args_list_append_2 _ _) (PySem.list_append l its.toArray n u (by rw[r_6];omega)) ⟨e,?_⟩;refine⟨.non,_,I.lset (its':=its++ [u]) hH e (by simp) (r.append (.cons ru .nil)) ?_, rfl,q⟩;rw[r_Y,s_u];omega
def o_m:V->List V->Hp->VK->Prop:=λx vs H Q=>∃l b xs zs,x= .ref l/\vs= [.ref b]/\H l=some (.lst xs)/\H b=some (.lst zs)/\xs.length+zs.length<=sizeLine/\Q .non (upd H l (.lst (xs++zs)))
theorem d_z:MtM X "list.extend" o_m:=by
 intro pins s σ H x vs v us Q I rx rv h;obtain⟨l,b,xs,zs,rfl,rfl,hH,hB,hz,q⟩:=h;cases rx;obtain⟨u,rfl,ru⟩:=rv.one;cases ru;obtain⟨z,its,n,r,hl,e⟩:=I.lstM hH;obtain⟨z2,a,n2,r2,f,e2⟩:=I.lstM hB;have d:its.toArray.size+a.toArray.size<=sizeLine:=by rw[r_6,r_6];omega
 have c:¬ (!its.toArray.isEmpty&&Builtin.List.listTooLong (its.toArray.size+a.toArray.size))=true:=by
  rw[f_E d,Bool.and_false];exact s_d
 refine call_meets F.slot_list_extend ⟨_,e,rfl⟩ F.entry_list_extend (F.args_list_extend_2 _ _)
  (AutoSeq1.list_extend_list_list_0 l its.toArray n b a.toArray n2 c (by rw[r_6];omega) (by omega)) ⟨e,e2,?_⟩
 refine⟨.non,_,I.lset (its':=its++a) hH e (by simp) (r.append r2) ?_, rfl,q⟩;rw[r_Y];omega
def r_T:V->List V->Hp->VK->Prop:=λx vs H Q=>∃l xs y,x= .ref l/\vs= []/\H l=some (.lst xs)/\xs[xs.length - 1]? =some y/\Q y (upd H l (.lst xs.dropLast))
theorem g_e:MtM X "list.pop" r_T:=by
 intro pins s σ H x vs v us Q I rx rv h;obtain⟨l,xs,y,rfl,rfl,hH,hy,q⟩:=h;cases rx;have a:=rv.zero;subst a;obtain⟨z,its,n,r,hl,e⟩:=I.lstM hH;obtain⟨u,hu,ru⟩:=r.get hy
 have b:its.toArray[its.toArray.size - 1]? =some u:=by
  show its.toArray[its.length - 1]? =some u;rw[<-Array.getElem?_toList,<-hl];exact hu
 refine call_meets F.slot_list_pop ⟨_,e,rfl⟩ F.entry_list_pop (F.args_list_pop_1 _) (MeetsSeq.list_pop_last l its.toArray n u b (by rw[r_6];omega)) ⟨e,?_⟩;refine⟨y,_,I.lset (its':=its.dropLast) hH e ?_ r.dropLast ?_, ru,q⟩
 ·show its.toArray.eraseIdxIfInBounds (its.toArray.size - 1)=its.dropLast.toArray
  rw[r_6,List.eraseIdxIfInBounds_toArray,i_H]
 ·rw[List.length_dropLast]
  omega
def o_B:V->List V->Hp->VK->Prop:=λx vs H Q=>∃l xs i k y,x= .ref l/\vs= [.int i]/\H l=some (.lst xs)/\-(2 ^ 63)<=i/\i < 2 ^ 63/\seqIndex? i xs.length=some k/\xs[k]? =some y/\Q y (upd H l (.lst (xs.eraseIdx k)))
theorem i_a:MtM X "list.pop" o_B:=by
 intro pins s σ H x vs v us Q I rx rv h;obtain⟨l,xs,i,k,y,rfl,rfl,hH,h1,h2,hk,hy,q⟩:=h;cases rx;obtain⟨u,rfl,ru⟩:=rv.one;obtain⟨t,rfl⟩:=ru;obtain⟨z,its,n,r,hl,e⟩:=I.lstM hH;obtain⟨w,hw,rw'⟩:=r.get hy
 refine call_meets F.slot_list_pop ⟨_,e,rfl⟩ F.entry_list_pop (F.args_list_pop_2 _ _)
  (MeetsSeq.list_pop_at l its.toArray n i t k w (fitsIndex_both h1 h2) (by rw[r_6,<-hl];exact hk) (by rw[<-Array.getElem?_toList];exact hw) (by rw[r_6];omega)) ⟨e,?_⟩
 refine⟨y,_,I.lset (its':=its.eraseIdx k) hH e ?_ (r.eraseIdx k) ?_, rw',q⟩
 ·show its.toArray.eraseIdxIfInBounds k=(its.eraseIdx k).toArray
  rw[List.eraseIdxIfInBounds_toArray]
 ·have:=e_i xs k
  omega
def r_J:R2:=λx y H Q=>∃l b xs zs,x= .ref l/\y= .ref b/\H l=some (.lst xs)/\H b=some (.lst zs)/\xs.length+zs.length<=sizeLine/\∀p,H p=none->Q (.ref p) (upd H p (.lst (xs++zs)))
theorem c_T:OpR X (binaryOp .Add) r_J:=by
 intro pins s σ H x y v u Q I rx ry h;obtain⟨l,b,xs,zs,rfl,rfl,hH,hB,hz,q⟩:=h;cases rx;cases ry;obtain⟨z,its,n,r,hl,e⟩:=I.lstM hH;obtain⟨z2,a,n2,r2,c,e2⟩:=I.lstM hB;refine PySem.P.add_list e e2 ?_ (by rw[r_6,r_6];omega);have ea:its.toArray++a.toArray=(its++a).toArray:=by simp
 rw[ea];exact⟨.ref _,_,I.lnew (t':=s.toks) (r.append r2) (by rw[r_Y];omega),rfl,q _ I.fresh⟩
def r_Q:R2:=λx y H Q=>∃l k xs,x= .ref l/\y= .int k/\H l=some (.lst xs)/\-(2 ^ 63)<=k/\k < 2 ^ 63/\xs.length * k.toNat<=sizeLine/\
 ∀p,H p=none->Q (.ref p) (upd H p (.lst (List.replicate k.toNat xs).flatten))
theorem n_l {α:Type} (xs:List α) (k:Nat):(List.replicate k xs).flatten.length=k * xs.length:=by
 induction k with
 | zero=>simp
 | succ k ih=>rw[List.replicate_succ,s_p,r_Y,ih,Nat.succ_mul,Nat.add_comm]
theorem p_C:OpR X (binaryOp .Mult) r_Q:=by
 intro pins s σ H x y v u Q I rx ry h;obtain⟨l,k,xs,rfl,rfl,hH,h1,h2,hz,q⟩:=h;cases rx;obtain⟨t,rfl⟩:=ry;obtain⟨z,its,n,r,hl,e⟩:=I.lstM hH;have d:its.toArray.size * k.toNat<=sizeLine:=by rw[r_6,<-hl];exact hz
 have f:¬ its.toArray.size * k.toNat > (2 ^ 63 - 1) / 8:=by
  have:(sizeLine:Nat)<=(2 ^ 63 - 1) / 8:=by decide
  omega
 have g:¬ (!Builtin.List.listFitsIndex k)=true:=by
  rw[fitsIndex_both h1 h2];exact s_d
 have b:¬ Builtin.List.listTooLong (its.toArray.size * k.toNat)=true:=by
  rw[f_E d];exact s_d
 have c:List.foldl (λx1 x2=>x1++x2) #[] (List.replicate (if its.toArray.isEmpty=true then 0 else k.toNat) its.toArray)=(List.replicate k.toNat its).flatten.toArray:=by
  have f0:∀m:Nat,List.foldl (λx1 x2=>x1++x2) #[] (List.replicate m its.toArray)=(List.replicate m its).flatten.toArray:=λm=>by
   have:=g_p its m [];rw[List.nil_append] at this;exact this
  rw[f0];cases its with
  | nil=>simp
  | cons a r'=>rw[if_neg (by simp)]
 refine wpAny_binaryOp_repeat_ref (T:="list") (U:="int") (by decide) ⟨_,e,rfl⟩ (λs'=>typeIs_int s' k t) noFill_list_mul F.fills_int_mul F.slot_int_rmul repeat_list F.slot_int_index.lookup
  (call_meets F.slot_int_rmul (typeIs_int s k t) F.entry_int_rmul (F.args_int_rmul_2 _ _) (int___rmul___int_list k t l its.toArray n)
    ⟨e,rfl,⟨_,e,rfl⟩,call_meets F.slot_list_mul ⟨_,e,rfl⟩ F.entry_list_mul (F.args_list_mul_2 _ _) (AutoListH.list___mul___list_int_3 l its.toArray n k t g f b) ⟨e,?_⟩⟩)
 rw[c];exact⟨.ref _,_,I.lnew (t':=s.toks) (r.rep k.toNat) (by rw[n_l,Nat.mul_comm];exact hz),rfl,q _ I.fresh⟩
end
section
variable {prog:Program} {w:World} {A:Around} {E:Value->Shared->Prop} {s:Shared}
end
section
variable {X:Cx}
end
section
variable {κ:Type} [DecidableEq κ]
def d_J (kvs:List (κ×V)) (k:κ):Option V:=(kvs.find? λkv=>decide (kv.1=k)).map (·.2)
def d_q (kvs:List (κ×V)) (k:κ) (v:V):List (κ×V):=
 if (kvs.any λkv=>decide (kv.1=k))=true then kvs.map (λkv=>if kv.1=k then (kv.1,v) else kv) else kvs++ [(k,v)]
def d_M (kvs:List (κ×V)) (k:κ):List (κ×V):=kvs.filter λkv=>decide (kv.1≠k)
theorem b_1 {p:κ×V} {r:List (κ×V)} {k:κ} (e:p.1=k):d_J (p::r) k=some p.2:=by simp[d_J,List.find?_cons,e]
theorem b_t {p:κ×V} {r:List (κ×V)} {k:κ} (e:¬ p.1=k):d_J (p::r) k=d_J r k:=by simp[d_J,List.find?_cons,e]
theorem d_Z (k:κ):∀kvs:List (κ×V),(kvs.any λkv=>decide (kv.1=k))=(d_J kvs k).isSome
 | []=>rfl
 | p::r=>by
   rw[List.any_cons];by_cases e:p.1=k
   ·simp only[b_1 e,s_C e,Bool.true_or,Option.isSome_some]
   ·rw[b_t e,s_D e,Bool.false_or];exact d_Z k r
theorem c_3 (kvs:List (κ×V)) (k:κ) (v:V):(d_q kvs k v).length<=kvs.length+1:=by
 unfold d_q;split
 ·rw[r_W];omega
 ·rw[r_Y,r_2,s_w];omega
theorem d_8 {kvs:List (κ×V)} {k:κ} (v:V) (h:d_J kvs k=none):d_q kvs k v=kvs++ [(k,v)]:=by
 unfold d_q;rw[d_Z,h];exact if_neg (by decide)
theorem RelO.isSome_eq {o:Option V} {u:Option Value} (r:RelO o u):o.isSome=u.isSome:=by
 cases o with
 | none=>cases u with
   | none=>rfl
   | some _=>exact (show False from r).elim
 | some _=>cases u with
   | none=>exact (show False from r).elim
   | some _=>rfl
theorem RelO.getD {o:Option V} {u:Option Value} {d:V} {d':Value} (r:RelO o u) (rd:RelV d d'):RelV (o.getD d) (u.getD d'):=by
 cases o with
 | none=>cases u with
   | none=>exact rd
   | some _=>exact (show False from r).elim
 | some _=>cases u with
   | none=>exact (show False from r).elim
   | some _=>exact r
theorem KV.val {kvs:List (κ×V)} {vs:List (κ×Value)} (r:KV kvs vs) (k:κ):RelO (d_J kvs k) (valueAt vs k):=by
 unfold KV at r;induction r with
 | nil=>exact True.intro
 | @cons p q ps qs h t ih=>
   obtain⟨h1,h2⟩:=h;by_cases e:p.1=k
   ·have e':q.1=k:=h1.symm.trans e
    have b:valueAt (q::qs) k=some q.2:=by simp[valueAt,List.find?_cons,e']
    rw[b_1 e,b];exact h2
   ·have e':¬ q.1=k:=λz=>e (h1.trans z)
    have b:valueAt (q::qs) k=valueAt qs k:=by simp[valueAt,List.find?_cons,e']
    rw[b_t e,b];exact ih
theorem KV.any {kvs:List (κ×V)} {vs:List (κ×Value)} (r:KV kvs vs) (k:κ):(kvs.any λkv=>decide (kv.1=k))=vs.any λkv=>decide (kv.1=k):=by
 unfold KV at r;induction r with
 | nil=>rfl
 | cons h t ih=>rw[List.any_cons,List.any_cons,ih,h.1]
theorem KV.repl {kvs:List (κ×V)} {vs:List (κ×Value)} (r:KV kvs vs) (k:κ) {y:V} {u:Value} (ry:RelV y u):
 KV (kvs.map λkv=>if kv.1=k then (kv.1,y) else kv) (vs.map λkv=>if kv.1=k then (kv.1,u) else kv):=by
 unfold KV at r ⊢;induction r with
 | nil=>exact .nil
 | @cons p q ps qs h t ih=>
   rw[s_b,s_b];refine .cons ?_ ih;obtain⟨h1,h2⟩:=h;by_cases e:p.1=k
   ·rw[if_pos e,if_pos (h1.symm.trans e)];exact⟨h1,ry⟩
   ·rw[if_neg e,if_neg (λz=>e (h1.trans z))];exact⟨h1,h2⟩
theorem KV.put {kvs:List (κ×V)} {vs:List (κ×Value)} (r:KV kvs vs) (k:κ) {y:V} {u:Value} (ry:RelV y u):KV (d_q kvs k y) (stored vs k u):=by
 unfold d_q stored;rw[r.any k];by_cases e:(vs.any λkv=>decide (kv.1=k))=true
 ·rw[if_pos e,if_pos e];exact r.repl k ry
 ·rw[if_neg e,if_neg e];exact Paired.snoc r ⟨rfl,ry⟩
theorem KV.drop {kvs:List (κ×V)} {vs:List (κ×Value)} (r:KV kvs vs) (k:κ):KV (d_M kvs k) (without vs k):=by
 unfold KV at r ⊢;unfold d_M without;induction r with
 | nil=>exact .nil
 | @cons p q ps qs h t ih=>
   obtain⟨h1,h2⟩:=h;rw[s_l,s_l];by_cases e:p.1=k
   ·have a:¬ decide (p.1≠k)=true:=by simp[e]
    have b:¬ decide (q.1≠k)=true:=by simp[h1.symm.trans e]
    rw[if_neg a,if_neg b];exact ih
   ·have e':¬ q.1=k:=λz=>e (h1.trans z)
    have a:decide (p.1≠k)=true:=by simp[e]
    have b:decide (q.1≠k)=true:=by simp[e']
    rw[if_pos a,if_pos b];exact .cons ⟨h1,h2⟩ ih
theorem KV.length {kvs:List (κ×V)} {vs:List (κ×Value)} (r:KV kvs vs):kvs.length=vs.length:=Paired.length r
theorem h_6 (kvs:List (κ×V)) (k:κ):(d_M kvs k).length<=kvs.length:=s_x _ _
end
theorem f_O {P:Program} {w:World} {k:Key} {u:Value} (r:RelV (kV k) u):(a_X P w).is k u=true:=by
 cases k with
 | inl i=>obtain⟨t,e⟩:=(show ∃t,u=Value.int i t from r);subst e;exact h_g P w i t
 | inr x=>obtain⟨t,e⟩:=(show ∃t,u=Value.str x t from r);subst e;exact h_k P w x t
theorem f_5 {P:Program} {w:World}:∀{ks:List Key} {us:List Value},Vals (ks.map kV) us->ItemsAre (a_X P w) ks us
 | [],_,r=>by rw[List.map_nil] at r;cases r;exact .nil
 | k::ks,_,r=>by
   rw[s_b] at r;cases r with
   | cons h t=>exact .cons (f_O h) (f_5 t)
abbrev KT (H:Hp):List (List Key×V)->List (List Key×Addr×Value)->Prop:=Paired λp q=>p.1=q.1/\H q.2.1=some (.tup (p.1.map kV))/\RelV p.2 q.2.2
theorem KT.val {H:Hp} {kvs:List (List Key×V)} {xs:List (List Key×Addr×Value)} (r:KT H kvs xs) (k:List Key):RelO (d_J kvs k) ((atKey xs k).map (·.2)):=by
 induction r with
 | nil=>exact True.intro
 | @cons p q ps qs h t ih=>
   obtain⟨h1,_,h2⟩:=h;by_cases e:p.1=k
   ·have e':q.1=k:=h1.symm.trans e
    have b:atKey (q::qs) k=some q.2:=by simp[atKey,List.find?_cons,e']
    rw[b_1 e,b];exact h2
   ·have e':¬ q.1=k:=λz=>e (h1.trans z)
    have b:atKey (q::qs) k=atKey qs k:=by simp[atKey,List.find?_cons,e']
    rw[b_t e,b];exact ih
theorem KT.repl {H:Hp} {kvs:List (List Key×V)} {xs:List (List Key×Addr×Value)} (r:KT H kvs xs) (k:List Key) {y:V} {u:Value} (ry:RelV y u):
 KT H (kvs.map λkv=>if kv.1=k then (kv.1,y) else kv) (xs.map (putAt k u)):=by
 induction r with
 | nil=>exact .nil
 | @cons p q ps qs h t ih=>
   rw[s_b,s_b];refine .cons ?_ ih;obtain⟨h1,h2,h3⟩:=h;unfold putAt;by_cases e:p.1=k
   ·rw[if_pos e,if_pos (h1.symm.trans e)];exact⟨h1,h2,ry⟩
   ·rw[if_neg e,if_neg (λz=>e (h1.trans z))];exact⟨h1,h2,h3⟩
theorem KT.put {H:Hp} {kvs:List (List Key×V)} {xs:List (List Key×Addr×Value)} (r:KT H kvs xs) (k:List Key) {b:Addr} {y:V} {u:Value} (hb:H b=some (.tup (k.map kV))) (ry:RelV y u):
 KT H (d_q kvs k y) (storedH xs k b u):=by
 have e:(kvs.any λkv=>decide (kv.1=k))=(atKey xs k).isSome:=by
  rw[d_Z,(r.val k).isSome_eq,Option.isSome_map]
 unfold d_q storedH;rw[e];by_cases q:(atKey xs k).isSome=true
 ·rw[if_pos q,if_pos q];exact r.repl k ry
 ·rw[if_neg q,if_neg q];exact Paired.snoc r ⟨rfl,hb,ry⟩
theorem KT.keeps {H H':Hp} {kvs:List (List Key×V)} {xs:List (List Key×Addr×Value)} (r:KT H kvs xs) (ht:∀b ys,H b=some (.tup ys)->H' b=some (.tup ys)):KT H' kvs xs:=
 Paired.mapP r λ_ _ z=>⟨z.1,ht _ _ z.2.1,z.2.2⟩
section
variable {P:Program} {w:World} {H:Hp} {h:Heap} {a:Addr}
theorem p_n {u:HO} (ok:HOk P w H h) (e:Rd H a u):ObjOk P w H h a u:=e.ok ok
theorem g_U {kvs:List (Key×V)} (ok:HOk P w H h) (e:Rd H a (.dK kvs)):kvs.length<=sizeLine/\(a == sysModules)=false/\∃vs,KV kvs vs/\h.DictOf (a_X P w) a vs:=
 show ObjOk P w H h a (.dK kvs) from p_n ok e
theorem i_S {kvs:List (Key×V)} (ok:HOk P w H h) (e:H a=some (.dK kvs)):kvs.length<=sizeLine/\(a == sysModules)=false/\∃vs,KV kvs vs/\h.DictOf (a_X P w) a vs:=g_U ok (.inl e)
theorem f_m {ks:List Key} (ok:HOk P w H h) (e:H a=some (.tup (ks.map kV))):(tupleKind (a_X P w)).is h ks a:=by
 obtain⟨_,its,r,o,h1,h2,n,h3⟩:=(show ObjOk P w H h a (.tup (ks.map kV)) from ok a _ e);exact⟨o,its.toArray,n,h1,h2,h3,by simpa using f_5 r⟩
theorem g_8 {kvs:List (List Key×V)} (ok:HOk P w H h) (e:Rd H a (.dT kvs)):kvs.length<=sizeLine/\(a == sysModules)=false/\
 ∃xs,KT H kvs xs/\h.DictOfH (tupleKind (a_X P w)) a xs:=by
 obtain⟨z,y,xs,r,o,es,ep,h1,h2,h3,h4,h5⟩:=(show ObjOk P w H h a (.dT kvs) from p_n ok e);refine⟨z,y,xs,r,o,es,ep,h1,h2,h3,h4,λx hx=> ?_, h5⟩
 have all:∀{l:List (List Key×V)} {m:List (List Key×Addr×Value)},KT H l m->∀x∈m,(tupleKind (a_X P w)).is h x.1 x.2.1:=by
  intro l m q;induction q with
  | nil=>intro x hx;exact nomatch hx
  | @cons p q ps qs hq t ih=>
    intro x hx;rcases r_7.mp hx with e | hx
    ·subst e
     exact f_m ok (by rw[<-hq.1];exact hq.2.1)
    ·exact ih x hx
 exact all r x hx
theorem q_r {kvs:List (List Key×V)} (ok:HOk P w H h) (e:H a=some (.dT kvs)):kvs.length<=sizeLine/\(a == sysModules)=false/\
 ∃xs,KT H kvs xs/\h.DictOfH (tupleKind (a_X P w)) a xs:=g_8 ok (.inl e)
end
def DGet (H:Hp) (a:Addr) (y:V) (r:Option V):Prop:=
 (∃kvs k,Rd H a (.dK kvs)/\y=kV k/\r=d_J kvs k)\/∃kvs k b,Rd H a (.dT kvs)/\y= .ref b/\H b=some (.tup (k.map kV))/\r=d_J kvs k
def DPut (H:Hp) (a:Addr) (y v:V) (H':Hp):Prop:=
 (∃kvs k,H a=some (.dK kvs)/\y=kV k/\kvs.length < sizeLine/\H'=upd H a (.dK (d_q kvs k v)))\/
 ∃kvs k b,H a=some (.dT kvs)/\y= .ref b/\H b=some (.tup (k.map kV))/\kvs.length < sizeLine/\H'=upd H a (.dT (d_q kvs k v))
theorem DGet.k {H:Hp} {a:Addr} {kvs:List (Key×V)} {k:Key} (e:H a=some (.dK kvs)):DGet H a (kV k) (d_J kvs k):= .inl ⟨kvs,k,.inl e,rfl,rfl⟩
theorem DPut.k {H:Hp} {a:Addr} {kvs:List (Key×V)} {k:Key} {v:V} (e:H a=some (.dK kvs)) (hl:kvs.length < sizeLine):DPut H a (kV k) v (upd H a (.dK (d_q kvs k v))):= .inl ⟨kvs,k,e,rfl,hl,rfl⟩
section
variable {X:Cx} {pins:List (Addr×Obj)} {σ:St} {H:Hp} {s:Shared} {a:Addr} {y v:V} {u r:Value} {o:Option V} {A:Around} {E:Value->Shared->Prop}
theorem Inv.big (I:Inv X pins σ H s):sysModules < s.heap.objs.size:=by
 have h:mainGlobals < s.heap.objs.size:=(I.mod.glob.keeps I.bk).lt;exact Nat.lt_trans (by decide) h
theorem j_C {Q:Value->Shared->Prop} (hu:A.units+1 < cLine) (I:Inv X pins σ H s) (g:DGet H a y (some v)) (ry:RelV y u) (h:∀w' s',Inv X pins σ H s'->RelV v w'->Q w' s'):
 wpAny (model X.prog X.w) A (getItem (.ref a) u) Q E s:=by
 rcases g with⟨kvs,k,e,ey,l⟩ | ⟨kvs,k,b,e,ey,eb,l⟩
 ·subst ey
  obtain⟨z,hd,vs,rel,dd⟩:=g_U I.hok e;obtain⟨w',hw,rw'⟩:=RelO.some_of (v:=v) (o:=valueAt vs k) (by rw[l];exact rel.val k);exact wpAny_getItem_of (f_O ry) dd.mapOf hw (h w' _ (I.tok _) rw')
 ·subst ey
  cases (show u=Value.ref b from ry);obtain⟨z,hd,xs,rel,dd⟩:=g_8 I.hok e;obtain⟨w',hw,rw'⟩:=RelO.some_of (v:=v) (o:=(atKey xs k).map (·.2)) (by rw[l];exact rel.val k);obtain⟨p,hp,c⟩:=Option.map_eq_some_iff.mp hw;refine wpAny_getItem_heap (tupleKind_room_in1 hu) (f_m I.hok eb) dd hp ?_;rw[c];exact h w' _ (I.tok _) rw'
theorem r_n {Q:Value->Shared->Prop} (hu:A.units+1 < cLine) (I:Inv X pins σ H s) (g:DGet H a y o) (ry:RelV y u) (h:∀s',Inv X pins σ H s'->Q (.bool o.isSome) s'):
 wpAny (model X.prog X.w) A (compareOp .In u (.ref a)) Q E s:=by
 rcases g with⟨kvs,k,e,ey,l⟩ | ⟨kvs,k,b,e,ey,eb,l⟩
 ·subst ey
  obtain⟨z,hd,vs,rel,dd⟩:=g_U I.hok e;refine wpAny_in_of (f_O ry) hd dd.mapOf ?_;rw[<-(rel.val k).isSome_eq,<-l];exact h _ (I.tok _)
 ·subst ey
  cases (show u=Value.ref b from ry);obtain⟨z,hd,xs,rel,dd⟩:=g_8 I.hok e;refine wpAny_in_heap (tupleKind_room_in1 hu) (f_m I.hok eb) hd dd ?_;have q:=(rel.val k).isSome_eq;rw[Option.isSome_map] at q;rw[<-q,<-l];exact h _ (I.tok _)
theorem o_o {Q:Value->Shared->Prop} (hu:A.units+1 < cLine) (I:Inv X pins σ H s) (g:DGet H a y o) (ry:RelV y u) (h:∀s',Inv X pins σ H s'->Q (.bool (!o.isSome)) s'):
 wpAny (model X.prog X.w) A (compareOp .NotIn u (.ref a)) Q E s:=by
 rcases g with⟨kvs,k,e,ey,l⟩ | ⟨kvs,k,b,e,ey,eb,l⟩
 ·subst ey
  obtain⟨z,hd,vs,rel,dd⟩:=g_U I.hok e;refine wpAny_notIn_of (f_O ry) hd dd.mapOf ?_;rw[<-(rel.val k).isSome_eq,<-l];exact h _ (I.tok _)
 ·subst ey
  cases (show u=Value.ref b from ry);obtain⟨z,hd,xs,rel,dd⟩:=g_8 I.hok e;refine wpAny_notIn_heap (tupleKind_room_in1 hu) (f_m I.hok eb) hd dd ?_;have q:=(rel.val k).isSome_eq;rw[Option.isSome_map] at q;rw[<-q,<-l];exact h _ (I.tok _)
theorem e_U {h':Heap} {t':Nat} {ob:HO} (I:Inv X pins σ H s) (mu:Mut (H a)) (hs:Heap.SameBut a s.heap h') (he:∃q,h'.get? a=some q) (new:ObjOk X.prog X.w (upd H a ob) h' a ob):
 Inv X pins σ (upd H a ob) { s with heap:=h',toks:=t' }:=
 I.write (x:=a) (e:=a) mu (.inl rfl) (λb q hb z=>(hs.2 b hb).trans z) he new
theorem g_F {P:Program} {w:World} {H':Hp} {h':Heap} {kvs:List (Key×V)} {vs:List (Key×Value)} (z:kvs.length<=sizeLine) (hd:(a == sysModules)=false) (rel:KV kvs vs) (dd:h'.DictOf (a_X P w) a vs):
 ObjOk P w H' h' a (.dK kvs):=⟨z,hd,vs,rel,dd⟩
theorem j_n {H':Hp} {Q:Unit->Shared->Prop} (hu:A.units+1 < cLine) (I:Inv X pins σ H s) (g:DPut H a y v H') (ry:RelV y u) (rv:RelV v r) (h:∀s',Inv X pins σ H' s'->Q () s'):
 wpAny (model X.prog X.w) A (setItem (.ref a) u r) Q E s:=by
 rcases g with⟨kvs,k,e,ey,l,eH⟩ | ⟨kvs,k,b,e,ey,eb,l,eH⟩
 ·subst ey eH
  obtain⟨z,hd,vs,rel,dd⟩:=i_S I.hok e;have hz:vs.length<=sizeLine:=by rw[<-rel.length];exact z
  have hl:(d_q kvs k v).length<=sizeLine:=by have:=c_3 kvs k v;omega
  refine wpAny_setItem_pairs (hsz:=hz) (f_O ry) dd λh' dd' hs=>h _ ?_;have he:∃q,h'.get? a=some q:=let ⟨q,_,_,hq,_⟩:=dd';⟨q,hq⟩;exact e_U I (by rw[e];exact True.intro) hs he (g_F hl hd (rel.put k rv) dd')
 ·subst ey eH
  cases (show u=Value.ref b from ry);obtain⟨z,hd,xs,rel,dd⟩:=q_r I.hok e;have hz:xs.length<=sizeLine:=by rw[<-Paired.length rel];exact z
  have hl:(d_q kvs k v).length<=sizeLine:=by have:=c_3 kvs k v;omega
  refine wpAny_setItem_heap (hsz:=hz) (tupleKind_room_in1 hu) (f_m I.hok eb) dd λh' dd' hs=>h _ ?_;obtain⟨q,es,ep,hq,h2,h3,h4,_,h5⟩:=dd';refine e_U I (by rw[e];exact True.intro) hs ⟨q,hq⟩ ⟨hl,hd,_,(rel.put k eb rv).keeps λc ys ec=> ?_, q,es,ep,hq,h2,h3,h4,h5⟩;rw[a_i (f_Q ec e (λz=>nomatch z))];exact ec
end
section
variable {X:Cx} {pins:List (Addr×Obj)} {σ:St} {H:Hp} {s:Shared} {a:Addr} {kvs:List (Key×V)} {k:Key} {u:Value} {A:Around} {E:Value->Shared->Prop}
theorem o_z {Q:Unit->Shared->Prop} (I:Inv X pins σ H s) (e:H a=some (.dK kvs)) (ry:RelV (kV k) u) (l:(d_J kvs k).isSome=true) (h:∀s',Inv X pins σ (upd H a (.dK (d_M kvs k))) s'->Q () s'):
 wpAny (model X.prog X.w) A (delItem (.ref a) u) Q E s:=by
 obtain⟨z,hd,vs,rel,dd⟩:=i_S I.hok e
 refine wpAny_delItem_slot dd.typeIs (by decide) PySem.F.slot_dict_delitem
  (call_meetsIn PySem.F.slot_dict_delitem dd.typeIs PySem.F.entry_dict_delitem (PySem.F.args_dict_delitem_2 _ _) (meets_dict_delitem_pairs (a_X X.prog X.w) a (f_O ry)) ⟨vs,dd,by rw[<-rel.length];exact z,by rw[<-(rel.val k).isSome_eq];exact l,λh' dd' hs=>h _ ?_⟩)
 have he:∃q,h'.get? a=some q:=let ⟨q,_,_,hq,_⟩:=dd';⟨q,hq⟩;exact e_U I (by rw[e];exact True.intro) hs he (g_F (s_h (h_6 kvs k) z) hd (rel.drop k) dd')
theorem q_D {v:V} {more:List Value} {Q:Value->Shared->Prop} (I:Inv X pins σ H s) (e:H a=some (.dK kvs)) (ry:RelV (kV k) u) (l:d_J kvs k=some v) (hm:more= []\/∃x,more= [x])
 (h:∀w' s',Inv X pins σ (upd H a (.dK (d_M kvs k))) s'->RelV v w'->Q w' s'):wpAny (model X.prog X.w) A (call (.builtin "dict.pop") (.ref a::u::more)) Q E s:=by
 obtain⟨z,hd,vs,rel,dd⟩:=i_S I.hok e;obtain⟨w',hw,rw'⟩:=RelO.some_of (v:=v) (o:=valueAt vs k) (by rw[<-l];exact rel.val k)
 have hp:(keyPart u).isSome=true:=by
  cases k with
  | inl i=>obtain⟨t,q⟩:=(show ∃t,u=Value.int i t from ry);subst q;rfl
  | inr x=>obtain⟨t,q⟩:=(show ∃t,u=Value.str x t from ry);subst q;rfl
 have ha:argsOk "dict.pop" ⟨.ref a::u::more, []⟩:=by
  rcases hm with q | ⟨x,q⟩
  ·subst q;exact PySem.F.args_dict_pop_2 _ _
  ·subst q;exact PySem.F.args_dict_pop_3 _ _ _
 refine call_meetsIn PySem.F.slot_dict_pop dd.typeIs PySem.F.entry_dict_pop ha (meets_dict_pop_there (a_X X.prog X.w) a (f_O ry) more hm hp)
  ⟨vs,w',dd,by rw[<-rel.length];exact z,hw,λh' dd' hs=>h w' _ ?_ rw'⟩
 have he:∃q,h'.get? a=some q:=let ⟨q,_,_,hq,_⟩:=dd';⟨q,hq⟩;exact e_U I (by rw[e];exact True.intro) hs he (g_F (s_h (h_6 kvs k) z) hd (rel.drop k) dd')
theorem q_l {Q:Value->Shared->Prop} (I:Inv X pins σ H s) (e:Rd H a (.dK kvs)) (h:∀t s',Inv X pins σ H s'->Q (.int kvs.length t) s'):wpAny (model X.prog X.w) A (call (.builtin "len") [.ref a]) Q E s:=by
 obtain⟨z,hd,vs,rel,dd⟩:=g_U I.hok e;refine call_len_dict hd dd (by rw[<-rel.length];rw[sizeLine_eq] at z;omega) ?_;rw[<-rel.length];exact h _ _ (I.tok _)
end
def r_c (i:Expr):Prop:=∀ov iv,subscripted i false ov iv=operate [ov,iv] (getItem ov iv)
theorem n_w {prog:Program} {w:World} {A:Around} {E:Value->Shared->Prop} {s:Shared} {env:Env} {value slice:Expr} {pos:Pos} {T id:String} {Q:Value->Shared->Prop}
 (hl:typeLookup (.type T) "__getitem__"=pure (some (.builtin id))) (hs:r_c slice)
 (h:wpAny (model prog w) A (eval value env) (λo s₁=>wpAny (model prog w) A (eval slice env) (λi s₂=>s₂.TypeIs o T/\wpAny (model prog w) A (getItem o i) Q E s₂) E s₁) E s):
 wpAny (model prog w) A (eval (.Subscript value slice pos) env) Q E s:=by
 refine Subscript_ (wpAny_mono h (λo s₁ h₁=>wpAny_mono h₁ (λi s₂ h₂=> ?_) λ_ _ x=>x) λ_ _ x=>x);obtain⟨hT,h₂⟩:=h₂;unfold subscriptTail;refine wpAny_bind ?_;rw[getitemInPython_of_ne hT.not_modules];refine wpAny_bind (wpAny_specialOf hT hl ?_)
 have fin:wpAny (model prog w) A (subscripted slice false o i) (λr s₃=>wpAny (model prog w) A (letTemporaryGo value o r >>= λ_=>pure r) Q E s₃) E s₂:=by
  rw[hs o i];exact wpAny_operating (wpAny_mono h₂ (λr s₃ h₃=>wpAny_bind (wpAny_letTemporaryGo (wpAny_pure h₃))) λ_ _ x=>x)
 first
  | exact wpAny_pure (wpAny_bind fin)
  | exact wpAny_bind (wpAny_pure (wpAny_bind fin))
  | exact wpAny_bind fin
theorem h_u {X:Cx} {pins:List (Addr×Obj)} {σ:St} {H:Hp} {s:Shared} {a:Addr} {y:V} {o:Option V} (I:Inv X pins σ H s) (g:DGet H a y o):s.TypeIs (.ref a) "dict":=by
 rcases g with⟨kvs,k,e,_,_⟩ | ⟨kvs,k,b,e,_,_,_⟩
 ·obtain⟨_,_,vs,_,dd⟩:=g_U I.hok e
  exact dd.typeIs
 ·obtain⟨_,_,xs,_,dd⟩:=g_8 I.hok e
  exact dd.typeIs
def q_e (td ty:TE):TE:=λσ H Q=>td σ H λx H1=>ty σ H1 λy H2=>∃a v,x= .ref a/\DGet H2 a y (some v)/\Q v H2
def r_L (ty td:TE):TE:=λσ H Q=>ty σ H λy H1=>td σ H1 λx H2=>∃a o,x= .ref a/\DGet H2 a y o/\Q (.bl o.isSome) H2
def n_n (ty td:TE):TE:=λσ H Q=>ty σ H λy H1=>td σ H1 λx H2=>∃a o,x= .ref a/\DGet H2 a y o/\Q (.bl (!o.isSome)) H2
def p_Z (td ty tv:TE):TS:=λD σ H=>tv σ H λv H1=>td σ H1 λx H2=>ty σ H2 λy H3=>∃a H4,x= .ref a/\DPut H3 a y v H4/\D.nx σ H4
section
variable {X:Cx} {o i e value:Expr} {pos pos' tpos:Pos} {td ty tv:TE}
theorem b_o (hu:X.A.units+1 < cLine) (ho:PE X o td) (hi:PE X i ty) (hs:r_c i):PE X (.Subscript o i pos) (q_e td ty):=by
 intro pins s σ H Q I h;refine n_w PySem.F.slot_dict_getitem.lookup hs (thn (ho pins s σ H _ I h) λu s1 ⟨x,H1,I1,rx,q1⟩=>thn (hi pins s1 σ H1 _ I1 q1) λiv s2 ⟨y,H2,I2,ry,a,v,ex,g,q2⟩=> ?_);subst ex;obtain rfl:u=Value.ref a:=rx;exact⟨h_u I2 g,j_C hu I2 g ry λw' s3 I3 rw'=>⟨v,H2,I3,rw',q2⟩⟩
theorem m_c (hu:X.A.units+1 < cLine) (hi:PE X i ty) (ho:PE X o td):PC X .In i o (r_L ty td):=by
 intro pins s σ H Q I h;refine thn (hi pins s σ H _ I h) λiv s1 ⟨y,H1,I1,ry,q1⟩=>thn (ho pins s1 σ H1 _ I1 q1) λu s2 ⟨x,H2,I2,rx,a,ov,ex,g,q2⟩=> ?_;subst ex;obtain rfl:u=Value.ref a:=rx;exact r_n hu I2 g ry λs3 I3=>⟨.bl ov.isSome,H2,I3,rfl,q2⟩
theorem d_v (hu:X.A.units+1 < cLine) (hi:PE X i ty) (ho:PE X o td):PC X .NotIn i o (n_n ty td):=by
 intro pins s σ H Q I h;refine thn (hi pins s σ H _ I h) λiv s1 ⟨y,H1,I1,ry,q1⟩=>thn (ho pins s1 σ H1 _ I1 q1) λu s2 ⟨x,H2,I2,rx,a,ov,ex,g,q2⟩=> ?_;subst ex;obtain rfl:u=Value.ref a:=rx;exact o_o hu I2 g ry λs3 I3=>⟨.bl (!ov.isSome),H2,I3,rfl,q2⟩
theorem e_q (hu:X.A.units+1 < cLine) (ho:PE X o td) (hi:PE X i ty) (hv:PE X value tv) (hs:swapsWith value (some (.Subscript o i pos')) pos.line X.env=pure false):
 PS X (.Assign [.Subscript o i pos'] value pos) (p_Z td ty tv):=by
 intro pins s σ H D I h;refine wpAny_Assign_Subscript (thn (hv pins s σ H _ I h) λr s1 ⟨v,H1,I1,rv,q1⟩=>thn (ho pins s1 σ H1 _ I1 q1) λu s2 ⟨x,H2,I2,rx,q2⟩=>thn (hi pins s2 σ H2 _ I2 q2) λiv s3 ⟨y,H3,I3,ry,a,H4,ex,g,q3⟩=> ?_) hs;subst ex;obtain rfl:u=Value.ref a:=rx;exact j_n hu I3 g ry rv λs4 I4=>⟨σ,H4,I4,q3⟩
end
theorem h_W {P:Program} {w:World} {H:Hp} (h:Heap) (hb:sysModules < h.objs.size):ObjOk P w H (h.push { cls:= .type "dict",data:= .dict #[] }) h.objs.size (.dK []):=
 ⟨s_o _,beq_eq_false_iff_ne.mpr (Ne.symm (s_k hb)), [],.nil,Heap.DictOf.new h⟩
def o_0:TE:=λ_ H Q=>∀p,H p=none->Q (.ref p) (upd H p (.dK []))
section
variable {X:Cx} {pos:Pos}
theorem h_R:PE X (.Dict [] [] pos) o_0:=λpins s σ H Q I h=>
 wpAny_Dict_empty ⟨.ref s.heap.objs.size,_,I.laid (a:=s.heap.objs.size) (o:= .dK []) (t':=s.toks) (λ_ _ q=>Heap.get?_push_of_some _ q) (r_5 _) (h_W s.heap I.big),rfl,h _ (I.hok.fresh (r_5 _))⟩
end
def k_V:List (TE×TE)->St->Hp->(List (V×V)->Hp->Prop)->Prop
 | [],_,H,Q=>Q [] H
 | (tk,tv)::r,σ,H,Q=>tk σ H λx H1=>tv σ H1 λy H2=>k_V r σ H2 λps H3=>Q ((x,y)::ps) H3
abbrev VV:List (V×V)->List (Value×Value)->Prop:=Paired λp q=>RelV p.1 q.1/\RelV p.2 q.2
def PPs (X:Cx) (pos:Pos) (keys:List (Option Expr)) (values:List Expr) (trs:List (TE×TE)):Prop:=
 ∀(pins:List (Addr×Obj)) (s:Shared) (σ:St) (H:Hp) (Q:List (V×V)->Hp->Prop),Inv X pins σ H s->k_V trs σ H Q->
  wpAny (model X.prog X.w) X.A (evalPairs (pairTrees keys values X.env pos)) (λvs s'=>∃ps H',Inv X pins σ H' s'/\VV ps vs/\Q ps H') X.xe s
theorem n_Z {X:Cx} {pos:Pos}:PPs X pos [] [] []:=λpins s σ H Q I h=>pairTrees_nil_walk ⟨[],H,I,.nil,h⟩
theorem f_J {X:Cx} {pos:Pos} {k v:Expr} {ks:List (Option Expr)} {vs:List Expr} {tk tv:TE} {trs:List (TE×TE)} (hk:PE X k tk) (hv:PE X v tv) (hr:PPs X pos ks vs trs):
 PPs X pos (some k::ks) (v::vs) ((tk,tv)::trs):=λpins s σ H Q I h=>
 pairTrees_cons_walk (thn (hk pins s σ H _ I h) λu s1 ⟨x,H1,I1,rx,q1⟩=>thn (hv pins s1 σ H1 _ I1 q1) λw2 s2 ⟨y,H2,I2,ry,q2⟩=>
  thn (hr pins s2 σ H2 _ I2 q2) λws s3 ⟨ps,H3,I3,rel,q3⟩=>⟨(x,y)::ps,H3,I3,.cons ⟨rx,ry⟩ rel,q3⟩)
def e_C (kvs more:List (Key×V)):List (Key×V):=more.foldl (λacc kv=>d_q acc kv.1 kv.2) kvs
theorem KV.merge:∀{more:List (Key×V)} {rs:List (Key×Value)} {kvs:List (Key×V)} {vs:List (Key×Value)},KV more rs->KV kvs vs->KV (e_C kvs more) (merged vs rs):=by
 intro more rs kvs vs r;unfold KV at r;induction r generalizing kvs vs with
 | nil=>intro q;exact q
 | @cons p q ps qs h t ih=>
   intro r0
   have e:KV (d_q kvs p.1 p.2) (stored vs q.1 q.2):=by
    have:=r0.put p.1 h.2;rw[<-h.1];exact this
   exact ih e
theorem d_r:∀(more kvs:List (Key×V)),(e_C kvs more).length<=kvs.length+more.length
 | [],kvs=>by show kvs.length<=kvs.length+0;omega
 | p::r,kvs=>by
   have h1:=d_r r (d_q kvs p.1 p.2);have h2:=c_3 kvs p.1 p.2;show (e_C (d_q kvs p.1 p.2) r).length<=_;rw[r_2];omega
theorem f_f {P:Program} {w:World}:∀{kvs:List (Key×V)} {ws:List (Value×Value)},VV (kvs.map λkv=>(kV kv.1,kv.2)) ws->∃rs,Carries (a_X P w) ws rs/\KV kvs rs
 | [],_,r=>by rw[List.map_nil] at r;cases r;exact⟨[],True.intro,.nil⟩
 | p::kvs,_,r=>by
   rw[s_b] at r;cases r with
   | @cons a b as bs h t=>
     obtain⟨rs,c,q⟩:=f_f (P:=P) (w:=w) t;obtain⟨b1,b2⟩:=b;exact⟨(p.1,b2)::rs,⟨f_O h.1,rfl,c⟩,.cons ⟨rfl,h.2⟩ q⟩
def q_O (trs:List (TE×TE)):TE:=λσ H Q=>∀p,H p=none->k_V trs σ (upd H p (.dK [])) λps H2=>H2 p=some (.dK [])/\∃kvs:List (Key×V),ps=kvs.map (λkv=>(kV kv.1,kv.2))/\kvs.length<=15/\Q (.ref p) (upd H2 p (.dK (e_C [] kvs)))
theorem n_L {X:Cx} {pos:Pos} {keys:List (Option Expr)} {values:List Expr} {trs:List (TE×TE)} (h:PPs X pos keys values trs) (hall:keys.all (·.isSome)=true) (hl:keys.length=values.length) (h0:keys≠ [])
 (h15:keys.length<=15):PE X (.Dict keys values pos) (q_O trs):=by
 intro pins s σ H Q I q;have hn:=I.hok.fresh (r_5 s.heap.objs.size);have I1:=I.laid (a:=s.heap.objs.size) (o:= .dK []) (h':=s.heap.push { cls:= .type "dict",data:= .dict #[] }) (t':=s.toks) (λ_ _ q=>Heap.get?_push_of_some _ q) (r_5 _) (h_W s.heap I.big);refine wpAny_Dict_walk (knd:=a_X X.prog X.w) hall hl h0 h15 (thn (h pins _ σ _ _ I1 (q _ hn)) λws s2 ⟨ps,H2,I2,rel,e,kvs,ep,lk,q2⟩=> ?_);subst ep;obtain⟨rs,c,rk⟩:=f_f (P:=X.prog) (w:=X.w) rel;obtain⟨z,hd,b,r0,dd⟩:=i_S I2.hok e;cases r0;refine⟨rs,c,dd,λh' dd' hs=>⟨.ref s.heap.objs.size,_,?_, rfl,q2⟩⟩
 have hz:(e_C [] kvs).length<=sizeLine:=by
  have h1:=d_r kvs [];rw[s_w] at h1;rw[sizeLine_eq];omega
 have he:∃q,h'.get? s.heap.objs.size=some q:=let ⟨q,_,_,hq,_⟩:=dd';⟨q,hq⟩;exact e_U I2 (by rw[e];exact True.intro) hs he (g_F hz hd (rk.merge .nil) dd')
structure M1 (X:Cx) (o:Expr) (m:Str) (apos:Pos) (e:Expr) (cpos:Pos):Prop where
 base:attributeBase o m X.env (eval o X.env)=eval o X.env
 few:((backTo cpos (starEach [e] X.env)).all (λx=> !x.1)&&(backToKw cpos (keywordEach [] X.env)).all (λx=>x.1.isSome)
  &&decide (([e]:List Expr).length+([]:List Keyword).length+(if ([]:List Keyword).isEmpty then 0 else 1) < 30))=true
 line:(apos.endLine == cpos.line)=true
 trees:backTo cpos (starEach [e] X.env)= [(false,eval e X.env)]
structure M2 (X:Cx) (o:Expr) (m:Str) (apos:Pos) (e f:Expr) (cpos:Pos):Prop where
 base:attributeBase o m X.env (eval o X.env)=eval o X.env
 few:((backTo cpos (starEach [e,f] X.env)).all (λx=> !x.1)&&(backToKw cpos (keywordEach [] X.env)).all (λx=>x.1.isSome)
  &&decide (([e,f]:List Expr).length+([]:List Keyword).length+(if ([]:List Keyword).isEmpty then 0 else 1) < 30))=true
 line:(apos.endLine == cpos.line)=true
 trees:backTo cpos (starEach [e,f] X.env)= [(false,eval e X.env),(false,eval f X.env)]
def IsD (H:Hp) (a:Addr):Prop:=(∃kvs,Rd H a (.dK kvs))\/∃kvs,Rd H a (.dT kvs)
theorem m_C {X:Cx} {pins:List (Addr×Obj)} {σ:St} {H:Hp} {s:Shared} {a:Addr} (I:Inv X pins σ H s) (d:IsD H a):
 s.TypeIs (.ref a) "dict"/\(∀b,Value.ref a= .ref b->∃ob,s.heap.get? b=some ob/\ob.dict=none)/\(a == sysModules)=false:=by
 rcases d with⟨kvs,e⟩ | ⟨kvs,e⟩
 ·obtain⟨_,hd,vs,_,dd⟩:=g_U I.hok e
  refine⟨dd.typeIs,λb q=> ?_, hd⟩;cases q;obtain⟨ob,_,_,h1,h2,_⟩:=dd;exact⟨ob,h1,h2.2.1⟩
 ·obtain⟨_,hd,xs,_,dd⟩:=g_8 I.hok e
  refine⟨dd.typeIs,λb q=> ?_, hd⟩;cases q;obtain⟨ob,_,_,h1,h2,_⟩:=dd;exact⟨ob,h1,h2.2.1⟩
section
variable {X:Cx} {pins:List (Addr×Obj)} {σ:St} {H:Hp} {s:Shared} {a:Addr} {y d:V} {u r:Value} {o:Option V} {A:Around} {E:Value->Shared->Prop}
theorem o_H {Q:Value->Shared->Prop} (hu:A.units+1 < cLine) (I:Inv X pins σ H s) (g:DGet H a y o) (ry:RelV y u) (rd:RelV d r) (h:∀w' s',Inv X pins σ H s'->RelV (o.getD d) w'->Q w' s'):
 wpAny (model X.prog X.w) A (call (.builtin "dict.get") [.ref a,u,r]) Q E s:=by
 rcases g with⟨kvs,k,e,ey,l⟩ | ⟨kvs,k,b,e,ey,eb,l⟩
 ·subst ey
  obtain⟨z,hd,vs,rel,dd⟩:=g_U I.hok e;refine call_meetsIn PySem.F.slot_dict_get dd.typeIs PySem.F.entry_dict_get (PySem.F.args_dict_get_3 _ _ _) (meets_dict_get_default (a_X X.prog X.w) a (f_O ry) hd r) ⟨_,dd.mapOf,h _ _ (I.tok _) ?_⟩;rw[l];exact (rel.val k).getD rd
 ·subst ey
  cases (show u=Value.ref b from ry);obtain⟨z,hd,xs,rel,dd⟩:=g_8 I.hok e;refine call_meetsIn PySem.F.slot_dict_get dd.typeIs PySem.F.entry_dict_get (PySem.F.args_dict_get_3 _ _ _) (meetsH_dict_get_default (tupleKind (a_X X.prog X.w)) a b hd r) ⟨tupleKind_room_in1 hu,k,xs,f_m I.hok eb,dd,h _ _ (I.tok _) ?_⟩;rw[l];exact (rel.val k).getD rd
end
def p_D (td ty tx:TE):TE:=λσ H Q=>td σ H λx H1=>∃a,x= .ref a/\IsD H1 a/\ty σ H1 λy H2=>tx σ H2 λz H3=>∃o,DGet H3 a y o/\Q (o.getD z) H3
def p_i (td ty:TE):TE:=λσ H Q=>td σ H λx H1=>∃a,x= .ref a/\IsD H1 a/\ty σ H1 λy H2=>∃kvs k v,H2 a=some (.dK kvs)/\y=kV k/\d_J kvs k=some v/\Q v (upd H2 a (.dK (d_M kvs k)))
section
variable {X:Cx} {o e f:Expr} {apos cpos:Pos} {td ty tx:TE}
theorem l_H (hu:X.A.units+1 < cLine) (ho:PE X o td) (he:PE X e ty) (hf:PE X f tx) (m:M2 X o "get" apos e f cpos):PE X (.Call (.Attribute o "get" apos) [e,f] [] cpos) (p_D td ty tx):=by
 intro pins s σ H Q I h;refine wpAny_Call_method m.base m.few m.line PySem.F.plainAttrs_dict PySem.F.slot_dict_get PySem.F.type_dict_get (thn (ho pins s σ H _ I h) λu s1 ⟨x,H1,I1,rx,a,ex,d,q1⟩=> ?_);subst ex;obtain rfl:u=Value.ref a:=rx;obtain⟨t1,t2,_⟩:=m_C I1 d;refine⟨t1,t2,?_⟩;rw[m.trees]
 refine Calls.callWith_builtin rfl (Calls.evalArgs_plain (Calls.spliced_cons (thn (he pins s1 σ H1 _ I1 q1) λiv s2 ⟨y,H2,I2,ry,q2⟩=>
  Calls.spliced_cons (thn (hf pins s2 σ H2 _ I2 q2) λfv s3 ⟨z,H3,I3,rz,ov,g,q3⟩=>Calls.spliced_nil ?_))))
 exact o_H hu I3 g ry rz λw' s4 I4 rw'=>⟨_,H3,I4,rw',q3⟩
theorem h_Q (ho:PE X o td) (he:PE X e ty) (m:M1 X o "pop" apos e cpos):PE X (.Call (.Attribute o "pop" apos) [e] [] cpos) (p_i td ty):=by
 intro pins s σ H Q I h;refine wpAny_Call_method m.base m.few m.line PySem.F.plainAttrs_dict PySem.F.slot_dict_pop PySem.F.type_dict_pop (thn (ho pins s σ H _ I h) λu s1 ⟨x,H1,I1,rx,a,ex,d,q1⟩=> ?_);subst ex;obtain rfl:u=Value.ref a:=rx;obtain⟨t1,t2,_⟩:=m_C I1 d;refine⟨t1,t2,?_⟩;rw[m.trees];refine Calls.callWith_builtin rfl (Calls.evalArgs_plain (Calls.spliced_cons (thn (he pins s1 σ H1 _ I1 q1) λiv s2 ⟨y,H2,I2,ry,kvs,k,v,ea,ey,l,q2⟩=>Calls.spliced_nil ?_)));subst ey;exact q_D I2 ea ry l (.inl rfl) λw' s3 I3 rw'=>⟨v,_,I3,rw',q2⟩
end
section
variable {X:Cx} {pins:List (Addr×Obj)} {σ:St} {H:Hp} {s:Shared} {a:Addr} {kvs:List (Key×V)} {A:Around} {E:Value->Shared->Prop}
end
section
variable {X:Cx} {pins:List (Addr×Obj)} {σ:St} {H:Hp} {s:Shared} {a:Addr} {y:V} {u:Value} {A:Around} {E:Value->Shared->Prop}
end
end L2
namespace Att
open PySem PySem.W PySem.Calls PyProof.Rows
theorem e_K {P:Params} {h:Heap}:∀(ns:List Int) (vs:List Value),WellAll P h vs (ns.map WData.int)->IntsAre vs ns:=by
 intro ns;induction ns with
 | nil=>
   intro vs w;rw[List.map_nil] at w;cases w;exact .nil
 | cons n ns ih=>
   intro vs w;rw[s_b] at w;cases w with
   | cons a b=>
     cases a;exact .cons _ _ (ih _ b)
theorem j_K {l:OpenLaw} {n:Nat} (hn:l.most=some n) {P:Params} {h:Heap} {args:List WData} {vals:List Value}
 (hpre:l.row.toRowW.claim.pre args=true) (hwl:WellAll P h vals args):
 ∃a vs ns,vals= [Value.ref a]/\args= [WData.list (ns.map WData.int)]/\h.get? a=some { cls:= .type "list",data:= .seq vs.toArray }/\IntsAre vs ns/\ns.length<=n:=by
 have e:WShape.hasAll [] args [.list .int]=true:=(pre_splitW hpre).1;have hc:l.pre.holds [] { args:=args }=true:=(pre_splitW hpre).2;obtain⟨d,r,rfl,h1,h2⟩:=hasAllW_cons e;obtain rfl:=hasAllW_nil h2;obtain⟨xs,rfl,h3⟩:=hasW_list h1;obtain⟨ns,rfl⟩:=items_int h3
 have c:ns.length<=n:=by
  unfold OpenLaw.pre at hc
  have h4:(WTm.not (.lt (.lit (.int (n:Int))) (.len (.arg 0)))).holds [] { args:= [.list (ns.map .int)] }=true:=by
   have h4:=(holds_andW hc).1;rw[hn] at h4;exact h4
  have h5:=condW_of h4 (w_not (w_lt w_lit (w_len_list (w_arg rfl))));rw[r_W] at h5;refine Nat.le_of_not_lt λq=> ?_;have q':(n:Int) < ((ns.length:Nat):Int):=by omega
  first
   | (rw[s_C q'] at h5;exact absurd h5 (by decide))
   | (simp at h5;omega)
 cases hwl with
 | cons w1 w2=>
   cases w2;cases w1 with
   | list ho b=>exact⟨_,_,ns,rfl,rfl,ho,e_K ns _ b,c⟩
theorem k_f (l:OpenLaw) (args:List WData):l.row.toRowW.claim.post args (.bool true) args=true:=
 postW_of (r:=l.row.toRowW) (X:=(true == true))
  (show WShape.has [] (.bool true) .bool=true by first | rfl | decide | simp[WShape.has,WShape.arms,WShape.armsAll])
  (show (WTm.eq .res (.lit (.bool true))).value [] { args:=args,res:=some (.bool true),after:=args }=some (.bool (true == true)) from w_eq_bool (w_res rfl) w_lit) rfl
theorem attach_call {l:OpenLaw} {n:Nat} {q:Program} {loose:List Str} {XP:(Str->Option Value)->Heap->Prop} {YP:World->Heap->Prop} {d:DefRec}
 (hn:l.most=some n) (hdf:d.params.defaults= [])
 (call:∀(w:World) (s₀ s₁:Shared) (mg mb:Str→Option Value) (fa:Addr) (o:Obj) (pm cd doc:Value) (a:Addr) (vs:List Value) (ns:List Int),
   Ground q loose [] XP w s₀ mg mb s₁.heap->YP w s₁.heap->
   s₁.heap.get? fa=some o->o.data= .func (docDef d.name d.params d.body d.scope pm cd doc)->s₁.heap.CodeRec cd d.name->mg d.name=some (.ref fa)->
   s₁.heap.get? a=some { cls:= .type "list",data:= .seq vs.toArray }->IntsAre vs ns->ns.length<=n->s₁.gens= #[]->
   codeAny (model l.prog w) callerA (.call (.ref fa) ⟨[.ref a], []⟩) (λr s'=>r= .ok (.ret (.bool true))/\OldK s₁.heap s'.heap/\s'.os=s₁.os/\AllBare s'.gens) s₁):
 WalkO q loose XP YP l.row.toRowW d [] (λf vs=>PySem.call f vs):=by
 intro w s₀ s₁ mg mb G Y fa o pm cd doc dV kV ho hd g hD h hg args vals as e j k i m;obtain rfl:dV= .none:=Dflts.none hD hdf;obtain rfl:kV= .none:=Dflts.noKw hD;obtain⟨a,vs,ns,rfl,rfl,c,hints,b⟩:=j_K hn e i;refine enter_call (codeAny_mono (call w s₀ s₁ mg mb fa o pm cd doc a vs ns G Y ho (fd_plain hd) g h c hints b hg) λr s' hq=> ?_);obtain⟨rfl,h2,h3,h4⟩:=hq;exact⟨.inl ⟨.bool true,.bool true, [],rfl,λ_=>rfl,.bool true,k_f l _,λ_=>⟨List.Pairwise.nil,λ_ hm=>(nomatch hm)⟩⟩,h2,h3,h4⟩
section
variable {prog:Program} {w:World} {A:Around} {E:Value->Shared->Prop} {s:Shared} {K:Frag}
end
end Att
namespace L2
open PySem PySem.Spec PyProof.Rows
theorem f_2:∀{vs:List Value} {ns:List Int},IntsAre vs ns->Vals (ns.map V.int) vs
 | _,_,.nil=> .nil
 | _,_,.cons n t h=> .cons ⟨t,rfl⟩ (f_2 h)
def q_F (H:Hp):Prop:=∀b,H b=none\/∃o xs,H b=some (.frz o (.lst xs))
theorem l_8 {P:Program} {w:World} {K:PySem.W.Frag} {mg mb:Str->Option Value} {CX:CXT} {k:Nat} {fa a:Addr} {fd:FuncData} {x:Str} {sp:Sp} {s₁:Shared} {vs:List Value} {ns:List Int}
 (KX:K.In s₁.heap) (hns:s₁.heap.Ns mainGlobals mg) (hb:s₁.heap.Ns builtinsNs mb) (hbb:∀x:Str,x≠"__name__"->mb x=bootBuiltins x) (hlim:s₁.heap.NoLimit) (hg:s₁.gens= #[])
 (ha:s₁.heap.get? a=some { cls:= .type "list",data:= .seq vs.toArray }) (hi:IntsAre vs ns) (hl:ns.length<=sizeLine) (hr:Room k callerA)
 (F:∀base:Heap,K.In base->base.Ns mainGlobals mg->FnOk P w K mg base CX k fa fd [x] sp) (hbind:∀(s:Shared) (u:Value),BindsTo s fd ⟨[u], []⟩ [(x,u)])
 (hsp:∀H:Hp,q_F H->SqL K H a (ns.map V.int)->sp [.ref a] H (λv _=>v= .bl true) λ_ _ _=>False)
 (hCX:∀H e s',CX [] H s₁ (λ_ _ _=>False) e s'->False):
 codeAny (model P w) callerA (.call (.ref fa) ⟨[.ref a], []⟩) (λr s'=>r= .ok (.ret (.bool true))/\OldK s₁.heap s'.heap/\s'.os=s₁.os/\AllBare s'.gens) s₁:=by
 have rv:=f_2 hi;have lenV:=hi.length
 -- from an abstract heap in which nothing but the script may be tracked
 have core:∀H:Hp,q_F H->SqL K H a (ns.map V.int)->HOk P w H s₁.heap->(∀b,H b≠none->b=a)->(H a≠none->K.lookup a=none)->
  codeAny (model P w) callerA (.call (.ref fa) ⟨[.ref a], []⟩) (λr s'=>r= .ok (.ret (.bool true))/\OldK s₁.heap s'.heap/\s'.os=s₁.os/\AllBare s'.gens) s₁:=by
  intro H hO hS f hA hK;have base_of:∀{b:Addr} {o:Obj},s₁.heap.get? b=some o->H b=none->(l_T s₁.heap H).get? b=some o:=λe n=>l_9 e n
  have noA:∀{b:Addr} {o:Obj} {es:Array DictEntry} {ep:Nat},s₁.heap.get? b=some o->o.data= .dict es ep->H b=none:=λ{b o es ep} e d=>by
   cases q:H b with
   | none=>rfl
   | some u=>
     have e':b=a:=hA b (by rw[q];simp);subst e';rw[ha] at e;cases e;have d':Data.seq vs.toArray _=Data.dict es ep:=d;cases d'
  have nsK:∀{b:Addr} {m:Str->Option Value},s₁.heap.Ns b m->(l_T s₁.heap H).Ns b m:=λ{b m} ⟨o,es,ep,e,d,r⟩=>⟨o,es,ep,base_of e (noA e d),d,r⟩
  have c:K.In (l_T s₁.heap H):=λb o e=>base_of (KX b o e) (by
   cases q:H b with
   | none=>rfl
   | some u=>
     have e':b=a:=hA b (by rw[q];simp);subst e';rw[hK (by rw[q];simp)] at e;cases e)
  have hM:Mod K mg (l_T s₁.heap H):=⟨c,nsK hns,⟨mb,nsK hb,hbb⟩,let ⟨mc,h1,h2⟩:=hlim;⟨mc,nsK h1,h2⟩⟩;have e0:Env0 P w K mg (l_T s₁.heap H) callerA [] s₁ H:=⟨rfl,hM,λb o e=>n_A e,Nat.le_of_eq (j_1 _ _),trivial,λb hb=>absurd (show b∈([]:List Addr) from hb) (by simp),f,.of_eq hg⟩;refine codeAny_mono ((F _ c (nsK hns)).run callerA [] s₁ H ⟨[.ref a], []⟩ [.ref a] [.ref a] _ _ hr e0 (hbind s₁ (.ref a)) (.cons rfl .nil) (hsp H hO hS)) λr s' h=> ?_;cases r with
  | error e=>exact (hCX H e s' h).elim
  | ok fl=>
    cases fl with
    | next=>exact False.elim h
    | brk=>exact False.elim h
    | cont=>exact False.elim h
    | ret u=>
      obtain⟨v,H',os,bare,un,g,r',q⟩:=h;have q':v= .bl true:=q;subst q';obtain rfl:u=Value.bool true:=r';refine⟨rfl,OldK.of_keep λb o e=> ?_, os,bare⟩;cases q:H b with
      | none=>exact un.keep b o e q (by intro z;exact absurd (show b∈([]:List Addr) from z) (by simp)) (by simp)
      | some u=>
        rcases hO b with z | ⟨ob,xs,z⟩
        ·rw[q] at z;cases z
        ·have z2:=un.frzs b ob _ z
         obtain⟨e1,_⟩:=f b _ z;obtain⟨e2,_⟩:=g b _ z2;rw[e] at e1;cases e1;exact e2
 cases hk:K.lookup a with
 | some o=>
   -- the script is one of the module's own objects
   have e:=KX a o hk;rw[ha] at e;cases e;refine core (λ_=>none) (λ_=> .inl rfl) (.inr ⟨_,vs.toArray,_,hk,rfl,rfl,rfl,by rw[r_6,lenV];exact hl,by simpa using rv⟩) (λb u z=>by have z':(none:Option HO)=some u:=z;cases z') (λb z=>absurd rfl z) λz=>absurd rfl z
 | none=>
   refine core (λb=>if b=a then some (.frz { cls:= .type "list",data:= .seq vs.toArray } (.lst (ns.map V.int))) else none) (λb=> ?_) (.inl (.inr ⟨{ cls:= .type "list",data:= .seq vs.toArray },if_pos rfl⟩)) (λb u z=> ?_) (λb z=> ?_) λ_=>hk
   ·by_cases hb:b=a
    ·exact .inr ⟨_,_,if_pos hb⟩
    ·exact .inl (if_neg hb)
   ·by_cases hb:b=a
    ·have z':=(if_pos hb).symm.trans z
     cases z';subst hb;exact⟨ha,by rw[r_W];exact hl,vs,_,rv,ha⟩
    ·have z':=(if_neg hb).symm.trans z
     cases z'
   ·by_cases hb:b=a
    ·exact hb
    ·exact absurd (if_neg hb) z
abbrev KOf {K:PySem.W.Frag} {h:Heap} (_:K.In h):PySem.W.Frag:=K
theorem n_W {l:PySem.W.OpenLaw} {n k:Nat} {q:Program} {loose:List Str} {XP:(Str->Option Value)->Heap->Prop} {YP:World->Heap->Prop} {d:DefRec} {K:Params->PySem.W.Frag} {CX:World->CXT} {sp:World->Sp} {x:Str}
 (hn:l.most=some n) (hn2:n<=sizeLine) (hdf:d.params.defaults= []) (hr:Room k callerA)
 (hY:∀(w:World) (h:Heap),YP w h->(K w.params).In h)
 (F:∀(w:World) (mg:Str→Option Value) (fa:Addr) (h:Heap),(K w.params).In h→h.Ns mainGlobals mg→mg d.name=some (.ref fa)→
   ∃fd:FuncData,(∀(s:Shared) (u:Value),BindsTo s fd ⟨[u], []⟩ [(x,u)])/\
    ∀base:Heap,(K w.params).In base->base.Ns mainGlobals mg->FnOk l.prog w (K w.params) mg base (CX w) k fa fd [x] (sp w))
 (hsp:∀(w:World) (H:Hp) (a:Addr) (ns:List Int),ns.length<=n->q_F H->SqL (K w.params) H a (ns.map V.int)->sp w [.ref a] H (λv _=>v= .bl true) λ_ _ _=>False)
 (hCX:∀(w:World) (H:Hp) (s:Shared) (e:Value) (s':Shared),CX w [] H s (λ_ _ _=>False) e s'->False):
 PySem.W.WalkO q loose XP YP l.row.toRowW d [] (λf vs=>PySem.call f vs):=by
 refine Att.attach_call hn hdf λw s₀ s₁ mg mb fa o pm cd doc a vs ns G Y ho hd m j i hints c hg=> ?_;have KX:=hY w _ Y;obtain⟨fd,hb,hF⟩:=F w mg fa _ KX G.T.g j;exact l_8 KX G.T.g G.T.b G.T.builtins G.T.nolimit hg i hints (s_h c hn2) hr hF hb (λH hO hS=>hsp w H a ns c hO hS) λH e s'=>hCX w H s₁ e s'
end L2
namespace L2
open PySem PySem.Spec PyProof.Rows
def a_0 (s:Stmt) (j:Nat):Stmt:=match s with
 | .ClassDef _ _ _ body _ _ _ _ _ _ _=>body.getD j (.Pass ⟨0,0,0,0⟩)
 | _=> .Pass ⟨0,0,0,0⟩
def e_p (s:Stmt):Arguments:=match s with
 | .FunctionDef _ a _ _ _ _ _ _ _ _=>a
 | _=>{ posonlyargs:= [],args:= [],vararg:=none,kwonlyargs:= [],kw_defaults:= [],kwarg:=none,defaults:= [] }
def c_1 (s:Stmt):List Stmt:=match s with
 | .FunctionDef _ _ b _ _ _ _ _ _ _=>b
 | _=> []
def a_m (s:Stmt):Scope:=match s with
 | .FunctionDef _ _ _ _ _ _ sc _ _ _=>sc
 | _=>{ kind:= .function,names:= [],isGenerator:=false,isCoroutine:=false }
abbrev CX0:CXT:=λ_ _ _ _ _ _=>False
abbrev E0:XK:=λ_ _ _=>False
theorem a_v {X:Cx}:c_E CX0 X E0:=λ_ _ _ _ _ _ _ h=>h.elim
structure Fun (K:PySem.W.Frag) (x qual:Str) (st:Stmt) (f:Addr) (fd:FuncData):Prop where
 ex:∃(oc:Value) (od:Option Addr) (kV doc pm:Value) (an:Option Addr) (cdv ct:Value) (osl:Array (Option Value)),
  fd=PySem.W.fnOf x qual (e_p st) (c_1 st) (a_m st) .none kV doc pm an cdv ct/\K.lookup f=some ⟨oc,od,.func fd,osl⟩/\PySem.W.codeIn K cdv qual=true
 kp:PySem.W.keepIn K (.ref f)=true
section
variable {P:Program} {w:World} {K:PySem.W.Frag} {mg:Str->Option Value} {base:Heap}
theorem Fun.ok {x qual:Str} {st:Stmt} {f:Addr} {fd:FuncData} {N ps:List Str} {k:Nat} {sp:Sp} (F:Fun K x qual st f fd) (S:a_s N ps (a_m st)) (len:∀vs H Q E,sp vs H Q E->vs.length=ps.length)
 (hbody:∀(cdv:Value) (A:Around) (outer:List Env) (s:Shared) (H:Hp) (vs:List V) (Q:VK) (E:XK),Room k (A.deeper (envOfC qual (a_m st) s.heap.objs.size f cdv))→sp vs H Q E→
   ∃t,PSs (i_p CX0 P w K mg base N qual (a_m st) f cdv A outer s H E).nox (c_1 st) t/\t { nx:=λ_ H'=>Q .non H',rt:=Q } (start N vs) H):FnOk P w K mg base CX0 (k+1) f fd ps sp:=by
 obtain⟨oc,od,kV,doc,pm,an,cdv,ct,osl,rfl,lk,b⟩:=F.ex;refine p_b lk b S len λA outer s H vs Q E hr a=> ?_;obtain⟨t,h,q⟩:=hbody cdv A outer s H vs Q E hr a;exact⟨t,h.nox,q⟩
theorem Fun.binds {x qual:Str} {st:Stmt} {f:Addr} {fd:FuncData} {ps:List Str} (F:Fun K x qual st f fd)
 (h:∀(kV doc pm:Value) (an:Option Addr) (cdv ct:Value) (us:List Value),us.length=ps.length->bindArgs (PySem.W.fnOf x qual (e_p st) (c_1 st) (a_m st) .none kV doc pm an cdv ct) ⟨us, []⟩=pure (ps.zip us)):Binds K fd ps []:=by
 obtain⟨oc,od,kV,doc,pm,an,cdv,ct,osl,rfl,lk,a⟩:=F.ex;exact .all (h kV doc pm an cdv ct)
theorem a_B {x qual:Str} {st:Stmt} {f:Addr} {oc:Value} {od an:Option Addr} {osl:Array (Option Value)} {kV doc pm cdv ct:Value} (l:K.lookup f=some ⟨oc,od,.func (PySem.W.fnOf x qual (e_p st) (c_1 st) (a_m st) .none kV doc pm an cdv ct),osl⟩)
 (c:PySem.W.codeIn K cdv qual=true) (k:PySem.W.keepIn K (.ref f)=true):Fun K x qual st f (PySem.W.fnOf x qual (e_p st) (c_1 st) (a_m st) .none kV doc pm an cdv ct):=⟨⟨oc,od,kV,doc,pm,an,cdv,ct,osl,rfl,l,c⟩,k⟩
end
theorem e_Y {A:Around} {k:Nat} (hr:Room k A):A.units+1 < cLine:=s_B (Nat.add_le_add_left (by decide:1<=64) _) hr.units
theorem a_F {n:Nat} (h:n<=1000):n < sizeLine:=s_B h (by decide)
section
variable {X:Cx}
theorem pv (i:Nat) {x:Str} {pos:Pos} (hN:X.N[i]? =some x:=by rfl) (hv:Vis X.env.scope x:=by first | exact Or.inl rfl | exact Or.inr (Or.inl rfl) | exact Or.inr (Or.inr rfl)) (hd:(x == ("__debug__":Str))=false:=by decide)
 (hcd:(x == ("__classdict__":Str))=false:=by decide):PE X (.Name x pos) (r_h i):=o_N hN hv hd hcd
theorem g_K:c_W X (.builtin "len") (λxs H Q=>∃a kvs,xs= [V.ref a]/\H a=some (.dK kvs)/\Q (.int kvs.length) H):=by
 intro pins s σ H xs us Q I r h;obtain⟨a,kvs,rfl,ha,q⟩:=h;obtain⟨u,rfl,ru⟩:=i_q r;cases ru;exact q_l I (.inl ha) λt s' I'=>⟨.int kvs.length,H,I',⟨t,rfl⟩,q⟩
end
theorem i_0 {A B:Prop} (h:B):if false=true then A else B:=by
 rw[if_neg s_d];exact h
theorem k_X {A B:Prop} (h:A):if true=true then A else B:=by
 rw[if_pos rfl];exact h
theorem a_y {c A B:Prop} [Decidable c] (h1:c->A) (h2:¬ c->B):if c then A else B:=by
 by_cases h:c
 ·rw[if_pos h]
  exact h1 h
 ·rw[if_neg h]
  exact h2 h
theorem p_j {c A B:Prop} [Decidable c] (hc:c) (h:B):if (!decide c)=true then A else B:=by
 rw[s_C hc];exact i_0 h
def Same (H H':Hp):Prop:=∀b o,H b=some o->H' b=some o
theorem Same.refl (H:Hp):Same H H:=λ_ _ h=>h
theorem Same.trans {H H1 H2:Hp} (a:Same H H1) (b:Same H1 H2):Same H H2:=λc o h=>b c o (a c o h)
theorem Same.free {H H':Hp} (e:Same H H') {l:Addr} (h:H' l=Option.none):H l=Option.none:=by
 cases q:H l with
 | none=>rfl
 | some o=>
   rw[e l o q] at h;cases h
theorem Same.seq {K:PySem.W.Frag} {H H':Hp} {a:Addr} {xs:List V} (e:Same H H') (h:SqL K H a xs):SqL K H' a xs:=by
 rcases h with (h | ⟨o,h⟩) | h
 ·exact .inl (.inl (e _ _ h))
 ·exact .inl (.inr ⟨o,e _ _ h⟩)
 ·exact .inr h
section
variable {κ:Type} [DecidableEq κ]
end
end L2
namespace K1
open PySem L2
def top (i:Nat):Stmt:=PySem.Challenge.pw_twoorders_k05_whole_broken_off.main.body.getD i (.Pass ⟨0,0,0,0⟩)
abbrev sCW:Stmt:=top 10
abbrev n_h:Stmt:=top 11
abbrev q_t:Stmt:=top 12
abbrev k_i:Stmt:=top 38
abbrev sAt:Stmt:=top 39
abbrev n_2:Stmt:=top 40
abbrev j_m:Stmt:=top 41
abbrev k_d:Stmt:=top 42
abbrev p_1:Stmt:=top 43
abbrev j_w:Stmt:=top 48
abbrev f_C:Stmt:=top 49
abbrev n_I:Stmt:=top 52
abbrev h_w:Stmt:=top 53
abbrev h_i:Stmt:=top 54
abbrev h_C:Stmt:=top 55
abbrev j_I:Stmt:=top 56
abbrev q_C:Stmt:=top 67
abbrev e_R:Stmt:=top 44
abbrev c_5:Stmt:=top 45
abbrev e_B:Stmt:=top 46
abbrev f_K:Stmt:=top 47
abbrev e_z:Stmt:=top 60
abbrev h_n:Stmt:=top 61
abbrev f_S:Stmt:=top 62
abbrev c_Y:Stmt:=top 63
abbrev n_8:Stmt:=top 64
abbrev d_E:Stmt:=top 65
abbrev e_D:Stmt:=top 66
abbrev b_8:Stmt:=top 57
abbrev h_t:Stmt:=top 58
abbrev g_Z:Stmt:=top 59
abbrev f_T:Stmt:=top 14
abbrev h_r:Stmt:=top 15
abbrev n_6:Stmt:=top 16
abbrev f_V:Stmt:=top 17
abbrev m_4:Stmt:=top 18
abbrev m_6:Stmt:=top 19
abbrev f_u:Stmt:=top 29
abbrev i_8:Stmt:=top 30
abbrev k_E:Stmt:=top 31
abbrev j_r:Stmt:=top 32
abbrev q_0:Stmt:=top 33
abbrev q_A:Stmt:=top 34
abbrev dDo:Stmt:=top 35
abbrev q_B:Stmt:=top 36
abbrev c_F:Stmt:=top 50
abbrev d_D:Stmt:=top 51
abbrev sC:Stmt:=top 23
abbrev m_8:Stmt:=a_0 sC 0
abbrev m_7:Stmt:=a_0 sC 1
abbrev q_o:Stmt:=a_0 sC 2
abbrev n_o:Stmt:=a_0 sC 3
abbrev j_H:Stmt:=a_0 sC 4
abbrev o_e:Stmt:=a_0 sC 5
abbrev sBA:Stmt:=a_0 sC 6
abbrev sRA:Stmt:=a_0 sC 7
abbrev k_m:Stmt:=a_0 sC 8
abbrev n_3:Stmt:=a_0 sC 9
abbrev sSC:Stmt:=top 25
abbrev m_R:Stmt:=a_0 sSC 0
abbrev j_3:Stmt:=a_0 sSC 1
abbrev k_b:Stmt:=a_0 sSC 2
abbrev q_q:Stmt:=a_0 sSC 3
abbrev k_v:Stmt:=a_0 sSC 4
abbrev m_T:Stmt:=a_0 sSC 5
abbrev j_f:Stmt:=a_0 sSC 6
abbrev j_b:Stmt:=a_0 sSC 7
abbrev p_0:Stmt:=a_0 sSC 8
abbrev h_F:Stmt:=a_0 sSC 9
abbrev o_d:Stmt:=a_0 sSC 10
end K1
namespace PySem.SeqAt
open AutoSeq1 (wpAny_loadPart')
open MeetsSeq MeetsSeq2 MeetsSeq3 SeqRoads2
theorem f_L (l:Addr) (items:Array Value) (n:Nat) (x:Value) (e:Value->Bool) (j:Nat) (hj:j < items.size) (hit:e items[j]=true) (k:Nat) (hs1:items.size<=sizeLine):
 ∀i:Nat,j - i=k->i<=j->(∀m (hm:m < items.size),i<=m->m < j->e items[m]=false)->Meets (Builtin.«list.remove.loop» ⟨[.ref l,x,rawInt i], []⟩)
  (λA R s=>s.heap.get? l=some { cls:= .type "list",dict:=none,data:= .seq items n,slots:= #[] }/\(∀y,y∈items->EqAt A.in1 s y x (e y))/\R (.ok (.ret .none)) { s with heap:=s.heap.update l (Obj.mapSeq λxs=>xs.eraseIdxIfInBounds j) }):=by
 induction k with
 | zero=>
   intro i hk o a prog w A R s h;obtain⟨hp,g,d,tk,os⟩:=s;obtain⟨hl,he,h⟩:=h;have c:i=j:=by omega
   subst c;wp_walk using wpAny_loadPart' hl;have hi:items[((i:Nat):Int).toNat]? =some items[i]:=by simp[hj]
   rw[hi];refine wpAny_bind (he _ (Array.getElem_mem hj) prog w _ _ ?_);rw[hit];have f:(items.eraseIdxIfInBounds i).size<=sizeLine+1:=s_h (size_erased items _) (Nat.le_succ_of_le hs1);wp_walk using (wpAny_updateSeq hl rfl (hz:=hs1) (_hz':=f)),wpAny_loadPart' hl;simpa using h
 | succ k ih=>
   intro i hk o a prog w A R s h;obtain⟨hp,g,d,tk,os⟩:=s;obtain⟨hl,he,h⟩:=h;have b:i < items.size:=by omega
   wp_walk using wpAny_loadPart' hl;have hi:items[((i:Nat):Int).toNat]? =some items[i]:=by simp[b]
   have hc:((i:Int)+1)=((i+1:Nat):Int):=by push_cast;rfl
   rw[hi];refine wpAny_bind (he _ (Array.getElem_mem b) prog w _ _ ?_);rw[a i b (r_5 _) (by omega)];wp_walk;rw[hc]
   exact⟨plainId_quiet plain_remove_loop _,codeAny_builtin entry_remove_loop (by
    rw[Around.under_plainId plain_remove_loop _];exact ih (i+1) (by omega) (by omega) (λm hm h1 h2=>a m hm (by omega) h2) prog w A R _ ⟨hl,he,h⟩)⟩
theorem list_removeAt (l:Addr) (items:Array Value) (n:Nat) (x:Value) (e:Value->Bool) (j:Nat) (hj:j < items.size)
 (hit:e items[j]=true) (hno:∀m (hm:m < items.size),m < j->e items[m]=false) (hs1:items.size<=sizeLine):
 Meets (Builtin.«list.remove» ⟨[.ref l,x], []⟩)
  (λA R s=>s.heap.get? l=some { cls:= .type "list",dict:=none,data:= .seq items n,slots:= #[] }/\(∀y,y∈items->EqAt A.in1 s y x (e y))/\R (.ok (.ret .none)) { s with heap:=s.heap.update l (Obj.mapSeq λxs=>xs.eraseIdxIfInBounds j) }):=by
 intro prog w A R s h;obtain⟨hp,g,d,tk,os⟩:=s;obtain⟨hl,he,h⟩:=h;wp_walk using wpAny_loadPart' hl
 exact⟨plainId_quiet plain_remove_loop _,codeAny_builtin entry_remove_loop (by
  rw[Around.under_plainId plain_remove_loop _];exact f_L l items n x e j hj hit _ hs1 0 rfl (s_o _) (λm hm _ h2=>hno m hm h2) prog w A R _ ⟨hl,he,h⟩)⟩
theorem list_extend_tupleAt (l:Addr) (items:Array Value) (n:Nat) (b:Addr) (items2:Array Value) (n2:Nat) (dd:Option Addr) (sl:Array (Option Value)) (hs0:¬(!items.isEmpty&&Builtin.List.listTooLong (items.size+items2.size))=true) (hs1:items.size<=sizeLine) (hs2:items.size+items2.size<=sizeLine+1):
 Meets (Builtin.«list.extend» ⟨[.ref l,.ref b], []⟩) (λ_ R s=>s.heap.get? l=some { cls:= .type "list",dict:=none,data:= .seq items n,slots:= #[] }/\s.heap.get? b=some { cls:= .type "tuple",dict:=dd,data:= .seq items2 n2,slots:=sl }/\R (.ok (.ret Value.none)) { s with heap:=s.heap.update l (Obj.mapSeq λx=>x++items2),toks:=s.toks }):=
 .of_wp λprog w A R s h=>by
  obtain⟨hp,g,d,tk,os⟩:=s;obtain⟨hl,hb,h⟩:=h;have f1:=AutoSeq1.idx_int;have f2:=AutoSeq1.sub_tuple_tuple;have f3:=AutoSeq1.sub_list_list;have f4:=AutoSeq1.sub_tuple_list;have f5:=AutoSeq1.sub_list_tuple;have a:(items++items2).size<=sizeLine+1:=by rw[Array.size_append];exact hs2
  wp_walk using (wpAny_updateSeq hl rfl (hz:=hs1) (_hz':=a)),wpAny_loadPart' hl,wpAny_loadPart' hb;exact⟨_,rfl,h⟩
end PySem.SeqAt
namespace L2
open PySem PySem.Spec PyProof.Rows
def ltV:V->V->Bool
 | .int a,.int b=>decide (a < b)
 | .str a,.str b=>decide (a.cps.toList < b.cps.toList)
 | _,_=>false
def b_h:V->V->Bool
 | .int _,.int _=>true
 | .str _,.str _=>true
 | _,_=>false
def d_V:List V->List V->Prop
 | x::xs,y::ys=>b_h x y=true/\d_V xs ys
 | _,_=>True
def b_a:List V->List V->Bool
 | [], []=>false
 | [],_::_=>true
 | _::_, []=>false
 | x::xs,y::ys=>if x=y then b_a xs ys else ltV x y
theorem b_g (x y:V) (xs ys:List V):b_a (x::xs) (y::ys)=if x=y then b_a xs ys else ltV x y:=rfl
theorem d_N {A:Around} {s:Shared} {x y:V} {u v:Value} (rx:RelV x u) (ry:RelV y v) (h:b_h x y=true):SeqAt.EqAt A s u v (decide (x=y)):=by
 cases x with
 | int a=>
   cases y with
   | int b=>
     obtain⟨t,rfl⟩:=rx;obtain⟨t',rfl⟩:=ry;rw[h_l];exact SeqAt.EqAt.int_int a t b t'
   | _=>cases h
 | str a=>
   cases y with
   | str b=>
     have e:=m_F (A:=A) (s:=s) rx ry rfl rfl;rw[h_G];exact e
   | _=>cases h
 | _=>cases y <;> cases h
theorem h_7 {prog:Program} {w:World} {A:Around} {E:Value->Shared->Prop} {s:Shared} {x y:V} {u v:Value} {Q:Value->Shared->Prop} (rx:RelV x u) (ry:RelV y v) (h:b_h x y=true) (q:Q (.bool (ltV x y)) s):
 wpAny (model prog w) A (compareOp .Lt u v) Q E s:=by
 cases x with
 | int a=>
   cases y with
   | int b=>
     obtain⟨t,rfl⟩:=rx;obtain⟨t',rfl⟩:=ry;exact lt_int q
   | _=>cases h
 | str a=>
   cases y with
   | str b=>
     obtain⟨t,rfl⟩:=rx;obtain⟨t',rfl⟩:=ry;exact lt_str q
   | _=>cases h
 | _=>cases y <;> cases h
section
open PySem.SeqAt
open PySem.AutoSeq1 (wpAny_loadPart')
open PySem.MeetsSeq PySem.MeetsSeq2 PySem.MeetsSeq3
theorem i_K (l b:Addr) (items items2:Array Value) (n n2:Nat) (dd dd2:Option Addr) (sl sl2:Array (Option Value)) (xs ys:List V) (hi:Vals xs items.toList) (hj:Vals ys items2.toList) (ha:d_V xs ys):
 Meets (Builtin.«tuple.__lt__» ⟨[.ref l,.ref b], []⟩)
  (fun _ R s=>s.heap.get? l=some { cls:= .type "tuple",dict:=dd,data:= .seq items n,slots:=sl }∧s.heap.get? b=some { cls:= .type "tuple",dict:=dd2,data:= .seq items2 n2,slots:=sl2 }∧
    R (.ok (.ret (.bool (b_a xs ys)))) s):=
 .of_wp λprog w A R s h=>by
  obtain⟨hp,g,d,tk,os⟩:=s;obtain⟨hl,hb,h⟩:=h;have f2:=AutoSeq1.sub_tuple_tuple;have z1:items.size=xs.length:=by rw[hi.length];simp
  have z2:items2.size=ys.length:=by rw[hj.length];simp
  wp_walk using wpAny_loadPart' hl,wpAny_loadPart' hb,wpAny_forIn_list _ (λe_G b s'=>b.1=none/\s'=⟨hp,g,d,tk,os⟩/\∃(vs ws:List Value) (xs' ys':List V),e_G=vs.zip ws/\
   Vals xs' vs/\Vals ys' ws/\d_V xs' ys'/\xs'.length+items2.size=ys'.length+items.size/\R (.ok (.ret (.bool (b_a xs' ys')))) ⟨hp,g,d,tk,os⟩) _
  case turn=>
   rintro⟨y,x⟩ e_G b s' ⟨j,rfl,vs,ws,xs',ys',hz,i,c,f,a,hR⟩;cases i with
   | nil=>rw[List.zip_nil_left] at hz;cases hz
   | @cons xa ua xr ur ra hvi'=>
     cases c with
     | nil=>rw[List.zip_nil_right] at hz;cases hz
     | @cons ya va yr vr rc hwi'=>
       rw[List.zip_cons_cons] at hz;injection hz with m k
       injection m with hy hx
       subst hy hx;rw[b_g] at hR;simp only[r_2] at a;refine wpAny_bind (d_N ra rc f.1 prog w _ _ ?_);by_cases e:xa=ya
       ·rw[if_pos e] at hR
        rw[s_C e];wp_walk;exact⟨rfl,rfl,_,_,_,_,k,hvi',hwi',f.2,by omega,hR⟩
       ·rw[if_neg e] at hR
        rw[s_D e];have o:∀(E:Value->Shared->Prop) (Q:Value->Shared->Prop),Q (.bool (ltV xa ya)) ⟨hp,g,d,tk,os⟩->wpAny (model prog w) A.in1 (richCompare .Lt _ _) Q E ⟨hp,g,d,tk,os⟩:=λE Q q=>h_7 (A:=A.in1) ra rc f.1 q;wp_walk using o;exact⟨_,rfl,by simpa using hR⟩
  case fin=>
   rintro⟨b1,b2⟩ s' ⟨j,rfl,vs,ws,xs',ys',hz,i,c,f,a,hR⟩;simp only at j;subst j
   have hv:b_a xs' ys'=decide (items.size < items2.size):=by
    cases i with
    | nil=>
      cases c with
      | nil=>
        simp only[s_w] at a;show false=_;exact (s_D (by omega)).symm
      | cons rc hw=>
        simp only[s_w,r_2] at a;show true=_;exact (s_C (by omega)).symm
    | cons ra hv=>
      cases c with
      | nil=>
        simp only[s_w,r_2] at a;show false=_;exact (s_D (by omega)).symm
      | cons rc hw=>
        rw[List.zip_cons_cons] at hz;cases hz
   rw[hv] at hR;wp_walk;exact⟨_,rfl,by simpa[Builtin.Tuple.tupleCompareSizes] using hR⟩
  case h=>
   exact⟨rfl,rfl,items.toList,items2.toList,xs,ys,rfl,hi,hj,ha,by omega,h⟩
end
section
variable {X:Cx}
theorem n_j {prog:Program} {w:World} {A:Around} {E:Value->Shared->Prop} {s:Shared} {l b:Addr} {items items2:Array Value} {xs ys:List V} {Q:Value->Shared->Prop} (hl:IsTup s.heap l items) (hb:IsTup s.heap b items2) (hi:Vals xs items.toList) (hj:Vals ys items2.toList)
 (ha:d_V xs ys) (hu:A.units < cLine) (h:Q (.bool (b_a xs ys)) s):wpAny (model prog w) A (compareOp .Lt (.ref l) (.ref b)) Q E s:=by
 obtain⟨⟨cls,dd,data,sl⟩,ho,hc,n,hd⟩:=id hl;obtain⟨⟨g,f,data2,e⟩,d,a,n2,c⟩:=id hb;simp only at hc hd a c;subst hc hd a c
 exact richCompare_meets_room (op:= .Lt) ⟨_,ho,rfl⟩ ⟨_,d,rfl⟩ PySem.F.slot_tuple_lt PySem.F.entry_tuple_lt (PySem.F.args_tuple_lt_2 _ _) (i_K l b items items2 n n2 dd f sl e xs ys hi hj ha)
  ⟨ho,d,show Value.bool (b_a xs ys)≠Value.notImplemented/\Q (.bool (b_a xs ys)) s from ⟨(λx=>nomatch x),h⟩⟩ hu
def r_m (K:PySem.W.Frag):R2:=λx y H Q=>∃a b xs ys,x= .ref a/\y= .ref b/\SqT K H a xs/\SqT K H b ys/\d_V xs ys/\Q (.bl (b_a xs ys)) H
theorem j_7 (hu:X.A.units < cLine):OpR X (compareOp .Lt) (r_m X.K):=by
 intro pins s σ H x y v u Q I rx ry h;obtain⟨a,b,xs,ys,rfl,rfl,ha,hb,hal,q⟩:=h;cases rx;cases ry;obtain⟨its,r,p,_⟩:=I.tuple ha;obtain⟨its2,r2,p2,_⟩:=I.tuple hb;exact n_j p p2 (by simpa using r) (by simpa using r2) hal hu (a_K I q rfl)
def n_i (f:V->V->Bool):R2:=λx y H Q=>b_h x y=true/\Q (.bl (f x y)) H
theorem p_k:OpR X (compareOp .Gt) (n_i λx y=>ltV y x):=by
 intro pins s σ H x y v u Q I rx ry h;obtain⟨hs,q⟩:=h;cases x with
 | int a=>
   cases y with
   | int b=>obtain⟨t,rfl⟩:=rx;obtain⟨t',rfl⟩:=ry;exact gt_int (a_K I q rfl)
   | _=>cases hs
 | str a=>
   cases y with
   | str b=>obtain⟨t,rfl⟩:=rx;obtain⟨t',rfl⟩:=ry;exact PySem.P.gt_str (a_K I q rfl)
   | _=>cases hs
 | _=>cases y <;> cases hs
theorem o_C:OpR X (compareOp .GtE) (n_i λx y=> !ltV x y):=by
 intro pins s σ H x y v u Q I rx ry h;obtain⟨hs,q⟩:=h;cases x with
 | int a=>
   cases y with
   | int b=>obtain⟨t,rfl⟩:=rx;obtain⟨t',rfl⟩:=ry;exact ge_int (a_K I q (by show (!decide (a < b))=decide (b<=a);by_cases z:a < b <;> simp[z] <;> omega))
   | _=>cases hs
 | str a=>
   cases y with
   | str b=>obtain⟨t,rfl⟩:=rx;obtain⟨t',rfl⟩:=ry;exact PySem.P.ge_str (a_K I q rfl)
   | _=>cases hs
 | _=>cases y <;> cases hs
theorem m_G:OpR X (compareOp .LtE) (n_i λx y=> !ltV y x):=by
 intro pins s σ H x y v u Q I rx ry h;obtain⟨hs,q⟩:=h;cases x with
 | int a=>
   cases y with
   | int b=>obtain⟨t,rfl⟩:=rx;obtain⟨t',rfl⟩:=ry;exact le_int (a_K I q (by show (!decide (b < a))=decide (a<=b);by_cases z:b < a <;> simp[z] <;> omega))
   | _=>cases hs
 | str a=>
   cases y with
   | str b=>obtain⟨t,rfl⟩:=rx;obtain⟨t',rfl⟩:=ry;exact PySem.P.le_str (a_K I q rfl)
   | _=>cases hs
 | _=>cases y <;> cases hs
def m_1:V->List V->Hp->VK->Prop:=λx vs H Q=>∃l xs y,∃i:Int,x= .ref l/\vs= [.int i,y]/\H l=some (.lst xs)/\xs.length < sizeLine/\0<=i/\i<=xs.length/\Q .non (upd H l (.lst (xs.take i.toNat++y::xs.drop i.toNat)))
theorem g_P:MtM X "list.insert" m_1:=by
 intro pins s σ H x vs v us Q I rx rv h;obtain⟨l,xs,y,i,rfl,rfl,hH,hz,d,hi,q⟩:=h;cases rx;obtain⟨u1,u2,rfl,a,c⟩:=rv.two;obtain⟨t,rfl⟩:=a;obtain⟨z,its,n,r,hl,e⟩:=I.lstM hH;have f:=e_P;have h1: -(2 ^ 63)<=i:=by omega
 have h2:i < 2 ^ 63:=by omega
 have hf:¬ (!Builtin.List.listFitsIndex i)=true:=by
  rw[fitsIndex_both h1 h2];exact s_d
 have b:its.toArray.size<=sizeLine:=by rw[r_6];omega
 refine call_meets F.slot_list_insert ⟨_,e,rfl⟩ F.entry_list_insert (F.args_list_insert_3 _ _ _) (AutoSeq1.list_insert_list_int_val_1 l its.toArray n i t u2 hf b) ⟨e,?_⟩;refine⟨.non,_,I.lset (its':=its.take i.toNat++u2::its.drop i.toNat) hH e ?_ (Vals.append (r.take i.toNat) (.cons c (r.drop i.toNat))) ?_, rfl,q⟩
 ·show (its.toArray.extract 0 (if i < 0 then (i+(its.toArray.size:Int)).toNat else min i.toNat its.toArray.size)).push u2++its.toArray.extract (if i < 0 then (i+(its.toArray.size:Int)).toNat else min i.toNat its.toArray.size)=_
  rw[if_neg (by omega),r_6,Nat.min_eq_left (by omega)];simp[List.extract_eq_drop_take];exact s_g (by simp)
 ·simp only[r_Y,r_2,s_i,List.length_drop]
  omega
def m_I (K:PySem.W.Frag) (neg:Bool):R2:=λx y H Q=>∃l b xs,x= .ref l/\y= .ref b/\SqL K H l xs/\H b=some (.lst [])/\Q (.bl (if neg then !xs.isEmpty else xs.isEmpty)) H
theorem i_k (hu:X.A.units < cLine):OpR X (compareOp .Eq) (m_I X.K false):=by
 intro pins s σ H x y v u Q I rx ry h;obtain⟨l,b,xs,rfl,rfl,hl,hb,q⟩:=h;cases rx;cases ry;obtain⟨its,r,p,_⟩:=I.list hl;obtain⟨c,r2,p2,_⟩:=I.list (SqL.of hb:SqL X.K H b []);cases r2;cases xs with
 | nil=>
   cases r;exact SeqAt.eq_listAt (e:=λ_=>true) p.isList p2.isList rfl hu (λj h1 _=>by simp at h1) (a_K I q (by simp))
 | cons a t=>
   cases r with
   | cons ra rt=>exact SeqAt.eq_list_lengthsAt p.isList p2.isList (by simp) hu (a_K I q rfl)
theorem l_S (hu:X.A.units < cLine):OpR X (compareOp .NotEq) (m_I X.K true):=by
 intro pins s σ H x y v u Q I rx ry h;obtain⟨l,b,xs,rfl,rfl,hl,hb,q⟩:=h;cases rx;cases ry;obtain⟨its,r,p,_⟩:=I.list hl;obtain⟨c,r2,p2,_⟩:=I.list (SqL.of hb:SqL X.K H b []);cases r2;cases xs with
 | nil=>
   cases r;exact SeqAt.RcNeAt.lists (A:=X.A) (s:=s) (e:=λ_=>true) p.isList p2.isList rfl hu (λj h1 _=>by simp at h1) _ _ _ _ (a_K I q (by simp))
 | cons a t=>
   cases r with
   | cons ra rt=>exact SeqAt.RcNeAt.lists_lengths (A:=X.A) (s:=s) p.isList p2.isList (by simp) hu _ _ _ _ (a_K I q rfl)
theorem b_E:∀{as:List Addr} {its:List Value},Vals (as.map V.ref) its->its=as.map Value.ref
 | [],_,.nil=>rfl
 | a::r,_,.cons h t=>by
   obtain rfl:=(show _=Value.ref a from h);rw[b_E t,s_b]
def l_k (K:PySem.W.Frag):V->List V->Hp->VK->Prop:=λx vs H Q=>∃l b xs zs,x= .ref l/\vs= [.ref b]/\H l=some (.lst xs)/\H b=some (.tup zs)/\xs.length+zs.length<=sizeLine/\Q .non (upd H l (.lst (xs++zs)))
theorem f_h:MtM X "list.extend" (l_k X.K):=by
 intro pins s σ H x vs v us Q I rx rv h;obtain⟨l,b,xs,zs,rfl,rfl,hH,hB,hz,q⟩:=h;cases rx;obtain⟨u,rfl,ru⟩:=rv.one;cases ru;obtain⟨z,its,n,r,hl,e⟩:=I.lstM hH;obtain⟨z2,a,r2,⟨m,g,data2,i⟩,k,d,n2,f⟩:=I.hok b _ hB;simp only at d f;subst d f;have o:=r2.length;have j:its.toArray.size+a.toArray.size<=sizeLine:=by rw[r_6,r_6];omega
 have c:¬ (!its.toArray.isEmpty&&Builtin.List.listTooLong (its.toArray.size+a.toArray.size))=true:=by
  rw[f_E j,Bool.and_false];exact s_d
 refine call_meets F.slot_list_extend ⟨_,e,rfl⟩ F.entry_list_extend (F.args_list_extend_2 _ _)
  (PySem.SeqAt.list_extend_tupleAt l its.toArray n b a.toArray n2 g i c (by rw[r_6];omega) (by omega)) ⟨e,k,?_⟩
 refine⟨.non,_,I.lset (its':=its++a) hH e (by simp) (r.append r2) ?_, rfl,q⟩;rw[r_Y];omega
theorem j_8 (hc:X.calm=true):c_W X (.builtin "sum") (λxs H Q=>∃p,∃ns:List Int,xs= [.ref p]/\SqL X.K H p (ns.map V.int)/\Q (.int ns.sum) H):=by
 intro pins s σ H xs us Q I rv h;obtain⟨p,ns,rfl,hp,q⟩:=h;obtain⟨u,rfl,ru⟩:=rv.one;cases ru;obtain⟨its,r,pl,_⟩:=I.list hp;have hi:=i_F r;obtain⟨zs,e⟩:=(IntsAre.allInts hi).items;refine sum_intListG (I.ok.hd hc) (by rw[<-e];exact pl.isList) λh' tk t' hk=>⟨.int ns.sum,H,I.kept (t':=tk) hk,⟨t',?_⟩,q⟩;have e1:=nums_intItems zs;rw[<-e] at e1;have e2:numsOf its=ns:=hi.numsOf;have e3:zs.toList.map (·.1)=ns:=by rw[<-e1,<-e2]
 rw[preSum_eq,s_g (by simp),e3]
end
section
variable {prog:Program} {w:World} {A:Around} {R:Result->Shared->Prop} {s:Shared}
theorem d_O {elt target iter:Expr} {ifs:List Expr} {scope:Scope} {pos:Pos} {it acc:Value} {env:Env} (I:Nat->Shared->Prop)
 (turn:∀n s,I n s→wpAny (model prog w) A (pyNext it) (fun r s₁=>match r with
   | none=>R (.ok .next) s₁
   | some v=>wpAny (model prog w) A (letOwnedTupleGo target it v) (fun _ s₀=>wpAny (model prog w) A (assign target env v) (fun _ s₂=>
      wpAny (model prog w) A (forIn ifs true λc r=>if r=true then do let ok<-isTrue c env (eval c env);pure (ForInStep.yield ok) else pure (ForInStep.yield r)) (λok s₃=>
       if ok=true then wpAny (model prog w) A (eval elt env) (λx s₄=>
        wpAny (model prog w) A (call (.builtin "list.append") [acc,x]) (λ_ s₅=>∃m,m < n/\I m s₅) (λ_ _=>False) s₄) (λ_ _=>False) s₃
       else ∃m,m < n/\I m s₃) (λ_ _=>False) s₂) (λ_ _=>False) s₀) (λ_ _=>False) s₁) (λ_ _=>False) s)
 (n:Nat) (h:I n s):
 codeAny (model prog w) A (.compLoop (.ListComp elt [⟨target,iter,ifs,0⟩] scope pos) 0 it acc env) R s:=by
 refine codeAny_loop rfl I (λn s hI=> ?_) n h;show wpAny _ A ((compTurn (.ListComp elt [⟨target,iter,ifs,0⟩] scope pos) 0 it acc env).onRaise (λx=>do noteFrame x env;theTreesLotGoes x)) _ _ s;refine wpAny_noted ?_;rw[compTurn_list];refine wpAny_bind (wpAny_standAt (wpAny_bind (wpAny_mono (turn n s hI) (λr s₁ h₁=> ?_) λ_ _ h'=>h'.elim)));cases r with
 | none=>exact wpAny_pure h₁
 | some v=>
   refine wpAny_bind (wpAny_mono h₁ (λ_ s₀ h₀=> ?_) λ_ _ h'=>h'.elim);refine wpAny_bind (wpAny_mono h₀ (λ_ s₂ h₂=>wpAny_bind (wpAny_mono h₂ (λok s₃ h₃=> ?_) λ_ _ h'=>h'.elim)) λ_ _ h'=>h'.elim);cases ok with
   | false=>exact wpAny_pure ⟨rfl,h₃⟩
   | true=>
     exact wpAny_bind (wpAny_bind (wpAny_mono h₃ (λx s₄ h₄=>wpAny_bind (wpAny_mono h₄ (λ_ s₅ h₅=>wpAny_pure (wpAny_pure ⟨rfl,h₅⟩)) λ_ _ h'=>h'.elim)) λ_ _ h'=>h'.elim))
end
def k_7 (env:Env) (fns:List Str):List (Str×Addr):=fns.filterMap λy=>(env.cells.lookup y).map λc=>(y,c)
theorem a_7 {env:Env}:∀{fns:List Str} {y:Str} {c:Addr},(k_7 env fns).lookup y=some c->env.cells.lookup y=some c/\y∈fns
 | [],_,_,h=>by cases h
 | z::r,y,c,h=>by
   unfold k_7 at h;rw[List.filterMap_cons] at h;cases e:env.cells.lookup z with
   | none=>
     simp only[e,Option.map_none] at h;obtain⟨a,b⟩:=a_7 (fns:=r) h;exact⟨a,r_Z _ b⟩
   | some d=>
     simp only[e,Option.map_some,List.lookup_cons] at h;cases q:y == z with
     | true=>
       rw[q] at h;have q':y=z:=eq_of_beq q;subst q';cases h;exact⟨e,r_0 ..⟩
     | false=>
       rw[q] at h;obtain⟨a,b⟩:=a_7 (fns:=r) h;exact⟨a,r_Z _ b⟩
theorem d_A {env:Env}:∀{fns:List Str} {y:Str} {c:Addr},y∈fns->env.cells.lookup y=some c->(k_7 env fns).lookup y=some c
 | z::r,y,c,hy,hc=>by
   unfold k_7;rw[List.filterMap_cons];cases q:y == z with
   | true=>
     have q':y=z:=eq_of_beq q;subst q';simp only[hc,Option.map_some,List.lookup_cons,beq_self_eq_true]
   | false=>
     have a:y∈r:=by
      rcases r_7.mp hy with e | e
      ·subst e;simp at q
      ·exact e
     have ih:=d_A (env:=env) a hc;cases e:env.cells.lookup z with
     | none=>simp only[Option.map_none];exact ih
     | some d=>simp only[Option.map_some,List.lookup_cons,q];exact ih
def a_W (X:Cx) (scope:Scope) (fns:List Str) (N:List Str) (fp:List Addr) (pins:List (Addr×Obj)) (s:Shared) (H:Hp):Cx where
 prog:=X.prog
 w:=X.w
 K:=X.K
 mg:=X.mg
 base:=X.base
 A:=X.A
 N:=N
 s₀:=s
 H₀:=H
 env:=compEnvC scope (k_7 X.env fns) s.heap.objs.size X.env
 outer:=X.stack
 stack:=X.stack
 ex:=fp
 fn:=λ_=>false
 calm:=X.calm
 pn:=X.pn++pins
 xe:=λ_ _=>False
structure g_E (X:Cx) (scope:Scope) (x:Str) (fns:List Str) (js:List Nat):Prop where
 kind:scope.kind= .function
 nocell:∀y∈scope.names,y.2≠ .cell
 locs:∀y∈scope.names,y.2= .local->scope.names.lookup y.1=some .local
 loc:scope.names.lookup x=some .local
 free:∀y∈scope.names,y.2= .free->y.1∈fns
 isfree:∀y∈fns,scope.names.lookup y=some .free
 clos:closureFor scope X.env=pure (k_7 X.env fns)
 mine:∀y∈fns,X.env.kindOf y=some .cell
 js:js.map (λj=>X.N[j]?)=fns.map some
 nd:(x::fns).Nodup
theorem b_l {env:Env} (hf:env.scope.kind= .function):∀{names:List (Str×NameKind)} {x:Str},names.lookup x=some .free->env.kindOf x=some .cell->
 (names.map λ(n,k)=>if (k == NameKind.free&&env.scope.kind == .function&&env.kindOf n == some .cell) then (n,NameKind.cell) else (n,k)).lookup x=some .cell
 | [],_,h,_=>by cases h
 | (n,k)::r,x,h,hk=>by
   have ih:= @b_l env hf r x;simp only[s_b];simp only[List.lookup_cons] at h;cases hx:x == n with
   | true=>
     rw[hx] at h;have e:x=n:=eq_of_beq hx;subst e;cases h;simp[hf,hk,List.lookup_cons]
   | false=>
     rw[hx] at h;by_cases hc:(k == NameKind.free&&env.scope.kind == .function&&env.kindOf n == some .cell)=true
     ·rw[if_pos hc];simp only[List.lookup_cons,hx];exact ih h hk
     ·rw[if_neg hc];simp only[List.lookup_cons,hx];exact ih h hk
theorem c_r {env:Env} {names:List (Str×NameKind)} {y:Str×NameKind} (h:y∈names.map λ(n,k)=>if (k == NameKind.free&&env.scope.kind == .function&&env.kindOf n == some .cell) then (n,NameKind.cell) else (n,k))
 (hk:y.2= .cell\/y.2= .free) (hc:∀z∈names,z.2≠ .cell):(y.1,NameKind.free)∈names:=by
 obtain⟨⟨n,k⟩,hm,e⟩:=s_r.mp h;by_cases q:(k == NameKind.free&&env.scope.kind == .function&&env.kindOf n == some .cell)=true
 ·simp only[q,if_true] at e
  subst e
  have:k= .free:=by
   simp only[Bool.and_eq_true,beq_iff_eq] at q;exact q.1.1
  subst this;exact hm
 ·simp only[q] at e
  subst e;rcases hk with z | z
  ·exact absurd z (hc _ hm)
  ·have z':k= .free:=z
   subst z';exact hm
section
variable {X:Cx} {scope:Scope} {x:Str} {fns:List Str} {js:List Nat} {pins:List (Addr×Obj)} {σ:St} {H:Hp} {s:Shared} {fp:List Addr}
def b_q (σ:St) (js:List Nat) (v:Option V):St:=v::js.map λj=>(σ[j]?).join
theorem j_c (S:g_E X scope x fns js) (I:Inv X pins σ H s) (hf:∀b∈fp,f_Z X pins H b) (ho:∀b∈fp,b < s.heap.objs.size):(a_W X scope fns (x::fns) fp pins s H).Ok where
 mod:=I.ok.mod
 kind:=S.kind
 glob:=I.ok.glob
 blt:=I.ok.blt
 above:=r_5 _
 inj:=λy z c h1 h2=>I.ok.inj y z c (a_7 h1).1 (a_7 h2).1
 has:=λy hy=>by
  have a:y∈fns:=by
   rcases hy with hy | hy
   ·exact S.free _ (c_r (PySem.mem_of_lookup hy) (.inl rfl) S.nocell) rfl
   ·exact S.free _ (c_r (PySem.mem_of_lookup hy) (.inr rfl) S.nocell) rfl
  obtain⟨c,hc⟩:=I.ok.has y (.inl (S.mine y a));exact⟨c,d_A a hc⟩
 cab:=λ_ _ h=>nomatch h
 hd:=I.ok.hd
 frames:=I.ok.frames
 stk:= .inl rfl
 exf:=λb hb=>⟨s_k (ho b hb),λy c e=>(hf b hb).2.2.2.2.1 y c (a_7 e).1⟩
 bs:=I.bs
 bsz:=s_h I.ok.bsz I.sz
 noex:=λb o e hb=>by
  rcases (hf b hb).2.2.2.1 with z | z
  ·exact I.ok.noex b o e z
  ·exact absurd (s_c (s_c (Heap.lt_size e) I.ok.bsz) z) (Nat.lt_irrefl _)
 exfs:=λb hb hs=>by
  rcases r_7.mp (I.stkSub b hs) with z | z
  ·exact (hf b hb).2.1 z
  ·exact (hf b hb).2.2.1 z
 funs:=I.stack
 frf:=I.stkFree
theorem i_E (S:g_E X scope x fns js) (I:Inv X pins σ H s) (hf:∀b∈fp,f_Z X pins H b) (ho:∀b∈fp,b < s.heap.objs.size) {h₁:Heap} {m:Str->Option Value} {tk:Nat} (hn:h₁.Ns s.heap.objs.size m)
 (hk:∀b o,s.heap.get? b=some o->h₁.get? b=some o):Inv (a_W X scope fns (x::fns) fp pins s H) [] (b_q σ js none) H { s with heap:=h₁,toks:=tk }:=by
 have K1:HOk X.prog X.w H h₁:=I.hok.kept hk;refine⟨j_c S I hf ho,rfl,I.bare,Un.kept hk,⟨m,hn,λi y v e1 e2 _=> ?_⟩,λy c e=> ?_, I.hok.fresh (r_5 _),λy c e=>I.freeC y c (a_7 e).1,λp hp=> ?_, K1,?_⟩
 ·cases i with
  | zero=>cases e2
  | succ i=>
    have f:fns[i]? =some y:=e1;have a:(js.map λj=>(σ[j]?).join)[i]? =some (some v):=e2;rw[r_8] at a;cases ej:js[i]? with
    | none=>rw[ej] at a;cases a
    | some j=>
      rw[ej] at a;have e3:(σ[j]?).join=some v:=r_3 a
      have e4:σ[j]? =some (some v):=by
       cases q:σ[j]? with
       | none=>rw[q] at e3;cases e3
       | some o=>rw[q] at e3;exact congrArg some e3
      have e5:X.N[j]? =some y:=by
       have q:=congrArg (λl=>l[i]?) S.js;simp only[r_8,ej,f,Option.map_some] at q;exact r_3 q
      have hy:y∈fns:=s_m f;obtain⟨m',_,hl⟩:=I.loc;obtain⟨u,r,l⟩:=hl j y v e5 e4 (.inr (.inl (S.mine y hy)));refine⟨u,r,.inr ⟨.inl (b_l I.ok.kind (S.isfree y hy) (S.mine y hy)),?_⟩⟩;rcases l with⟨k,_⟩ | ⟨k,c,ec,oc,h,hd⟩
      ·rw[S.mine y hy] at k;cases k
      ·exact⟨c,d_A hy ec,oc,hk _ _ h,hd⟩
 ·obtain⟨v,o,ho,hd⟩:=I.cell y c (a_7 e).1
  exact⟨v,o,hk _ _ ho,hd⟩
 ·have g:p∈X.pn++pins:=by rw[s_t] at hp;exact hp
  obtain⟨e,n,ne,nf,d⟩:=I.pin p g;refine⟨hk _ _ e,n,s_k (Heap.lt_size e),λz=> ?_, d⟩;rcases r_7.mp (I.stkSub p.1 z) with q | q
  ·exact ne q
  ·exact nf q
 ·unfold b_q
  have:=congrArg List.length S.js;simp only[r_W] at this;simp only[r_2,r_W,this,a_W]
theorem h_d (I:Inv X pins σ H s) (hf:∀b∈fp,f_Z X pins H b) {σ':St} {H':Hp} {s':Shared} {pins':List (Addr×Obj)} (J:Inv (a_W X scope fns (x::fns) fp pins s H) pins' σ' H' s'):Inv X pins σ H' s':=
 I.call' (ch:=fp) J.os J.base J.hok J.bare λb hb=>⟨(hf b hb).2.2.2.1,(hf b hb).2.1,(hf b hb).2.2.2.2.1,(hf b hb).2.2.2.2.2⟩
end
def n_K (X:Cx) (ifs:List Expr) (t:TT):Prop:=
 ∀(pins:List (Addr×Obj)) (s:Shared) (σ:St) (H:Hp) (Q:Bool->Hp->Prop),Inv X pins σ H s->t σ H Q->
  wpAny (model X.prog X.w) X.A (forIn ifs true λc r=>if r=true then do let ok<-isTrue c X.env (eval c X.env);pure (ForInStep.yield ok) else pure (ForInStep.yield r)) (TP X pins σ Q) X.xe s
def r_o:TT:=λ_ H Q=>Q true H
theorem b_K {X:Cx}:n_K X [] r_o:=λ_ _ _ H _ I h=>wpAny_tests_nil ⟨H,I,h⟩
theorem d_B {X:Cx} {c:Expr} {t:TT} (h:PT X c t):n_K X [c] t:=λpins s σ H Q I q=>wpAny_tests_one (h pins s σ H Q I q)
def e_W (J:It) (D:Addr) (σ:St) (js:List Nat) (tt:TT) (te:TE) (QQ:Hp->Prop) (W:Nat->Nat->Hp->Prop):Prop:=
 ∀i m H,W i m H->(J.stop i H/\QQ H)\/(J.go i H/\∃(N1:V->Hp->Prop) (N0:Hp->Prop),
  (∀y H3,N1 y H3->∃ys,H3 D=some (.lst ys)/\ys.length < sizeLine/\∃m',m' < m/\W (i+1) m' (upd H3 D (.lst (ys++ [y]))))/\(∀H2,N0 H2->∃m',m' < m/\W (i+1) m' H2)/\
  ∀v H',J.yld i H v H'->tt (b_q σ js (some v)) H' λb H2=>if b=true then te (b_q σ js (some v)) H2 N1 else N0 H2)
section
variable {X:Cx} {scope:Scope} {x:Str} {fns:List Str} {js:List Nat} {pins:List (Addr×Obj)} {σ:St} {H:Hp} {s:Shared} {elt iter:Expr} {px pos pos':Pos} {ifs:List Expr} {wi:TI} {tt:TT} {te:TE}
theorem f_7 {use:Option (Value->Sem Unit)} {Qv:Value->Shared->Prop} {QQ:Addr->Hp->Prop} (hc:X.calm=true) (S:g_E X scope x fns js) (hi:PI X (.Name x px) iter wi)
 (ht:∀fp pins s H,n_K (a_W X scope fns (x::fns) fp pins s H) ifs tt) (he:∀fp pins s H,PE (a_W X scope fns (x::fns) fp pins s H) elt te) (I:Inv X pins σ H s)
 (h:wi σ H λJ H1=>∀D,H1 D=none->∃W:Nat->Nat->Hp->Prop,(∃m,W 0 m (upd H1 D (.lst [])))/\e_W J D σ js tt te (QQ D) W)
 (fin:∀D C H5 s5 m5,Inv X pins σ H5 s5->f_Z X pins H5 C->s5.heap.Ns C m5->QQ D H5->compPost (model X.prog X.w) X.A X.xe use Qv (.ref D) C (.ok .next) s5)
 (hs:∀x,foldedSetIterable iter X.env x=pure x:=by intro _;rfl):
 wpAny (model X.prog X.w) X.A (comprehension (.ListComp elt [⟨.Name x px,iter,ifs,0⟩] scope pos) scope X.env pos' (newList []) false (eval iter X.env) use) Qv X.xe s:=by
 refine wpAny_comprehension_free (use:=use) rfl hs S.clos S.kind S.locs (thn (hi pins s σ H _ I h) λv s1 h1=>thn h1 λitv s2 h2=> ?_);obtain⟨it,fp,tn,J,H2,e,I2,T,c,f2,hW⟩:=h2;subst e;obtain⟨W,⟨m0,w0⟩,turn⟩:=hW s2.heap.objs.size I2.fresh;have I3:Inv X pins σ (upd H2 s2.heap.objs.size (.lst [])) { s2 with heap:=s2.heap.push { cls:= .type "list",data:= .seq ([]:List Value).toArray } }:=I2.lnew (t':=s2.toks) (its:= []) (ys:= []) .nil (s_o _)
 have f:∀b∈fp,b < s2.heap.objs.size:=λb hb=>by
  obtain⟨o,e,_⟩:=T.obj _ _ c b hb;exact Heap.lt_size e
 have f3:∀b∈fp,f_Z X pins (upd H2 s2.heap.objs.size (.lst [])) b:=λb hb=>⟨by rw[a_i (s_k (f b hb))];exact (f2 b hb).1,(f2 b hb).2⟩;have E:∀b∈fp,b < (s2.heap.push { cls:= .type "list",data:= .seq ([]:List Value).toArray }).objs.size:=λb hb=>by rw[Heap.size_push];exact Nat.lt_succ_of_lt (f b hb)
 refine wpAny_newObj_type (wpAny_newFunctionEnv S.nocell (by intro y hy;simp at hy) (λh₁ hns₁ hsb₁=> ?_) S.kind);dsimp only at hns₁ hsb₁ ⊢
 have hk:∀b o,(s2.heap.push { cls:= .type "list",data:= .seq ([]:List Value).toArray }).get? b=some o->h₁.get? b=some o:=λb o e=>
  hsb₁.extBut b o (s_k (Heap.lt_size e)) (Heap.get?_push_of_some _ e)
 have J0:=i_E (tk:=s2.toks+([]:List (Str×Value)).length) S I3 f3 E hns₁ hk
 have stat:∀{H':Hp},(∀b∈fp,H' b=none)->∀b∈fp,f_Z (a_W X scope fns (x::fns) fp pins { s2 with heap:=s2.heap.push { cls:= .type "list",data:= .seq ([]:List Value).toArray } } (upd H2 s2.heap.objs.size (.lst []))) [] H' b:=λhn b hb=>by
  refine⟨hn b hb,(J0.ok.exf b hb).1,J0.ok.exfs b hb,.inl hb,(J0.ok.exf b hb).2,λp hp=>(f3 b hb).2.2.2.2.2 p ?_⟩;rw[s_t] at hp;exact hp
 have B:∀b∈fp,(upd H2 s2.heap.objs.size (.lst [])) b=none:=λb hb=>(f3 b hb).1;have g:tn 0 h₁:=T.keep _ _ _ c λb hb o e=>hk b o (Heap.get?_push_of_some _ e)
 have loop:∀s₃:Shared,s₃={ s2 with heap:=h₁,toks:=s2.toks+([]:List (Str×Value)).length }->
  codeAny (model X.prog X.w) X.A (.compLoop (.ListComp elt [⟨.Name x px,iter,ifs,0⟩] scope pos) 0 (.ref it) (.ref s2.heap.objs.size) (compEnvC scope (k_7 X.env fns) (s2.heap.push { cls:= .type "list",data:= .seq ([]:List Value).toArray }).objs.size X.env))
   (compPost (model X.prog X.w) X.A X.xe use Qv (.ref s2.heap.objs.size) (s2.heap.push { cls:= .type "list",data:= .seq ([]:List Value).toArray }).objs.size) s₃:=by
  rintro s₃ rfl
  refine d_O (λn s'=>∃i o H',Inv (a_W X scope fns (x::fns) fp pins { s2 with heap:=s2.heap.push { cls:= .type "list",data:= .seq ([]:List Value).toArray } } (upd H2 s2.heap.objs.size (.lst []))) [] (b_q σ js o) H' s'/\tn i s'.heap/\(∀b∈fp,H' b=none)/\W i n H') ?_ m0
   ⟨0,none,_,J0,g,B,w0⟩
  rintro n s4 ⟨i,o,H4,J4,j,k,w4⟩;rcases turn i n H4 w4 with⟨stop,qn⟩ | ⟨go,N1,N0,t,L,step⟩
  ·refine thn (T.done (a_W X scope fns (x::fns) fp pins { s2 with heap:=s2.heap.push { cls:= .type "list",data:= .seq ([]:List Value).toArray } } (upd H2 s2.heap.objs.size (.lst []))) rfl rfl rfl hc i [] s4 _ H4 _ J4 (stat k) j stop) λr s5 ⟨hr,J5⟩=> ?_
   subst hr;obtain⟨m5,G,_⟩:=id J5.loc;have I5:=h_d I3 f3 J5;exact fin _ _ H4 s5 m5 I5 ⟨J5.free,Nat.ne_of_gt (s_c I3.lt (r_5 _)),I3.nofs (r_5 _),.inr I3.sz,(I3.fpOk (r_5 _) J5.free).2.2.2.2⟩ G qn
  ·refine thn (T.item (a_W X scope fns (x::fns) fp pins { s2 with heap:=s2.heap.push { cls:= .type "list",data:= .seq ([]:List Value).toArray } } (upd H2 s2.heap.objs.size (.lst []))) rfl rfl rfl hc i [] s4 _ H4 _ J4 (stat k) j go) λr s5 ⟨u,hr,h5⟩=> ?_
   subst hr;refine thn h5 λ_ s6 ⟨v6,H6,J6,r6,y6,a,q⟩=> ?_;have K:=J6.pinned (stat q) (T.obj _ _ a);have pg:=a_9 (X:=a_W X scope fns (x::fns) fp pins { s2 with heap:=s2.heap.push { cls:= .type "list",data:= .seq ([]:List Value).toArray } } (upd H2 s2.heap.objs.size (.lst []))) (pos:=px) (i:=0) (x:=x) S.nd rfl (.inl (lookup_relabel_local S.loc)) (.inr (lookup_relabel_local S.loc));refine thn (pg _ s6 _ H6 v6 u (λσ' H'=>σ'=b_q σ js (some v6)/\H'=H6) K r6 ⟨rfl,rfl⟩) λ_ s7 ⟨σ7,H7,J7,e7,F⟩=> ?_;subst e7 F;refine thn (ht _ _ _ _ _ s7 _ H7 _ J7 (step v6 H7 y6)) λb s8 ⟨H8,J8,q8⟩=> ?_
   have again:∀{H9:Hp} {s9:Shared},Inv (a_W X scope fns (x::fns) fp pins { s2 with heap:=s2.heap.push { cls:= .type "list",data:= .seq ([]:List Value).toArray } } (upd H2 s2.heap.objs.size (.lst []))) ([]++f_o fp s6.heap) (b_q σ js (some v6)) H9 s9->
    (∃m',m' < n/\W (i+1) m' H9)->∃m,m < n/\∃i o H',Inv (a_W X scope fns (x::fns) fp pins { s2 with heap:=s2.heap.push { cls:= .type "list",data:= .seq ([]:List Value).toArray } } (upd H2 s2.heap.objs.size (.lst []))) [] (b_q σ js o) H' s9/\tn i s9.heap/\(∀b∈fp,H' b=none)/\W i m H':=λ{H9 s9} J9 ⟨m',hm,w9⟩=>by
    refine⟨m',hm,i+1,some v6,H9,J9.unpinned,T.keep _ _ _ a λb hb o e=>(J9.pin (b,o) (r_9 _ (r_9 _ (b_Q hb e)))).1,λb hb=> ?_, w9⟩;obtain⟨o,e,d⟩:=T.obj _ _ a b hb;exact (J9.pin (b,o) (r_9 _ (r_9 _ (b_Q hb e)))).2.1
   cases b with
   | false=>exact again J8 (L _ (by simpa using q8))
   | true=>
     simp only[if_true] at q8 ⊢;refine thn (he _ _ _ _ _ s8 _ H8 _ J8 q8) λxv s9 ⟨y9,H9,J9,r9,n9⟩=> ?_;obtain⟨ys,hD,hz,q9⟩:=t y9 H9 n9;refine thn (a_N _ s9 _ H9 (.ref s2.heap.objs.size) [y9] (.ref s2.heap.objs.size) [xv] (λ_ H'=>H'=upd H9 s2.heap.objs.size (.lst (ys++ [y9]))) J9 rfl (.cons r9 .nil) ⟨_,ys,y9,rfl,rfl,hD,hz,rfl⟩) λ_ M ⟨_,N,z,_,l⟩=> ?_;subst l;exact again z q9
 exact codeAny_compStart_list (loop _ rfl) (T.self _ 0 _ _ _ g (loop _ rfl))
def q_M (wi:TI) (js:List Nat) (tt:TT) (te:TE):TE:=λσ H Q=>wi σ H λJ H1=>∀D,H1 D=none->∃W:Nat->Nat->Hp->Prop,(∃m,W 0 m (upd H1 D (.lst [])))/\e_W J D σ js tt te (Q (.ref D)) W
theorem c_w (hc:X.calm=true) (S:g_E X scope x fns js) (hi:PI X (.Name x px) iter wi)
 (ht:∀fp pins s H,n_K (a_W X scope fns (x::fns) fp pins s H) ifs tt) (he:∀fp pins s H,PE (a_W X scope fns (x::fns) fp pins s H) elt te) (hs:∀x,foldedSetIterable iter X.env x=pure x:=by intro _;rfl):
 PE X (.ListComp elt [⟨.Name x px,iter,ifs,0⟩] scope pos) (q_M wi js tt te):=by
 intro pins s σ H Q I h;rw[eval_ListComp];refine f_7 (use:=none) (QQ:=λD=>Q (.ref D)) hc S hi ht he I h (λD C H5 s5 m5 I5 fC hn q=> ?_) hs;refine⟨m5,hn,λh' sb=>⟨.ref D,H5,?_, rfl,q⟩⟩;exact I5.turned (t':=s5.toks) (λb o hb e=>(sb.2 b hb).trans e) fC.1 fC.2.1 fC.2.2.2.1 fC.2.2.2.2.1 fC.2.2.2.2.2
def l_P (k:Nat) (wi:TI) (js:List Nat) (tt:TT) (te:TE):TS:=λD σ H=>wi σ H λJ H1=>∀L,H1 L=none->∃W:Nat->Nat->Hp->Prop,(∃m,W 0 m (upd H1 L (.lst [])))/\e_W J L σ js tt te (λH'=>D.nx (σ.set k (some (.ref L))) H') W
theorem c_c {k:Nat} {y:Str} {py spos:Pos} (hc:X.calm=true) (S:g_E X scope x fns js) (hi:PI X (.Name x px) iter wi)
 (ht:∀fp pins s H,n_K (a_W X scope fns (x::fns) fp pins s H) ifs tt) (he:∀fp pins s H,PE (a_W X scope fns (x::fns) fp pins s H) elt te)
 (hN:X.N.Nodup) (hk:X.N[k]? =some y) (hy:Loc X.env.scope y) (hfn:X.fn y=true\/X.env.scope.names.lookup y=some .local:=by first | exact .inl rfl | exact .inr rfl | assumption)
 (hsw:swapsWith (.ListComp elt [⟨.Name x px,iter,ifs,0⟩] scope pos) (some (.Name y py)) spos.line X.env=pure true:=by rfl) (hs:∀x,foldedSetIterable iter X.env x=pure x:=by intro _;rfl):
 PS X (.Assign [.Name y py] (.ListComp elt [⟨.Name x px,iter,ifs,0⟩] scope pos) spos) (l_P k wi js tt te):=by
 intro pins s σ H D I h;rw[exec_Assign_Name_used _ _ _ _ hsw];refine wpAny_bind (wpAny_standAt (wpAny_bind ?_));show wpAny _ X.A (do let _<-comprehension (.ListComp elt [⟨.Name x px,iter,ifs,0⟩] scope pos) scope X.env _ (newList []) false (eval iter X.env) (some (assign (.Name y py) X.env))) _ _ s;refine wpAny_bind (thn (f_7 (use:=some (assign (.Name y py) X.env)) (QQ:=λL H'=>D.nx (σ.set k (some (.ref L))) H') (Qv:=λ_ s'=>SP X pins D .next s') hc S hi ht he I h (λL C H5 s5 m5 I5 fC hn q=> ?_) hs) λ_ s' hq=>wpAny_pure (wpAny_pure hq));obtain⟨oC,es,ep,e,d,r⟩:=id hn
 have c:Inv X (pins++ [(C,oC)]) σ H5 s5:=I5.pins_of λp hp=>(s_e.mp hp).elim (λz=>I5.pin p (r_9 _ z)) λz=>by
  obtain rfl:p=(C,oC):=by simpa using z
  exact⟨e,fC.1,fC.2.1,fC.2.2.1,λv z=>by rw[d] at z;cases z⟩
 refine thn (a_9 (pos:=py) hN hk hy hfn _ s5 σ H5 (.ref L) (.ref L) (λσ' H'=>σ'=σ.set k (some (.ref L))/\H'=H5) c rfl ⟨rfl,rfl⟩) λ_ s6 ⟨σ6,H6,I6,e6,a⟩=> ?_;subst e6 a;have pC:=I6.pin (C,oC) (by simp);refine⟨m5,⟨oC,es,ep,pC.1,d,r⟩,λh' sb=>⟨_,H6,?_, q⟩⟩;exact (I6.unpinned).turned (t':=s6.toks) (λb o hb e=>(sb.2 b hb).trans e) fC.1 fC.2.1 fC.2.2.2.1 fC.2.2.2.2.1 fC.2.2.2.2.2
end
theorem c_I {K:PySem.W.Frag} {a D:Addr} {xs:List V} {σ:St} {js:List Nat} {tt:TT} {te:TE} {QQ:Hp->Prop} {H:Hp} (Pv:Nat->List V->Hp->Prop) (h0:Pv 0 [] (upd H D (.lst [])))
 (hl:∀i ys H,i<=xs.length->H D=some (.lst ys)->Pv i ys H->SqL K H a xs)
 (hs:∀i v ys H,xs[i]? =some v→H D=some (.lst ys)→Pv i ys H→tt (b_q σ js (some v)) H fun b H2=>
   if b=true then te (b_q σ js (some v)) H2 λy H3=>H3 D=some (.lst ys)/\ys.length < sizeLine/\Pv (i+1) (ys++ [y]) (upd H3 D (.lst (ys++ [y]))) else H2 D=some (.lst ys)/\Pv (i+1) ys H2)
 (hd:∀ys H,H D=some (.lst ys)->Pv xs.length ys H->QQ H):
 ∃W:Nat->Nat->Hp->Prop,(∃m,W 0 m (upd H D (.lst [])))/\e_W (Itl K a) D σ js tt te QQ W:=by
 refine⟨λi m H=>i<=xs.length/\m=xs.length - i/\∃ys,H D=some (.lst ys)/\Pv i ys H,⟨_,s_o _,rfl, [],a_b,h0⟩,?_⟩;rintro i m H1 ⟨hi,rfl,ys,hD,hp⟩;have hq:=hl i ys H1 hi hD hp;by_cases e:i=xs.length
 ·subst e
  exact .inl ⟨⟨xs,hq,r_5 _⟩,hd ys H1 hD hp⟩
 ·have c:i < xs.length:=by omega
  refine .inr ⟨⟨xs,xs[i],hq,r_X c⟩,λy H3=>H3 D=some (.lst ys)/\ys.length < sizeLine/\Pv (i+1) (ys++ [y]) (upd H3 D (.lst (ys++ [y]))),λH2=>H2 D=some (.lst ys)/\Pv (i+1) ys H2,
   λy H3 q3=>⟨ys,q3.1,q3.2.1,xs.length - (i+1),by omega,c,rfl,ys++ [y],a_b,q3.2.2⟩,λH2 q=>⟨xs.length - (i+1),by omega,c,rfl,ys,q.1,q.2⟩,λv H' hy=> ?_⟩
  obtain⟨rfl,hv⟩:=hy;exact hs i v ys H' (hv xs hq) hD hp
theorem i_s {lo:Int} {n:Nat} {D:Addr} {σ:St} {js:List Nat} {tt:TT} {te:TE} {QQ:Hp->Prop} {H:Hp} (Pv:Nat->List V->Hp->Prop) (h0:Pv 0 [] (upd H D (.lst [])))
 (hs:∀i ys H,i < n→H D=some (.lst ys)→Pv i ys H→tt (b_q σ js (some (.int (lo+i)))) H fun b H2=>
   if b=true then te (b_q σ js (some (.int (lo+i)))) H2 λy H3=>H3 D=some (.lst ys)/\ys.length < sizeLine/\Pv (i+1) (ys++ [y]) (upd H3 D (.lst (ys++ [y]))) else H2 D=some (.lst ys)/\Pv (i+1) ys H2)
 (hd:∀ys H,H D=some (.lst ys)->Pv n ys H->QQ H):
 ∃W:Nat->Nat->Hp->Prop,(∃m,W 0 m (upd H D (.lst [])))/\e_W (Itr lo n) D σ js tt te QQ W:=by
 refine⟨λi m H=>i<=n/\m=n - i/\∃ys,H D=some (.lst ys)/\Pv i ys H,⟨_,s_o _,rfl, [],a_b,h0⟩,?_⟩;rintro i m H1 ⟨hi,rfl,ys,hD,hp⟩;by_cases e:i=n
 ·subst e
  exact .inl ⟨r_5 _,hd ys H1 hD hp⟩
 ·have a:i < n:=by omega
  refine .inr ⟨a,λy H3=>H3 D=some (.lst ys)/\ys.length < sizeLine/\Pv (i+1) (ys++ [y]) (upd H3 D (.lst (ys++ [y]))),λH2=>H2 D=some (.lst ys)/\Pv (i+1) ys H2,
   λy H3 q3=>⟨ys,q3.1,q3.2.1,n - (i+1),by omega,a,rfl,ys++ [y],a_b,q3.2.2⟩,λH2 q=>⟨n - (i+1),by omega,a,rfl,ys,q.1,q.2⟩,λv H' hy=> ?_⟩
  obtain⟨rfl,rfl⟩:=hy;exact hs i ys H' a hD hp
end L2
namespace TO
def Adj:Nat->List Nat->Prop
 | _, []=>True
 | p,n::r=>1<=n/\n<=8/\5<=p+n/\Adj n r
def f_I:Nat->List Nat->Nat
 | p, []=>p
 | _,n::r=>f_I n r
theorem Adj.app:∀{l₁ l₂:List Nat} {p:Nat},Adj p (l₁++l₂)↔Adj p l₁/\Adj (f_I p l₁) l₂
 | [],l₂,p=>by simp[Adj,f_I]
 | n::r,l₂,p=>by
   have ih:= @Adj.app r l₂ n;simp only[List.cons_append,Adj,f_I,ih];constructor
   ·rintro⟨a,b,c,d,e⟩;exact⟨⟨a,b,c,d⟩,e⟩
   ·rintro⟨⟨a,b,c,d⟩,e⟩;exact⟨a,b,c,d,e⟩
theorem e_9:∀{l:List Nat} {p n:Nat},f_I p (l++ [n])=n
 | [],_,_=>rfl
 | m::r,_,n=>by simp only[List.cons_append,f_I];exact e_9
theorem Adj.mono:∀{l:List Nat} {p q:Nat},p<=q->Adj p l->Adj q l
 | [],_,_,_,_=>trivial
 | n::r,p,q,h,⟨a,b,c,d⟩=>⟨a,b,by omega,d⟩
theorem Adj.five:∀{l:List Nat} {p q:Nat},4<=q->Adj p l->Adj q l
 | [],_,_,_,_=>trivial
 | n::r,p,q,h,⟨a,b,c,d⟩=>⟨a,b,by omega,d⟩
theorem Adj.last:∀{l:List Nat} {p:Nat},1<=p->Adj p l->1<=f_I p l
 | [],_,h,_=>h
 | n::r,p,h,⟨a,b,c,d⟩=> @Adj.last r n a d
theorem Adj.put {l₁ l₂:List Nat} {a b p:Nat} (h:Adj p (l₁++a::l₂)) (hab:a<=b) (hb:b<=8):Adj p (l₁++b::l₂):=by
 rw[Adj.app] at h ⊢;obtain⟨h1,h2,h3,h4,h5⟩:=h;exact⟨h1,by omega,hb,by omega,h5.mono hab⟩
theorem Adj.split {l₁ l₂:List Nat} {a p:Nat} (hp:1<=p) (h:Adj p (l₁++a::l₂)):Adj p (l₁++4::5::l₂):=by
 rw[Adj.app] at h ⊢;obtain⟨h1,h2,h3,h4,h5⟩:=h;have:=h1.last hp;exact⟨h1,by omega,by omega,by omega,by omega,by omega,by omega,h5.five (by omega)⟩
theorem Adj.gone {l₁ l₂:List Nat} {p:Nat} (h:Adj p (l₁++1::l₂)):Adj p (l₁++l₂):=by
 rw[Adj.app] at h ⊢;obtain⟨h1,h2,h3,h4,h5⟩:=h;exact⟨h1,h5.five (by omega)⟩
theorem Adj.less_join {l₁ l₂:List Nat} {a c p:Nat} (h:Adj p (l₁++(a+1)::c::l₂)) (ha:1<=a) (hac:a+c < 5):Adj p (l₁++(a+c)::l₂):=by
 rw[Adj.app] at h ⊢;obtain⟨h1,h2,h3,h4,h5,h6,h7,h8⟩:=h;exact⟨h1,by omega,by omega,by omega,h8.mono (by omega)⟩
theorem Adj.less_join_l {l₁ l₂:List Nat} {a e p:Nat} (h:Adj p (l₁++e::(a+1)::l₂)) (hea:e+a < 5):Adj p (l₁++(e+a)::l₂):=by
 rw[Adj.app] at h ⊢;obtain⟨h1,h2,h3,h4,h5,h6,h7,h8⟩:=h;exact⟨h1,by omega,by omega,by omega,h8.five (by omega)⟩
theorem Adj.less {l₁ l₂:List Nat} {a p:Nat} (h:Adj p (l₁++(a+1)::l₂)) (ha:1<=a) (hl:5<=f_I p l₁+a) (hr:∀c r,l₂=c::r->5<=a+c):Adj p (l₁++a::l₂):=by
 rw[Adj.app] at h ⊢;obtain⟨h1,h2,h3,h4,h5⟩:=h;refine⟨h1,ha,by omega,hl,?_⟩;cases l₂ with
 | nil=>trivial
 | cons c r=>
   obtain⟨h6,h7,h8,h9⟩:=h5;exact⟨h6,h7,hr c r rfl,h9⟩
section
variable {ρ:Type} (lt:ρ->ρ->Bool)
abbrev Srt (l:List ρ):Prop:=l.Pairwise λa b=>lt a b=true
variable {lt}
def n_y (lt:ρ->ρ->Bool) (P:ρ->Bool):Prop:=∀x y,lt x y=true->P y=true->P x=true
theorem Srt.app {l₁ l₂:List ρ}:Srt lt (l₁++l₂)↔Srt lt l₁/\Srt lt l₂/\∀a∈l₁,∀b∈l₂,lt a b=true:=List.pairwise_append
theorem c_U {P:ρ->Bool} (D:n_y lt P):∀{l:List ρ},Srt lt l->l.takeWhile P=l.filter P
 | [],_=>rfl
 | x::r,h=>by
   have h':=s_A.mp h;cases e:P x with
   | true=>rw[List.takeWhile_cons,s_l];simp only[e,if_true];rw[c_U D h'.2]
   | false=>
     rw[List.takeWhile_cons,s_l];simp only[e];symm;simp only[Bool.false_eq_true,if_false];rw[List.filter_eq_nil_iff];intro y hy hP;have:=D x y (h'.1 y hy) hP;rw[e] at this;cases this
theorem l_Q {P:ρ->Bool} (D:n_y lt P) {l:List ρ} (h:Srt lt l):∀x∈l.dropWhile P,P x=false:=by
 induction l with
 | nil=>intro x hx;cases hx
 | cons a r ih=>
   intro x hx;have h':=s_A.mp h;cases e:P a with
   | true=>rw[List.dropWhile_cons] at hx;simp only[e,if_true] at hx;exact ih h'.2 x hx
   | false=>
     rw[List.dropWhile_cons] at hx;simp only[e] at hx;rcases r_7.mp hx with rfl | hx
     ·exact e
     ·cases q:P x with
      | false=>rfl
      | true=>have:=D a x (h'.1 x hx) q;rw[e] at this;cases this
theorem l_Y {P:ρ->Bool} {l:List ρ}:∀x∈l.takeWhile P,P x=true:=by
 induction l with
 | nil=>intro x hx;cases hx
 | cons a r ih=>
   intro x hx;rw[List.takeWhile_cons] at hx;cases e:P a with
   | true=>
     simp only[e,if_true] at hx;rcases r_7.mp hx with rfl | hx
     ·exact e
     ·exact ih x hx
   | false=>simp[e] at hx
theorem Srt.ins {l:List ρ} {x:ρ} (tr:∀a b c,lt a b=true->lt b c=true->lt a c=true) (h:Srt lt l) (hx:∀y∈l,lt y x=true\/lt x y=true):
 Srt lt (l.takeWhile (λy=>lt y x)++x::l.dropWhile λy=>lt y x):=by
 have D:n_y lt λy=>lt y x:=λa b d hb=>tr a b x d hb;have e:=List.takeWhile_append_dropWhile (p:=λy=>lt y x) (l:=l);have hs:=h;rw[<-e,Srt.app] at hs;obtain⟨s1,s2,s3⟩:=hs;refine Srt.app.mpr ⟨s1,s_A.mpr ⟨λy hy=> ?_, s2⟩,λa ha b hb=> ?_⟩
 ·have hn:=l_Q D h y hy
  rcases hx y (by rw[<-e];exact r_9 _ hy) with z | z
  ·rw[hn] at z;cases z
  ·exact z
 ·rcases r_7.mp hb with rfl | hb
  ·exact l_Y (P:=λy=>lt y b) a ha
  ·exact s3 a ha b hb
theorem i_h {P:ρ->Bool} {l:List ρ} {x:ρ}:(l.takeWhile P++x::l.dropWhile P).Perm (x::l):=by
 have e:=List.takeWhile_append_dropWhile (p:=P) (l:=l);exact List.perm_middle.trans (by rw[e])
theorem Srt.one (ir:∀a,lt a a=false) (tr:∀a b c,lt a b=true->lt b c=true->lt a c=true):∀{l₁ l₂:List ρ},Srt lt l₁->Srt lt l₂->l₁.Perm l₂->l₁=l₂
 | [],l₂,_,_,p=>by rw[List.nil_perm.mp p]
 | a::r, [],_,_,p=>by cases List.perm_nil.mp p
 | a::r,b::t,h1,h2,p=>by
   have e:=s_A.mp h1;have d:=s_A.mp h2
   have f:a=b:=by
    rcases r_7.mp (p.mem_iff.mp (r_0 ..)) with q | q
    ·exact q
    ·rcases r_7.mp (p.mem_iff.mpr (r_0 ..)) with q' | q'
     ·exact q'.symm
     ·have z:=tr _ _ _ (e.1 b q') (d.1 a q)
      rw[ir] at z;cases z
   subst f;rw[Srt.one ir tr e.2 d.2 (List.Perm.cons_inv p)]
variable {P:ρ->Bool}
theorem c_a (D:n_y lt P):∀{B:List (List ρ)},Srt lt B.flatten->(∀b∈B,∃x,b.getLast? =some x/\P x=true)->∀x∈B.flatten,P x=true
 | [],_,_,x,hx=>by cases hx
 | b::B,h,hl,x,hx=>by
   rw[s_p] at h hx;have h':=Srt.app.mp h;rcases s_e.mp hx with hx | hx
   ·obtain⟨z,hz,pz⟩:=hl b (r_0 ..)
    obtain⟨ys,rfl⟩:=List.getLast?_eq_some_iff.mp hz;rcases s_e.mp hx with hx | hx
    ·exact D x z ((Srt.app.mp h'.1).2.2 x hx z (r_1.mpr rfl)) pz
    ·rw[r_1.mp hx];exact pz
   ·exact c_a D h'.2.1 (λc hc=>hl c (r_Z _ hc)) x hx
theorem g_0 (D:n_y lt P) {b t:List ρ} {z:ρ} (h:Srt lt (b++t)) (hz:b.getLast? =some z) (pz:P z=false):∀y∈t,P y=false:=λy hy=>by
 obtain⟨ys,rfl⟩:=List.getLast?_eq_some_iff.mp hz;cases e:P y with
 | false=>rfl
 | true=>
   have:=D z y ((Srt.app.mp h).2.2 z (r_9 _ (r_1.mpr rfl)) y hy) e;rw[pz] at this;cases this
theorem m_z {l₁ l₂:List ρ} (h:∀x∈l₁,P x=true):(l₁++l₂).takeWhile P=l₁++l₂.takeWhile P:=List.takeWhile_append_of_pos h
theorem o_D {l₁ l₂:List ρ} (h:∀x∈l₁,P x=true):(l₁++l₂).dropWhile P=l₂.dropWhile P:=List.dropWhile_append_of_pos h
theorem f_P:∀{b t:List ρ},(∀y∈t,P y=false)->(b++t).takeWhile P=b.takeWhile P/\(b++t).dropWhile P=b.dropWhile P++t
 | [], [],_=>⟨rfl,rfl⟩
 | [],y::t,h=>by
   have e:=h y (r_0 ..);simp[e]
 | x::b,t,h=>by
   obtain⟨h1,h2⟩:=f_P (b:=b) h;cases e:P x with
   | true=>simp only[List.cons_append,List.takeWhile_cons,List.dropWhile_cons,e,if_true,h1,h2,and_self]
   | false=>simp[e]
theorem i_w {B₁ B₂:List (List ρ)} {b:List ρ} {x:ρ} (h1:∀y∈B₁.flatten,P y=true) (h2:∀y∈B₂.flatten,P y=false):
 (B₁++(b.takeWhile P++x::b.dropWhile P)::B₂).flatten=(B₁++b::B₂).flatten.takeWhile P++x::(B₁++b::B₂).flatten.dropWhile P:=by
 rw[s_j,s_j,s_p,s_p,m_z h1,o_D h1,(f_P h2).1,(f_P h2).2];simp only[List.append_assoc,List.cons_append]
theorem g_n (D:n_y lt P) {B₁ B₂:List (List ρ)} {b:List ρ} (hs:Srt lt (B₁++b::B₂).flatten) (h1:∀y∈B₁.flatten,P y=true) (h2:∀y∈B₂.flatten,P y=false):
 ((B₁++b::B₂).flatten.filter P).length=(B₁.map List.length).sum+(b.takeWhile P).length:=by
 rw[<-c_U D hs,s_j,s_p,m_z h1,(f_P h2).1,r_Y,List.length_flatten]
theorem d_T {B:List (List ρ)} (h1:∀y∈B.flatten,P y=true):(B.flatten.filter P).length=(B.map List.length).sum:=by
 rw[List.filter_eq_self.mpr h1,List.length_flatten]
theorem h_I (ir:∀a,lt a a=false) {B₁ B₂:List (List ρ)} {b:List ρ} {x z:ρ} (hs:Srt lt (B₁++b::B₂).flatten) (hx:x∈(B₁++b::B₂).flatten) (h1:∀y∈B₁.flatten,lt y x=true)
 (hz:b.getLast? =some z) (pz:lt z x=false):x∈b:=by
 rw[s_j,s_p] at hs hx;rcases s_e.mp hx with d | d
 ·have:=h1 x d;rw[ir] at this;cases this
 ·rcases s_e.mp d with c | c
  ·exact c
  ·obtain⟨ys,rfl⟩:=List.getLast?_eq_some_iff.mp hz
   have:=(Srt.app.mp (Srt.app.mp hs).2.1).2.2 z (r_9 _ (r_1.mpr rfl)) x c;rw[pz] at this;cases this
theorem p_z (ir:∀a,lt a a=false) {l:List ρ} {x:ρ} (hx:x∈l) (h1:∀y∈l,lt y x=true):False:=by
 have:=h1 x hx;rw[ir] at this;cases this
variable [DecidableEq ρ]
theorem g_A {B₁ B₂:List (List ρ)} {b:List ρ} {x:ρ} (hs:Srt lt (B₁++b::B₂).flatten) (hx:x∈b):
 Srt lt (B₁++b.erase x::B₂).flatten/\(x::(B₁++b.erase x::B₂).flatten).Perm (B₁++b::B₂).flatten:=by
 rw[s_j,s_p] at hs ⊢;rw[s_j,s_p];refine⟨List.Pairwise.sublist (List.Sublist.append (List.Sublist.refl _) (List.Sublist.append List.erase_sublist (List.Sublist.refl _))) hs,?_⟩;refine List.Perm.trans List.perm_middle.symm (List.Perm.append_left _ ?_);exact (List.Perm.append_right _ (List.perm_cons_erase hx).symm:(x::b.erase x++B₂.flatten).Perm (b++B₂.flatten))
end
section
variable {α:Type}
theorem k_Q {l₁ l₂:List α} {a b:α}:(l₁++a::l₂).set l₁.length b=l₁++b::l₂:=by
 rw[List.set_append_right _ _ (r_5 _),Nat.sub_self,List.set_cons_zero]
theorem g_k {l₁ l₂:List α} {a:α}:(l₁++a::l₂).eraseIdx l₁.length=l₁++l₂:=by
 rw[List.eraseIdx_append_of_length_le (r_5 _),Nat.sub_self,List.eraseIdx_zero,List.tail_cons]
theorem c_9 {l₁ l₂:List α} {a:α}:(l₁++a::l₂)[l₁.length]? =some a:=by
 rw[List.getElem?_append_right (r_5 _),Nat.sub_self,List.getElem?_cons_zero]
theorem d_7 {l:List α} {i:Nat} {a:α} (h:l[i]? =some a):∃l₁ l₂,l=l₁++a::l₂/\l₁.length=i:=by
 obtain⟨hi,e⟩:=s_a.mp h;refine⟨l.take i,l.drop (i+1),?_, by rw[s_i];omega⟩;rw[<-e,List.getElem_cons_drop,s_z]
end
end TO
namespace TO
open PySem PySem.W PyProof.Rows
abbrev pg (p:Array Nat) (a:Nat):Nat:=p.getD a 0
structure Rear (n:Nat) (p:Array Nat):Prop where
 perm:p.Perm (List.toArray (List.range n))
theorem Rear.size {n:Nat} {p:Array Nat} (h:Rear n p):p.size=n:=by
 have:=h.perm.size_eq;simpa using this
theorem d_s (p:Array Nat) (a:Nat):pg p a=(p[a]?).getD 0:=Array.getD_eq_getD_getElem?
theorem Rear.lt {n:Nat} {p:Array Nat} (h:Rear n p) {a:Nat} (ha:a < n):pg p a < n:=by
 have hs:=h.size;have:p[a]'(by omega)∈p:=Array.getElem_mem _;have:=h.perm.mem_iff.mp this;rw[d_s,getElem?_pos p a (by omega)];simpa using this
theorem Rear.nodup {n:Nat} {p:Array Nat} (h:Rear n p):p.toList.Nodup:=by
 have:=(Array.perm_iff_toList_perm.mp h.perm).nodup_iff.mpr (by simpa using List.nodup_range);exact this
theorem Rear.inj {n:Nat} {p:Array Nat} (h:Rear n p) {a b:Nat} (ha:a < n) (hb:b < n) (hab:a≠b):pg p a≠pg p b:=by
 have hs:=h.size;intro e;rw[d_s,d_s,getElem?_pos p a (by omega),getElem?_pos p b (by omega)] at e;have e':p.toList[a]'(by simp;omega)=p.toList[b]'(by simp;omega):=by simpa using e
 have hp:=List.pairwise_iff_getElem.mp h.nodup;rcases Nat.lt_or_gt_of_ne hab with q | q
 ·exact hp a b _ _ q e'
 ·exact hp b a _ _ q e'.symm
structure SO (n:Nat) (lt:Nat->Nat->Bool):Prop where
 tr:∀a b c,a < n->b < n->c < n->lt a b=true->lt b c=true->lt a c=true
 tri:∀a b,a < n->b < n->a≠b->lt a b=false->lt b a=true
def Up (lt:Nat->Nat->Bool) (p:Array Nat) (m:Nat):Prop:=∀a b,a < b->b < m->lt (pg p a) (pg p b)=true
def Dn (lt:Nat->Nat->Bool) (p:Array Nat) (m:Nat):Prop:=∀a b,a < b->b < m->lt (pg p b) (pg p a)=true
section
variable {n:Nat} {s:Shared} {lt:Nat->Nat->Bool} {cmp:Nat->Nat->(Bool->Shared->Prop)->Shared->Prop}
theorem Up.next (O:SO n lt) {p:Array Nat} (R:Rear n p) {m:Nat} (h:Up lt p m) (h1:1<=m) (hm:m < n) (hl:lt (pg p (m - 1)) (pg p m)=true):Up lt p (m+1):=by
 intro a b c hb;by_cases e:b=m
 ·subst e
  by_cases e2:a=b - 1
  ·subst e2;exact hl
  ·exact O.tr _ _ _ (R.lt (by omega)) (R.lt (by omega)) (R.lt hm) (h a (b - 1) (by omega) (by omega)) hl
 ·exact h a b c (by omega)
theorem Dn.next (O:SO n lt) {p:Array Nat} (R:Rear n p) {m:Nat} (h:Dn lt p m) (h1:1<=m) (hm:m < n) (hl:lt (pg p m) (pg p (m - 1))=true):Dn lt p (m+1):=by
 intro a b c hb;by_cases e:b=m
 ·subst e
  by_cases e2:a=b - 1
  ·subst e2;exact hl
  ·exact O.tr _ _ _ (R.lt (by omega)) (R.lt (by omega)) (R.lt (by omega)) hl (h a (b - 1) (by omega) (by omega))
 ·exact h a b c (by omega)
theorem j_j (O:SO n lt) (hc:∀i j C,i < n->j < n->C (lt i j) s->cmp i j C s) {p:Array Nat} (R:Rear n p) {Q:Nat->Shared->Prop}:
 ∀(f a:Nat),1<=a->a+f=n->Up lt p a->(∀m,a<=m->m<=n->Up lt p m->(m=n\/(m < n/\lt (pg p m) (pg p (m - 1))=true))->Q m s)->(kas_asc p f a).kasWp cmp Q s
 | 0,a,h1,ha,hu,hq=>hq a (r_5 _) (by omega) hu (.inl (by omega))
 | f+1,a,h1,ha,hu,hq=>by
   have b:a < n:=by omega
   refine hc _ _ _ (R.lt b) (R.lt (by omega)) ?_;cases e:lt (pg p a) (pg p (a - 1)) with
   | true=>exact hq a (r_5 _) (by omega) hu (.inr ⟨b,e⟩)
   | false=>
     have hl:=O.tri _ _ (R.lt b) (R.lt (by omega)) (R.inj b (by omega) (by omega)) e;exact j_j O hc R f (a+1) (by omega) (by omega) (hu.next O R h1 b hl) λm hm c=>hq m (by omega) c
theorem k_I (O:SO n lt) (hc:∀i j C,i < n->j < n->C (lt i j) s->cmp i j C s) {p:Array Nat} (R:Rear n p) {Q:Array Nat×Nat×Nat->Shared->Prop}:
 ∀(f a:Nat),1<=a->a+f=n->Dn lt p a->(∀m,a<=m->m<=n->Dn lt p m->Q (p,m,0) s)->(kas_desc f p a 0).kasWp cmp Q s
 | 0,a,h1,ha,hu,hq=>hq a (r_5 _) (by omega) hu
 | f+1,a,h1,ha,hu,hq=>by
   have b:a < n:=by omega
   refine hc _ _ _ (R.lt b) (R.lt (by omega)) ?_;cases e:lt (pg p a) (pg p (a - 1)) with
   | true=>
     dsimp only;rw[if_pos rfl,if_neg (by omega)];exact k_I O hc R f (a+1) (by omega) (by omega) (hu.next O R h1 b e) λm hm c=>hq m (by omega) c
   | false=>
     have hl:=O.tri _ _ (R.lt b) (R.lt (by omega)) (R.inj b (by omega) (by omega)) e;refine hc _ _ _ (R.lt (by omega)) (R.lt b) ?_;rw[show lt (p.getD (a - 1) 0) (p.getD a 0)=true from hl];exact hq a (r_5 _) (by omega) hu
theorem m_y {p:Array Nat} {m:Nat} (hm:m<=p.size) (k:Nat):pg (kas_rev p 0 m) k=if k < m then pg p (m - 1 - k) else pg p k:=by
 rw[d_s,d_s,d_s];unfold kas_rev;rw[getElem?_mirror_all hm];by_cases h:k < m
 ·rw[if_pos ⟨s_o _,h⟩,if_pos h,Nat.zero_add]
 ·rw[if_neg (λq=>h q.2),if_neg h]
theorem Rear.rev {p:Array Nat} (R:Rear n p) (i j:Nat):Rear n (kas_rev p i j):=⟨(mirror_perm _ _ _ _).trans R.perm⟩
theorem Dn.rev {p:Array Nat} (R:Rear n p) {m:Nat} (h:Dn lt p m) (hm:m<=n):Up lt (kas_rev p 0 m) m:=by
 intro a b hab hb;have hs:=R.size;rw[m_y (by omega),m_y (by omega),if_pos (by omega),if_pos hb];exact h (m - 1 - b) (m - 1 - a) (by omega) (by omega)
theorem l_B (O:SO n lt) (hc:∀i j C,i < n->j < n->C (lt i j) s->cmp i j C s) {p:Array Nat} (R:Rear n p) (hn:1<=n) {Q:Nat×Array Nat->Shared->Prop}
 (hq:∀m p',Rear n p'->1<=m->m<=n->Up lt p' m->Q (m,p') s):(kas_count n p).kasWp cmp Q s:=by
 unfold kas_count;rw[KasT.kasWp_bind];refine j_j O hc R (n - 1) 1 (r_5 _) (by omega) (λa b _ _=>by omega) λm h1 hm hu c=> ?_;by_cases e:m=n
 ·subst e
  rw[if_pos (by simp)];exact hq m p R h1 hm hu
 ·rw[if_neg (by simpa using e)]
  by_cases g:m > 1
  ·rw[if_pos g]
   refine hc _ _ _ (R.lt (by omega)) (R.lt (by omega)) ?_;rw[hu 0 (m - 1) (by omega) (by omega)];exact hq m p R h1 hm hu
  ·rw[if_neg g]
   have e1:m=1:=by omega
   subst e1
   have hl:lt (pg p 1) (pg p 0)=true:=by
    rcases c with q | q
    ·exact absurd q e
    ·exact q.2
   unfold kas_descPart;rw[KasT.kasWp_bind];refine k_I O hc R (n - 2) 2 (by omega) (by omega) (λa b f hb=> ?_) λm h2 hm hd=> ?_
   ·have:a=0:=by omega
    have:b=1:=by omega
    subst a b;exact hl
   ·rw[if_neg (by simp)]
    unfold kas_tail3;rw[KasT.kasWp_bind];exact j_j O hc (R.rev 0 m) (n - m) m (by omega) (by omega) (hd.rev R hm) λk hk d hu _=>hq k _ (R.rev 0 m) (by omega) d hu
theorem f_r (O:SO n lt) (hc:∀i j C,i < n->j < n->C (lt i j) s->cmp i j C s) {p:Array Nat} (R:Rear n p) {k:Nat} (hk:k < n) (hu:Up lt p k) {Q:Nat->Shared->Prop}:
 ∀(f l r:Nat),l<=r->r<=k->r - l<=f->(∀a,a < l->lt (pg p a) (pg p k)=true)->(∀a,r<=a->a < k->lt (pg p k) (pg p a)=true)->
  (∀l,l<=k->(∀a,a < l->lt (pg p a) (pg p k)=true)->(∀a,l<=a->a < k->lt (pg p k) (pg p a)=true)->Q l s)->(kas_place p k f l r).kasWp cmp Q s
 | 0,l,r,h1,h2,h3,ha,hb,hq=>by
   have:l=r:=by omega
   subst this;exact hq l h2 ha hb
 | f+1,l,r,h1,h2,h3,ha,hb,hq=>by
   unfold kas_place;by_cases e:l ≥ r
   ·rw[if_pos e]
    have:l=r:=by omega
    subst this;exact hq l h2 ha hb
   ·rw[if_neg e]
    refine hc _ _ _ (R.lt hk) (R.lt (by omega)) ?_;cases c:lt (pg p k) (pg p ((l+r) / 2)) with
    | true=>
      refine f_r O hc R hk hu f l ((l+r) / 2) (by omega) (by omega) (by omega) ha (λa h4 h5=> ?_) hq;by_cases e3:a=(l+r) / 2
      ·subst e3;exact c
      ·exact O.tr _ _ _ (R.lt hk) (R.lt (by omega)) (R.lt (by omega)) c (hu _ a (by omega) h5)
    | false=>
      have c':=O.tri _ _ (R.lt hk) (R.lt (by omega)) (R.inj hk (by omega) (by omega)) c;refine f_r O hc R hk hu f ((l+r) / 2+1) r (by omega) h2 (by omega) (λa h4=> ?_) hb hq;by_cases e3:a=(l+r) / 2
      ·subst e3;exact c'
      ·exact O.tr _ _ _ (R.lt (by omega)) (R.lt (by omega)) (R.lt hk) (hu a _ (by omega) (by omega)) c'
theorem g_o {p:Array Nat} {k d:Nat} (hk:k < p.size) (hd:d<=k) (a:Nat):pg (bubble p k d) a=if a=k - d then pg p k else if k - d < a/\a<=k then pg p (a - 1) else pg p a:=by
 rw[d_s,d_s,d_s,d_s,getElem?_bubble hk d hd]
 repeat' split
 all_goals rfl
theorem m_p (O:SO n lt) (hc:∀i j C,i < n->j < n->C (lt i j) s->cmp i j C s) {Q:Array Nat->Shared->Prop}:
 ∀(f k:Nat) (p:Array Nat),Rear n p->k+f=n->Up lt p k->(∀p',Rear n p'->Up lt p' n->Q p' s)->(kas_bin f p k).kasWp cmp Q s
 | 0,k,p,R,hk,hu,hq=>by
   have:k=n:=by omega
   subst this;exact hq p R hu
 | f+1,k,p,R,hk,hu,hq=>by
   unfold kas_bin;rw[KasT.kasWp_bind];have hs:=R.size;refine f_r O hc R (by omega) hu k 0 k (by omega) (r_5 _) (by omega) (λa h=>by omega) (λa h1 h2=>by omega) λl hl h1 h2=> ?_;refine m_p O hc f (k+1) _ ⟨(bubble_perm _ _ _).trans R.perm⟩ (by omega) (λa b c hb=> ?_) hq;rw[g_o (by omega) (by omega),g_o (by omega) (by omega)];have e:k - (k - l)=l:=by omega
   rw[e];by_cases a1:a=l
   ·rw[if_pos a1,if_neg (by omega),if_pos (by omega)]
    exact h2 _ (by omega) (by omega)
   ·rw[if_neg a1]
    by_cases a2:l < a/\a<=k
    ·rw[if_pos a2,if_neg (by omega),if_pos (by omega)]
     exact hu _ _ (by omega) (by omega)
    ·rw[if_neg a2]
     by_cases b1:b=l
     ·rw[if_pos b1]
      exact h1 _ (by omega)
     ·rw[if_neg b1]
      by_cases b2:l < b/\b<=k
      ·rw[if_pos b2]
       by_cases b3:a < b - 1
       ·exact hu _ _ b3 (by omega)
       ·omega
      ·rw[if_neg b2]
       exact hu _ _ c (by omega)
theorem i_9 (O:SO n lt) (hc:∀i j C,i < n->j < n->C (lt i j) s->cmp i j C s) (hn:1<=n) {Q:Array Nat->Shared->Prop} (hq:∀p,Rear n p->Up lt p n->Q p s):(kas_sort n).kasWp cmp Q s:=by
 unfold kas_sort;rw[KasT.kasWp_bind];refine l_B O hc ⟨Array.Perm.refl _⟩ hn λm p R h1 h2 hu=> ?_;by_cases e:m < n
 ·rw[if_pos e]
  have e2:max m 1=m:=by omega
  dsimp only;rw[e2];exact m_p O hc _ m p R (by omega) hu hq
 ·rw[if_neg e]
  have:m=n:=by omega
  subst this;exact hq p R hu
end
end TO
namespace TO
open PySem L2
theorem c_h (x:V):ltV x x=false:=by
 cases x <;> simp[ltV]
theorem e_r {x y z:V} (h1:ltV x y=true) (h2:ltV y z=true):ltV x z=true:=by
 cases x <;> cases y <;> (try simp[ltV] at h1) <;> cases z <;> (try simp[ltV] at h2)
 ·simp only[ltV,decide_eq_true_eq];omega
 ·simp only[ltV,decide_eq_true_eq];exact List.lt_trans h1 h2
theorem n_T {a b:Str} (h:a.cps.toList=b.cps.toList):a=b:=by
 cases a;cases b;simp at h;simp[h]
theorem g_1 {x y:V} (ha:b_h x y=true) (h:ltV x y=false) (hn:x≠y):ltV y x=true:=by
 cases x <;> cases y <;> (try cases ha)
 ·rename_i a b
  simp only[ltV,decide_eq_false_iff_not,decide_eq_true_eq] at h ⊢;have:a≠b:=λe=>hn (by rw[e]);omega
 ·rename_i a b
  simp only[ltV,decide_eq_false_iff_not,decide_eq_true_eq] at h ⊢;have c:a.cps.toList≠b.cps.toList:=λe=>hn (by rw[n_T e]);have h':b.cps.toList<=a.cps.toList:=h;rcases List.le_iff_lt_or_eq.mp h' with q | q
  ·exact q
  ·exact absurd q.symm c
theorem j_0 {x y:V} (h:ltV x y=true):ltV y x=false:=by
 cases e:ltV y x with
 | false=>rfl
 | true=>have:=e_r h e;rw[c_h] at this;cases this
theorem p_v {x y:V} (h:ltV x y=true):x≠y:=λe=>by rw[e,c_h] at h;cases h
theorem e_c:∀xs:List V,b_a xs xs=false
 | []=>rfl
 | x::r=>by rw[b_g,if_pos rfl];exact e_c r
theorem c_O:∀{xs ys zs:List V},b_a xs ys=true->b_a ys zs=true->b_a xs zs=true
 | [], [],_,h,_=>by cases h
 | [],_::_, [],_,h=>by cases h
 | [],_::_,_::_,_,_=>rfl
 | _::_, [],_,h,_=>by cases h
 | _::_,_::_, [],_,h=>by cases h
 | x::xs,y::ys,z::zs,h1,h2=>by
   rw[b_g] at h1 h2 ⊢;by_cases e1:x=y
   ·subst e1
    rw[if_pos rfl] at h1;by_cases e2:x=z
    ·rw[if_pos e2] at h2 ⊢
     exact c_O h1 h2
    ·rw[if_neg e2] at h2 ⊢
     exact h2
   ·rw[if_neg e1] at h1
    by_cases e2:y=z
    ·subst e2
     rw[if_neg e1];exact h1
    ·rw[if_neg e2] at h2
     have h3:=e_r h1 h2;rw[if_neg (p_v h3)];exact h3
structure Row where
 n:Int
 r:Int
 t:Str
deriving DecidableEq
def d_Y (ρ:Row):List V:= [.int ρ.n,.int ρ.r,.str ρ.t]
theorem e_b {ρ ρ':Row} (h:d_Y ρ=d_Y ρ'):ρ=ρ':=by
 cases ρ;cases ρ';simp[d_Y] at h;simp[h]
def c_u (w:Bool) (ρ:Row):V:=if w=true then .str ρ.t else .int ρ.r
def a_H (w:Bool) (ρ:Row):List V:= [c_u w ρ,.int ρ.n]
def ltR (w:Bool) (a b:Row):Bool:=b_a (a_H w a) (a_H w b)
theorem c_N (w:Bool) (a b:Row):b_h (c_u w a) (c_u w b)=true:=by cases w <;> rfl
theorem c_x (w:Bool) (a b:Row):d_V (a_H w a) (a_H w b):=⟨c_N w a b,rfl,trivial⟩
theorem b_M (w:Bool) (a:Row):ltR w a a=false:=e_c _
theorem c_D (w:Bool) (a b c:Row) (h1:ltR w a b=true) (h2:ltR w b c=true):ltR w a c=true:=c_O h1 h2
theorem h_a {w:Bool} {a b:Row} (hn:a.n≠b.n):ltR w a b=true\/ltR w b a=true:=by
 unfold ltR a_H;rw[b_g (c_u w a),b_g (c_u w b)];by_cases e:c_u w a=c_u w b
 ·rw[if_pos e,if_pos e.symm,b_g (.int a.n),b_g (.int b.n)]
  have n1:¬ V.int a.n=V.int b.n:=λq=>hn (by injection q);have n2:¬ V.int b.n=V.int a.n:=λq=>hn (by injection q with q;exact q.symm);rw[if_neg n1,if_neg n2];simp only[ltV,decide_eq_true_eq];omega
 ·rw[if_neg e,if_neg (λq:c_u w b=c_u w a=>e q.symm)]
  cases q:ltV (c_u w a) (c_u w b) with
  | true=>exact .inl rfl
  | false=>exact .inr (g_1 (c_N w a b) q e)
theorem b_W (w:Bool) (q:List V):n_y (ltR w) λx=>b_a (a_H w x) q:=λ_ _ h1 h2=>c_O h1 h2
theorem l_0 (w:Bool) (x:Row) (l:V):b_a (a_H w x) [l]=ltV (c_u w x) l:=by
 unfold a_H;rw[b_g];by_cases e:c_u w x=l
 ·rw[if_pos e,e,c_h];rfl
 ·rw[if_neg e]
theorem l_r {w:Bool} {a b:Row} (h:ltR w a b=true):ltV (c_u w b) (c_u w a)=false:=by
 unfold ltR a_H at h;rw[b_g] at h;by_cases e:c_u w a=c_u w b
 ·rw[e];exact c_h _
 ·rw[if_neg e] at h
  exact j_0 h
end TO
namespace TO
open PySem PySem.Spec PyProof.Rows L2
def RowAt (H:Hp) (a:Addr) (ρ:Row):Prop:=H a=some (.tup (d_Y ρ))
abbrev RowsAt (H:Hp):List Addr->List Row->Prop:=Paired (RowAt H)
def LstAt (H:Hp) (l:Addr) (ρs:List Row):Prop:=∃as:List Addr,H l=some (.lst (as.map .ref))/\RowsAt H as ρs
theorem RowsAt.same {H H':Hp} (s:∀b xs,H b=some (.tup xs)->H' b=some (.tup xs)):∀{as:List Addr} {ρs:List Row},RowsAt H as ρs->RowsAt H' as ρs
 | _,_,.nil=> .nil
 | _,_,.cons h t=> .cons (s _ _ h) (RowsAt.same s t)
theorem RowsAt.app {H:Hp}:∀{as bs:List Addr} {ρs κs:List Row},RowsAt H as ρs->RowsAt H bs κs->RowsAt H (as++bs) (ρs++κs)
 | _,_,_,_,.nil,h=>h
 | _,_,_,_,.cons a t,h=> .cons a (RowsAt.app t h)
theorem RowsAt.get {H:Hp}:∀{as:List Addr} {ρs:List Row} {i:Nat} {ρ:Row},RowsAt H as ρs->ρs[i]? =some ρ->∃a,as[i]? =some a/\RowAt H a ρ
 | _,_,_,_,.nil,e=>by simp at e
 | _,_,0,_,.cons r _,e=>by simp at e;subst e;exact⟨_,rfl,r⟩
 | _,_,i+1,_,.cons _ t,e=>by
   obtain⟨u,h1,h2⟩:=RowsAt.get (i:=i) t (by simpa using e);exact⟨u,by simpa using h1,h2⟩
theorem RowsAt.get' {H:Hp}:∀{as:List Addr} {ρs:List Row} {i:Nat} {a:Addr},RowsAt H as ρs->as[i]? =some a->∃ρ,ρs[i]? =some ρ/\RowAt H a ρ
 | _,_,_,_,.nil,e=>by simp at e
 | _,_,0,_,.cons r _,e=>by simp at e;subst e;exact⟨_,rfl,r⟩
 | _,_,i+1,_,.cons _ t,e=>by
   obtain⟨u,h1,h2⟩:=RowsAt.get' (i:=i) t (by simpa using e);exact⟨u,by simpa using h1,h2⟩
theorem RowsAt.len {H:Hp} {as:List Addr} {ρs:List Row} (h:RowsAt H as ρs):as.length=ρs.length:=Paired.length h
theorem RowsAt.take {H:Hp}:∀{as:List Addr} {ρs:List Row} (n:Nat),RowsAt H as ρs->RowsAt H (as.take n) (ρs.take n)
 | _,_,0,_=> .nil
 | _,_,_+1,.nil=> .nil
 | _,_,n+1,.cons r t=> .cons r (RowsAt.take n t)
theorem RowsAt.drop {H:Hp}:∀{as:List Addr} {ρs:List Row} (n:Nat),RowsAt H as ρs->RowsAt H (as.drop n) (ρs.drop n)
 | _,_,0,r=>r
 | _,_,_+1,.nil=> .nil
 | _,_,n+1,.cons _ t=>RowsAt.drop n t
theorem RowsAt.eraseIdx {H:Hp}:∀{as:List Addr} {ρs:List Row} (n:Nat),RowsAt H as ρs->RowsAt H (as.eraseIdx n) (ρs.eraseIdx n)
 | _,_,_,.nil=> .nil
 | _,_,0,.cons _ t=>t
 | _,_,n+1,.cons r t=> .cons r (RowsAt.eraseIdx n t)
theorem LstAt.same {H H':Hp} {l:Addr} {ρs:List Row} (h:LstAt H l ρs) (e:H' l=H l) (s:∀b xs,H b=some (.tup xs)->H' b=some (.tup xs)):LstAt H' l ρs:=by
 obtain⟨as,h1,h2⟩:=h;exact⟨as,e.trans h1,h2.same s⟩
theorem LstAt.sameS {H H':Hp} {l:Addr} {ρs:List Row} (h:LstAt H l ρs) (s:Same H H'):LstAt H' l ρs:=by
 obtain⟨as,h1,h2⟩:=h;exact⟨as,s _ _ h1,h2.same λb xs q=>s _ _ q⟩
theorem d_u {α β:Type} (f:α->β):∀(l:List α) (i:Nat),(l.map f).eraseIdx i=(l.eraseIdx i).map f
 | [],_=>rfl
 | _::_,0=>rfl
 | a::r,i+1=>by simp[d_u f r i]
theorem c_K:∀as:List Addr,Vals (as.map V.ref) (as.map Value.ref)
 | []=> .nil
 | _::r=> .cons rfl (c_K r)
theorem e_s {α:Type} [DecidableEq α] {a:α}:∀{l:List α} {m:Nat},m < l.idxOf a->l[m]?≠some a
 | [],m,h=>by simp
 | x::r,m,h=>by
   rw[List.idxOf_cons] at h;cases e:x == a with
   | true=>rw[e] at h;simp at h
   | false=>
     rw[e] at h;cases m with
     | zero=>intro q;simp at q;subst q;simp at e
     | succ m=>
       rw[List.getElem?_cons_succ];exact e_s (by simpa using h)
section
variable {X:Cx}
theorem p_G {pins:List (Addr×Obj)} {σ:L2.St} {H:Hp} {s:Shared} {A:Around} (I:Inv X pins σ H s) {a b:Addr} {ρ ρ':Row} (hb:RowAt H b ρ') (ha:RowAt H a ρ) (hu:A.units < cLine):SeqAt.EqAt A s (.ref b) (.ref a) (decide (ρ'=ρ)):=by
 by_cases e:b=a
 ·subst e
  have:ρ'=ρ:=e_b (by have:=hb.symm.trans ha;injection this with this;injection this);subst this;rw[s_C rfl];exact SeqAt.EqAt.same _
 ·obtain⟨ib,rb,pb,_⟩:=I.tuple (SqT.of hb:SqT X.K H b (d_Y ρ'))
  obtain⟨ia,ra,pa,_⟩:=I.tuple (SqT.of ha:SqT X.K H a (d_Y ρ));have lb:=rb.length;have la:=ra.length;have f:ib.length=3:=by rw[<-lb];rfl
  have g:ia.length=3:=by rw[<-la];rfl
  have z:=SeqAt.RcAt.tuples (A:=A) (s:=s) (l:=b) (b:=a) (items:=ib.toArray) (items2:=ia.toArray) (e:=λj=>decide ((d_Y ρ')[j]? =(d_Y ρ)[j]?)) pb pa hu (λj h1 h2=>by
   have d:j < 3:=by simpa[f] using h1
   have g1:∃x,(d_Y ρ')[j]? =some x:=⟨_,r_X (show j < 3 from d)⟩;have g2:∃x,(d_Y ρ)[j]? =some x:=⟨_,r_X (show j < 3 from d)⟩;obtain⟨x,ex⟩:=g1;obtain⟨y,ey⟩:=g2;obtain⟨u,eu,ru⟩:=rb.get ex;obtain⟨v,ev,rv⟩:=ra.get ey
   have q1:ib.toArray[j]=u:=by
    have:ib[j]? =some ib[j]:=r_X (by omega);rw[this] at eu;simpa using eu
   have q2:ia.toArray[j]=v:=by
    have:ia[j]? =some ia[j]:=r_X (by omega);rw[this] at ev;simpa using ev
   rw[q1,q2,ex,ey]
   have al:b_h x y=true:=by
    match j,d with
    | 0,_=>simp[d_Y] at ex ey;subst ex ey;rfl
    | 1,_=>simp[d_Y] at ex ey;subst ex ey;rfl
    | 2,_=>simp[d_Y] at ex ey;subst ex ey;rfl
   have:=d_N (A:=A.in1) (s:=s) ru rv al;have e2:decide (some x=some y)=decide (x=y):=by simp
   rw[e2];exact this)
  refine SeqAt.EqAt.of_refs e ?_
  have e3:((List.range (min ib.toArray.size ia.toArray.size)).all (λj=>decide ((d_Y ρ')[j]? =(d_Y ρ)[j]?))&&ib.toArray.size == ia.toArray.size)=decide (ρ'=ρ):=by
   rw[r_6,r_6,f,g];by_cases q:ρ'=ρ
   ·subst q;simp
   ·rw[s_D q]
    cases c:((List.range (min 3 3)).all (λj=>decide ((d_Y ρ')[j]? =(d_Y ρ)[j]?))&&(3:Nat) == 3) with
    | false=>rfl
    | true=>
      exfalso;apply q;apply e_b;simp[List.range,List.range.loop,d_Y] at c;simp[d_Y,c]
  rw[e3] at z;exact z
def n_J:V->List V->Hp->VK->Prop:=λx vs H Q=>∃l,∃as:List Addr,∃a,∃ρs:List Row,∃ρ,x= .ref l/\vs= [.ref a]/\H l=some (.lst (as.map .ref))/\RowsAt H as ρs/\RowAt H a ρ/\ρ∈ρs/\
 Q .non (upd H l (.lst ((as.eraseIdx (ρs.idxOf ρ)).map .ref)))
theorem j_q (hu:X.A.units+1 < cLine):MtM X "list.remove" n_J:=by
 intro pins s σ H x vs v us Q I rx rv h;obtain⟨l,as,a,ρs,ρ,rfl,rfl,hH,hR,ha,hm,q⟩:=h;cases rx;obtain⟨u,rfl,ru⟩:=rv.one;cases ru;obtain⟨z,its,n,r,hl,e⟩:=I.lstM hH;have e1:=b_E r;subst e1;have j:=hR.len;have hj:ρs.idxOf ρ < ρs.length:=List.idxOf_lt_length_of_mem hm
 let ev:Value->Bool:=λv=>match v with
  | .ref b=>(match H b with | some (.tup ys)=>decide (ys=d_Y ρ) | _=>false)
  | _=>false
 have c:∀b ρ',RowAt H b ρ'->ev (.ref b)=decide (ρ'=ρ):=λb ρ' hb=>by
  show (match H b with | some (.tup ys)=>decide (ys=d_Y ρ) | _=>false)=_;rw[show H b=_ from hb];by_cases q:ρ'=ρ
  ·subst q;simp
  ·rw[s_D q]
   exact s_D λq'=>q (e_b q')
 have f:(as.map Value.ref).toArray.size<=sizeLine:=by rw[r_6,<-hl];exact z
 have d:ρs.idxOf ρ < (as.map Value.ref).toArray.size:=by simp;omega
 have item:∀m (hm:m < (as.map Value.ref).toArray.size),∃b ρ',(as.map Value.ref).toArray[m]= .ref b/\ρs[m]? =some ρ'/\RowAt H b ρ':=λm hm=>by
  have i:m < as.length:=by simpa using hm
  obtain⟨ρ',h1,h2⟩:=hR.get' (r_X i);exact⟨as[m],ρ',by simp,h1,h2⟩
 refine call_meets F.slot_list_remove ⟨_,e,rfl⟩ F.entry_list_remove (F.args_list_remove_2 _ _) (SeqAt.list_removeAt l (as.map Value.ref).toArray n (.ref a) ev (ρs.idxOf ρ) d ?_ ?_ f) ⟨e,λy hy=> ?_, ?_⟩
 ·obtain⟨b,ρ',e1,e2,hb⟩:=item _ d
  rw[e1,c b ρ' hb];rw[r_X hj,List.getElem_idxOf hj] at e2;cases e2;exact s_C rfl
 ·intro m hm g
  obtain⟨b,ρ',e1,e2,hb⟩:=item m hm;rw[e1,c b ρ' hb];refine s_D λq=> ?_;subst q;exact e_s g e2
 ·obtain⟨m,hm,e1⟩:=Array.getElem_of_mem hy
  obtain⟨b,ρ',e2,e3,hb⟩:=item m hm;rw[<-e1,e2,c b ρ' hb];exact p_G I hb ha (by first | exact hu | simpa using hu)
 ·refine⟨.non,_,I.lset (its':=(as.eraseIdx (ρs.idxOf ρ)).map Value.ref) hH e ?_ ?_ ?_, rfl,q⟩
  ·show (as.map Value.ref).toArray.eraseIdxIfInBounds (ρs.idxOf ρ)=_
   rw[List.eraseIdxIfInBounds_toArray,d_u]
  ·exact c_K _
  ·rw[r_W]
   have:=e_i as (ρs.idxOf ρ);rw[r_W] at hl z;omega
end
end TO
namespace L2
open PySem PySem.Spec PyProof.Rows
section
variable {X:Cx}
theorem b_k:c_W X (.builtin "isinstance") (λxs H Q=>∃x n t b,xs= [x,.ty n]/\h_H X.K H x t/\PySem.W.kitOne X.K t (.type n)=some b/\Q (.bl b) H):=by
 intro pins s σ H xs us Q I rv h;obtain⟨x,n,t,b,rfl,ty,e,q⟩:=h;obtain⟨u,v,rfl,ru,rc⟩:=rv.two;cases rc;exact j_6 I ru ty e λtk=>⟨.bl b,H,I.tok tk,rfl,q⟩
example (K:PySem.W.Frag):PySem.W.kitOne K (.type "int") (.type "bool")=some false:=by rfl
example (K:PySem.W.Frag):PySem.W.kitOne K (.type "int") (.type "int")=some true:=by rfl
example (K:PySem.W.Frag):PySem.W.kitAny K (.type "int") [.type "list",.type "tuple"]=some false:=by rfl
theorem k_a:c_W X (.builtin "isinstance") (λxs H Q=>∃x tp,∃ns:List String,∃t b,xs= [x,.ref tp]/\h_H X.K H x (.type t)/\(t="int"\/t="str"\/t="list"\/t="tuple")/\H tp=some (.tup (ns.map V.ty))/\PySem.W.kitAny X.K (.type t) (ns.map Value.type)=some b/\Q (.bl b) H):=by
 intro pins s σ H xs us Q I rv h;obtain⟨x,tp,ns,t,b,rfl,ty,ht,hH,e,q⟩:=h;obtain⟨u,v,rfl,ru,rc⟩:=rv.two;cases rc;obtain⟨z2,d,r2,⟨j,k,data2,l⟩,c,f,n2,g⟩:=I.hok tp _ hH;simp only at f g;subst f g
 have e2:d=ns.map Value.type:=by
  clear c e hH z2;induction ns generalizing d with
  | nil=>cases r2;rfl
  | cons n r ih=>
    cases r2 with
    | cons h t=>rw[s_b,<-ih _ t];cases h;rfl
 subst e2;cases ty with
 | non=>rcases ht with h | h | h | h <;> exact absurd h (by decide)
 | bl y=>rcases ht with h | h | h | h <;> exact absurd h (by decide)
 | flt y=>rcases ht with h | h | h | h <;> exact absurd h (by decide)
 | dK ea=>rcases ht with h | h | h | h <;> exact absurd h (by decide)
 | dT ea=>rcases ht with h | h | h | h <;> exact absurd h (by decide)
 | int i=>obtain⟨t,z⟩:=(show ∃t,u=Value.int i t from ru);cases z;exact PySem.W.kia_tup PySem.W.kitx_int I.kIn True.intro c e (λz=>nomatch z) λtk=>⟨.bl b,H,I.tok tk,rfl,q⟩
 | str y=>obtain⟨t,z⟩:=(show ∃t,u=Value.str y t from ru);cases z;exact PySem.W.kia_tup PySem.W.kitx_str I.kIn True.intro c e (λz=>nomatch z) λtk=>⟨.bl b,H,I.tok tk,rfl,q⟩
 | @lst a xs ea=>
   cases (show u=Value.ref a from ru);obtain⟨_,_,n,_,h1⟩:=(show ObjOk X.prog X.w H s.heap a (.lst xs) from I.hok a _ ea);exact PySem.W.kia_tup PySem.W.kitx_list I.kIn ⟨_,h1,rfl⟩ c e (λz=>nomatch z) λtk=>⟨.bl b,H,I.tok tk,rfl,q⟩
 | @frz a ob xs ea=>
   cases (show u=Value.ref a from ru);obtain⟨_,_,_,n,_,h1⟩:=(show ObjOk X.prog X.w H s.heap a (.frz ob (.lst xs)) from I.hok a _ ea);exact PySem.W.kia_tup PySem.W.kitx_list I.kIn ⟨_,h1,rfl⟩ c e (λz=>nomatch z) λtk=>⟨.bl b,H,I.tok tk,rfl,q⟩
 | @tup a xs ea=>
   cases (show u=Value.ref a from ru);obtain⟨_,_,_,p⟩:=(show ObjOk X.prog X.w H s.heap a (.tup xs) from I.hok a _ ea);obtain⟨o,h1,h2,_⟩:=p;exact PySem.W.kia_tup PySem.W.kitx_tuple I.kIn ⟨o,h1,h2⟩ c e (λz=>nomatch z) λtk=>⟨.bl b,H,I.tok tk,rfl,q⟩
end
section
variable {prog:Program} {w:World} {A:Around} {E:Value->Shared->Prop} {s:Shared}
theorem i_r {a:Addr} {vs:List Value} {n:Nat} {P:PySem.Fin->Shared->Prop} (ho:s.heap.get? a=some (seqObj "list" vs.toArray n)) (h2:vs.length < 2)
 (h:P (.done (.ret .none)) { s with heap:=sortedHeap s.heap a vs vs.toArray }):wpAny (model prog w) A (Builtin.«list.sort» ⟨[.ref a], []⟩) P E s:=by
 rw[list_sort_plain];have ha:a < s.heap.objs.size:=Heap.lt_size ho;refine wpAny_bind (listItems_at ho rfl ?_);refine wpAny_bind (listUpdate_at ho rfl ?_);obtain⟨e1,ho1⟩:∃e1,(s.heap.update a (Obj.mapSeq λ_=> #[])).get? a=some (seqObj "list" #[] e1):=⟨_,get?_update_seq ho (λ_=> #[])⟩;refine wpAny_bind (seqEpoch_at ho1 rfl ?_);refine wpAny_bind (wpAny_newTuple ?_);refine wpAny_bind (wpAny_newList ?_);refine wpAny_holding ?_
 have b:(((s.heap.update a (Obj.mapSeq λ_=> #[])).push (seqObj "tuple" vs.toArray 0)).push (seqObj "list" #[] 0)).get? a=some (seqObj "list" #[] e1):=by
  rw[Heap.get?_push_ne _ _ _ (by rw[size_push',Heap.size_update];exact s_k (Nat.lt_succ_of_lt ha)),Heap.get?_push_ne _ _ _ (by rw[Heap.size_update];exact s_k ha)];exact ho1
 show wpAny (model prog w) A _ P E { s with heap:=((s.heap.update a (Obj.mapSeq λ_=> #[])).push (seqObj "tuple" vs.toArray 0)).push (seqObj "list" #[] 0) };dsimp only;have c:vs.toArray.size < 2:=by simpa using h2
 rw[if_pos c,if_pos c];refine wpAny_bind (wpAny_pure ?_);rw[StateT.run_pure];refine wpAny_bind (wpAny_pure ?_);dsimp only;refine wpAny_bind (seqEpoch_at b rfl ?_);refine wpAny_bind (listUpdate_at b rfl ?_ (hsz2:=by rw[Array.size_map];show (pairsOf vs).size<=_;rw[pairsOf_size,sizeLine_eq];omega));simp only[bne_self_eq_false,Bool.false_eq_true,if_false]
 have e3:(arrOf (SortSt.mk' general' (vs.toArray.zip vs.toArray) #[] 7 none)).map (·.2)=vs.toArray:=by
  show (vs.toArray.zip vs.toArray).map (·.2)=vs.toArray;simp[List.map_snd_zip]
 refine wpAny_pure ?_;have:=h;rw[<-e3] at this;exact this
theorem g_w {l:Addr} {vs:List Value} {Q:Value->Shared->Prop} (hl:s.heap.IsList l vs.toArray) (h2:vs.length < 2)
 (h:Q (.ref (s.heap.objs.size+1)) { s with heap:=sortedAll s.heap vs vs.toArray }):wpAny (model prog w) A (call (.builtin "sorted") [.ref l]) Q E s:=by
 refine Calls.call_function_entry kind_sorted plain_sorted entry_sorted (args_sorted1 _) ?_;unfold Builtin.«sorted»;refine wpAny_bind (m:=checkCount "sorted" 1 1 _) (wpAny_pure ?_);refine wpAny_bind (collect_list hl ?_);refine wpAny_bind (wpAny_newList ?_)
 have a:((s.heap.push (seqObj "list" #[] 0)).update s.heap.objs.size (Obj.mapSeq (·++vs.toArray))).objs.size=s.heap.objs.size+1:=by
  rw[Heap.size_update,size_push']
 have b:(((s.heap.push (seqObj "list" #[] 0)).update s.heap.objs.size (Obj.mapSeq (·++vs.toArray))).push (seqObj "list" vs.toArray 0)).get? (s.heap.objs.size+1)=some (seqObj "list" vs.toArray 0):=by
  rw[<-a];exact Heap.get?_push_size _ rfl
 show wpAny _ _ _ _ _ { s with heap:=((s.heap.push (seqObj "list" #[] 0)).update s.heap.objs.size (Obj.mapSeq (·++vs.toArray))).push (seqObj "list" vs.toArray 0) };rw[a];refine wpAny_bind (wpAny_holding (wpAny_call_entry slot_list_sort ⟨_,b,rfl⟩ entry_list_sort (i_r b h2 ⟨_,rfl,?_⟩) (args_list_sort _)));exact wpAny_pure ⟨_,rfl,h⟩
end
section
variable {prog:Program} {w:World} {A:Around} {E:Value->Shared->Prop} {s:Shared} {Q:Bool->Shared->Prop}
theorem f_H {b:Bool}:∀{xs ys:List V} {vs ws:List Value} (i:Nat),Vals xs vs->Vals ys ws->d_V xs ys->xs.length=ys.length->Q (b_a xs ys) s->PySem.W.KatLex prog w A b false Q (vs.zip ws) i s
 | [], [],_,_,i,.nil,.nil,_,_,q=>q
 | x::xs,y::ys,_,_,i,.cons (b:=u) rx tx,.cons (b:=v) ry ty,ha,hl,q=>by
   rw[List.zip_cons_cons];refine PySem.W.kat_cons (d_N rx ry ha.1 prog w _ _ ?_);rw[b_g] at q;by_cases e:x=y
   ·rw[if_pos e] at q
    rw[s_C e];exact PySem.W.kat_yes (f_H (i+1) tx ty ha.2 (by simpa using hl) q)
   ·rw[if_neg e] at q
    rw[s_D e];refine PySem.W.kat_no ?_;cases b&&i == 0 with
    | false=>exact PySem.W.kat_one _ _ (h_7 rx ry ha.1 q)
    | true=>
      have h:=ha.1;cases x with
      | int a=>
        cases y with
        | int c=>obtain⟨t,rfl⟩:=rx;obtain⟨t',rfl⟩:=ry;exact oneLt_int q
        | _=>cases h
      | str a=>
        cases y with
        | str c=>obtain⟨t,rfl⟩:=rx;obtain⟨t',rfl⟩:=ry;exact oneLt_str q
        | _=>cases h
      | _=>cases y <;> cases h
end
section
variable {X:Cx} {pins:List (Addr×Obj)} {σ:L2.St} {H:Hp} {s:Shared}
theorem Inv.led_none {D:Addr} (I:Inv X pins σ H s) (hn:s.heap.get? D=none):H D=none:=by
 cases q:H D with
 | none=>rfl
 | some u=>
   have h1:=(I.hok D u q);exfalso
   obtain⟨o,ho⟩:∃o,s.heap.get? D=some o:=by
    cases u with
    | lst xs=>obtain⟨_,_,_,_,e⟩:=h1;exact⟨_,e⟩
    | tup xs=>obtain⟨_,_,_,o,e,_⟩:=h1;exact⟨o,e⟩
    | dK kvs=>obtain⟨_,_,_,_,o,_,_,e,_⟩:=h1;exact⟨_,e⟩
    | dT kvs=>obtain⟨_,_,_,_,o,_,_,e,_⟩:=h1;exact⟨_,e⟩
    | set S n=>obtain⟨o,_,_,_,e,_⟩:=h1;exact⟨_,e⟩
    | ins C dx fs=>obtain⟨_,_,_,e,_⟩:=h1;exact⟨_,e⟩
    | own y=>exact h1
    | xd fs=>obtain⟨_,⟨_,_,_,e,_⟩,_⟩:=h1;exact⟨_,e⟩
    | rng lo hi=>obtain⟨_,_,_,e⟩:=h1;exact⟨_,e⟩
    | frz ob u=>obtain⟨e,_⟩:=h1;exact⟨_,e⟩
    | tbl ps=>exact⟨_,h1⟩
    | met f y=>exact⟨_,h1⟩
    | ext φ=>exact h1.2.1
   rw[hn] at ho;cases ho
theorem Inv.led {h':Heap} {m:Str->Option Value} {D:Addr} {c:Nat} {ys:List V} {its:List Value} {t':Nat} (I:Inv X pins σ H s) (hm:s.heap.Ns X.env.locals m) (F:Fr X.base X.env.locals h' m) (N:News X.base X.env.locals h' (c_X X.base s.heap X.env.locals))
 (hD:h'.get? D=some { cls:= .type "list",data:= .seq its.toArray c }) (hn:s.heap.get? D=none) (hv:Vals ys its) (hz:ys.length<=sizeLine):Inv X pins σ (upd H D (.lst ys)) { s with heap:=h',toks:=t' }:=by
 have keep:∀b o,b≠X.env.locals->s.heap.get? b=some o->h'.get? b=some o:=λb o h1 e=>by
  cases q:X.base.get? b with
  | some u=>
    have:=I.bk b u q;rw[e] at this;cases this;exact F.keep b _ q
  | none=>exact (N (b,o) (c_0 h1 q e)).1
 have ne:∀b o,s.heap.get? b=some o->b≠D:=λb o e z=>by rw[z,hn] at e;cases e
 have HD:H D=none:=I.led_none hn;have trk:∀b u,H b=some u->b≠X.env.locals:=λb u e z=>by rw[z,I.free] at e;cases e
 refine I.step (g':=s.gens) (d':=s.drawn) (ch:= []) (λ_ z=>nomatch z) (λb o h1 _ _ e _=>keep b o h1 e) (λb o h1 _ _ e _=>⟨o.slots,keep b o h1 e⟩) (λb o _ e n=>by rw[a_i (ne b o e)];exact n) (λb o _ e=> ?_)
  (λb xs e=>by rw[a_i (a_h e HD)];exact e) (λb o u e=>by rw[a_i (a_h e HD)];exact e) (λb ps e=>⟨#[],by rw[a_i (a_h e HD),e];simp⟩) (λm' a=> ?_) (λb u e=> ?_) I.bare
 ·by_cases hb:b=X.env.locals
  ·obtain⟨o',_,_,e',_⟩:=F.ns
   exact⟨o',by rw[hb];exact e'⟩
  ·exact⟨o,keep b o hb e⟩
 ·rw[a.eq_nsMap,<-hm.eq_nsMap]
  exact F.ns
 ·by_cases hb:b=D
  ·subst hb
   rw[a_b] at e;cases e;exact⟨hz,its,c,hv,hD⟩
  ·rw[a_i hb] at e
   refine (I.hok b u e).stay (λd v hd q=>keep d v ?_ q) (λd q=>by rw[a_i (a_h q HD)];exact q) λd xs q=>by rw[a_i (a_h q HD)];exact q
   rcases hd with z | z
   ·rw[z];exact trk b u e
   ·exact trk d _ z
end
end L2
namespace TO
open PySem PySem.Spec PyProof.Rows L2
abbrev c_b (H:Hp):List Addr->List (List V)->Prop:=Paired λa k=>H a=some (.tup k)
def o_s (K:PySem.W.Frag):List V->Hp->VK->Prop:=λxs H Q=>∃(p:Addr) (as:List Addr) (ks:List (List V)),xs= [.ref p]/\SqL K H p (as.map .ref)/\c_b H as ks/\as.length < 64/\(∀k∈ks,∃x r,k=x::r)/\
 (∀k∈ks,∀k'∈ks,d_V k k'/\k.length=k'.length)/\SO as.length (λi j=>b_a (ks.getD i []) (ks.getD j []))/\
 ∀(l:Addr) (is:List Nat),H l=none->is.Perm (List.range as.length)->(∀a b,a < b->b < as.length->b_a (ks.getD (is.getD a 0) []) (ks.getD (is.getD b 0) [])=true)->Q (.ref l) (upd H l (.lst (is.map λi=>V.ref (as.getD i 0))))
theorem c_Q {H:Hp}:∀{as:List Addr} {ks:List (List V)} {i:Nat},c_b H as ks->i < as.length->H (as.getD i 0)=some (.tup (ks.getD i []))/\ks.getD i []∈ks
 | _,_,0,.cons h _,_=>⟨h,by simp⟩
 | _::as,_::ks,i+1,.cons _ t,hi=>by
   have:=c_Q (i:=i) t (by simpa using hi);simp only[List.getD_cons_succ];exact⟨this.1,r_Z _ this.2⟩
section
variable {X:Cx}
theorem c_R {as:List Addr} {i:Nat} (h:i < as.length):(as.map Value.ref).getD i Value.none= .ref (as.getD i 0):=by
 rw[s_f,s_f,r_8,r_X h];rfl
theorem h_x:∀{as:List Addr},as.length < 2->(List.range as.length).map (λi=>V.ref (as.getD i 0))=as.map V.ref
 | [],_=>rfl
 | [a],_=>rfl
 | _::_::_,h=>by simp only[r_2] at h;omega
theorem h_e {pins:List (Addr×Obj)} {s:Shared} {σ:L2.St} {H:Hp} {Q:VK} {as:List Addr} {ks:List (List V)} {m:Str->Option Value} {D:Addr} {e1:Nat} {h':Heap} {tk:Nat} (I:Inv X pins σ H s) (hm:s.heap.Ns X.env.locals m) (hT:c_b H as ks) (h2:¬ as.length < 2) (h64:as.length < 64) (hne:∀k∈ks,∃x r,k=x::r)
 (hal:∀k∈ks,∀k'∈ks,d_V k k'/\k.length=k'.length) (hO:SO as.length (λi j=>b_a (ks.getD i []) (ks.getD j []))) (F':Fr X.base X.env.locals h' m) (N':News X.base X.env.locals h' ((D,seqObj "list" #[] e1)::c_X X.base s.heap X.env.locals)) (hD:∀q∈c_X X.base s.heap X.env.locals,q.1 < D)
 (q:∀(l:Addr) (is:List Nat),H l=none->is.Perm (List.range as.length)->(∀a b,a < b->b < as.length->b_a (ks.getD (is.getD a 0) []) (ks.getD (is.getD b 0) [])=true)->Q (.ref l) (upd H l (.lst (is.map λi=>V.ref (as.getD i 0))))):
 wpAny (model X.prog X.w) X.A.in1.in1 (keyKind' (as.map Value.ref).toArray) (λκ s'=>(PySem.W.kas_sort (as.map Value.ref).length).kasWp (PySem.W.kas_ask X.prog X.w X.A.in1.in1 κ (as.map Value.ref)) (λp s''=>PySem.W.KasFin X.base X.env.locals m D e1 (p.toList.map λi=>(as.map Value.ref).getD i Value.none) (λs3=>EP X pins σ Q (.ref D) s3) s'') s') (λ_ _=>False) { s with heap:=h',toks:=tk }:=by
 have K:as.length=ks.length:=Paired.length hT
 have g:s.heap.get? D=none:=by
  cases e:s.heap.get? D with
  | none=>rfl
  | some o=>
    have z:=N' (D,_) (r_0 ..);exact absurd (hD (D,o) (c_0 z.2.1 z.2.2 e)) (Nat.lt_irrefl _)
 -- the tuples stand in h' too
 have tup':∀a k,H a=some (.tup k)->∃its:List Value,Vals k its/\∃o n,h'.get? a=some o/\o.cls= .type "tuple"/\o.data= .seq its.toArray n:=λa k ha=>by
  obtain⟨_,its,rk,o,ho,hc,n,hd⟩:=I.hok a _ ha;refine⟨its,rk,o,n,?_, hc,hd⟩;have hL:a≠X.env.locals:=λz=>by rw[z,I.free] at ha;cases ha
  have hb:X.base.get? a=none:=by
   cases e:X.base.get? a with
   | none=>rfl
   | some v=>have:=(I.bs a v e).2;rw[ha] at this;cases this
  exact (N' (a,o) (r_Z _ (c_0 hL hb ho))).1
 have h0:0 < as.length:=by omega
 -- the kind of the first items
 have first:∃T:String,∃fs:List Value,PySem.W.KatTups h' (as.map Value.ref) fs/\fs.length=as.length/\(T="int"\/T="str")/\∀v∈fs,(∃i t,v= .int i t/\T="int")\/∃x t,v= .str x t/\T="str":=by
  obtain⟨k0,hk0⟩:∃k0,k0∈ks:=by
   cases ks with
   | nil=>rw[s_w] at K;omega
   | cons k r=>exact⟨k,r_0 ..⟩
  obtain⟨x0,r0,e0⟩:=hne k0 hk0
  have key:∀k∈ks,∃x r,k=x::r/\b_h x x0=true:=λk hk=>by
   obtain⟨x,r,rfl⟩:=hne k hk;have:=(hal _ hk _ hk0).1;rw[e0] at this;exact⟨x,r,rfl,this.1⟩
  have x0k:(∃i,x0= .int i)\/∃y,x0= .str y:=by
   have:=(hal _ hk0 _ hk0).1;rw[e0] at this;have z:=this.1
   cases x0 <;> first | exact .inl ⟨_,rfl⟩ | exact .inr ⟨_,rfl⟩ | cases z
  obtain⟨T,d⟩:∃T:String,((∃i,x0=V.int i)/\T="int")\/((∃y,x0=V.str y)/\T="str"):=by
   rcases x0k with c | c
   ·exact⟨"int",.inl ⟨c,rfl⟩⟩
   ·exact⟨"str",.inr ⟨c,rfl⟩⟩
  refine⟨T,?_⟩
  have go:∀{as':List Addr} {ks':List (List V)},c_b H as' ks'->(∀k∈ks',∃x r,k=x::r/\b_h x x0=true)->∃fs:List Value,PySem.W.KatTups h' (as'.map Value.ref) fs/\fs.length=as'.length/\
   ∀v∈fs,(∃i t,v=Value.int i t/\∃j,x0= .int j)\/∃y t,v=Value.str y t/\∃j,x0= .str j:=by
   intro as' ks' ht hk;induction ht with
   | nil=>exact⟨[],trivial,rfl,λv hv=>by cases hv⟩
   | cons ha _ ih=>
     obtain⟨fs,h1,h2,h3⟩:=ih λk h=>hk k (r_Z _ h);obtain⟨x,r,rfl,hx⟩:=hk _ (r_0 ..);obtain⟨its,rk,o,n,ho,hc,hd⟩:=tup' _ _ ha;cases rk with
     | @cons _ v _ its' rx rt=>
       refine⟨v::fs,PySem.W.KatTups.cons ho hc hd (by simp) h1,by simp[h2],λu hu=> ?_⟩;rcases r_7.mp hu with e | e
       ·subst e
        cases x with
        | int i=>obtain⟨t,rfl⟩:=rx;cases x0 <;> first | exact .inl ⟨i,t,rfl,_,rfl⟩ | cases hx
        | str y=>obtain⟨t,rfl⟩:=rx;cases x0 <;> first | exact .inr ⟨y,t,rfl,_,rfl⟩ | cases hx
        | _=>cases x0 <;> cases hx
       ·exact h3 u e
  obtain⟨fs,h1,h2,h3⟩:=go hT key;refine⟨fs,h1,h2,?_, λv hv=> ?_⟩
  ·rcases d with c | c
   ·exact .inl c.2
   ·exact .inr c.2
  ·rcases h3 v hv with⟨i,t,e,j,c⟩ | ⟨y,t,e,j,c⟩
   ·refine .inl ⟨i,t,e,?_⟩
    rcases d with⟨_,z⟩ | ⟨⟨y,z⟩,_⟩
    ·exact z
    ·rw[c] at z;cases z
   ·refine .inr ⟨y,t,e,?_⟩
    rcases d with⟨⟨y,z⟩,_⟩ | ⟨_,z⟩
    ·rw[c] at z;cases z
    ·exact z
 obtain⟨T,fs,J,S,B,F⟩:=first
 refine PySem.W.kat_kind (T:= .type T) J (by omega) (λv hv=> ?_) (by simp) ?_
 ·rcases F v hv with⟨i,t,rfl,e⟩ | ⟨y,t,rfl,e⟩
  ·rw[e];exact PySem.W.Looks.of_pure rfl
  ·rw[e];exact PySem.W.Looks.of_pure rfl
 have E:(Value.type T != Value.type "tuple")=true:=by rcases B with e | e <;> rw[e] <;> rfl
 rw[E,r_W];refine i_9 (n:=as.length) hO (λi j Cc hi hj hC=> ?_) (by omega) λpp R U=> ?_
 ·show wpAny _ _ (keyLt' (tuples' true) ((as.map Value.ref).getD i Value.none) ((as.map Value.ref).getD j Value.none)) _ _ _
  rw[c_R hi,c_R hj];obtain⟨gi,mi⟩:=c_Q hT hi;obtain⟨gj,mj⟩:=c_Q hT hj;obtain⟨vi,ri,oi,ni,L,_,M⟩:=tup' _ _ gi;obtain⟨vj,rj,oj,nj,O,_,G⟩:=tup' _ _ gj;have N:=(hal _ mi _ mj).2;have li:=ri.length;have lj:=rj.length;refine PySem.W.kat_lt L M O G ?_;have:decide (vi.toArray.size < vj.toArray.size)=false:=s_D (by rw[r_6,r_6];omega);rw[this];exact f_H 0 (by simpa using ri) (by simpa using rj) (hal _ mi _ mj).1 N hC
 ·refine PySem.W.KasFin.intro F' N' (PySem.W.UpdF.head λq hq=>s_k (hD q hq)) λP c F'' N''=> ?_
  have C:=R.size;have f:=(N'' (D,_) (r_0 ..)).1
  have eout:(pp.toList.map λi=>(as.map Value.ref).getD i Value.none)=(pp.toList.map λi=>Value.ref (as.getD i 0)):=by
   apply List.map_congr_left;intro i hi;have:i∈pp:=by simpa using hi
   have:=R.perm.mem_iff.mp this;exact c_R (by simpa using this)
  rw[eout] at f;have I':=I.led (t':=tk) (D:=D) (c:=c) (ys:=(pp.toList.map λi=>V.ref (as.getD i 0))) (its:=pp.toList.map λi=>Value.ref (as.getD i 0)) hm F'' (λq hq=>N'' q (r_Z _ hq)) f g ?_ ?_
  ·refine⟨.ref D,_,I',rfl,q D pp.toList ?_ ?_ ?_⟩
   ·exact I.led_none g
   ·have:=Array.perm_iff_toList_perm.mp R.perm
    simpa using this
   ·intro a b h1 h3
    have:=U a b h1 h3;rw[d_s,d_s] at this;simpa[s_f] using this
  ·have:=c_K (pp.toList.map λi=>as.getD i 0)
   rw[List.map_map,List.map_map] at this;exact this
  ·rw[r_W]
   have:pp.toList.length=as.length:=by simpa using C
   exact Nat.le_of_lt (a_F (by omega))
theorem g_3:c_W X (.builtin "sorted") (o_s X.K):=by
 intro pins s σ H xs us Q I rv h;obtain⟨p,as,ks,rfl,hp,hT,c,f,d,hO,q⟩:=h;obtain⟨u,rfl,ru⟩:=rv.one;cases ru;obtain⟨its,r,pl,_⟩:=I.list hp;have e1:=b_E r;subst e1;have j:as.length=ks.length:=Paired.length hT;by_cases h2:as.length < 2
 ·refine g_w pl.isList (by simpa using h2) ?_
  have old:∀b o,s.heap.get? b=some o->(sortedAll s.heap (as.map Value.ref) (as.map Value.ref).toArray).get? b=some o:=λb o e=>sortedAll_old e;obtain⟨e,he⟩:=sortedAll_at s.heap (as.map Value.ref) (as.map Value.ref).toArray;have hn:s.heap.objs.size<=s.heap.objs.size+1:=Nat.le_succ _
  have I':Inv X pins σ (upd H (s.heap.objs.size+1) (.lst (as.map V.ref))) { s with heap:=sortedAll s.heap (as.map Value.ref) (as.map Value.ref).toArray }:=
   I.laid (t':=s.toks) old hn ⟨by rw[r_W];exact Nat.le_of_lt (a_F (by omega)),as.map Value.ref,e,c_K as,he⟩
  refine⟨.ref _,_,I',rfl,?_⟩;have:=q (s.heap.objs.size+1) (List.range as.length) (I.hok.fresh hn) (List.Perm.refl _) (λa b h1 h3=>by omega);have e5:(List.range as.length).map (λi=>V.ref (as.getD i 0))=as.map V.ref:=h_x h2;rw[e5] at this;exact this
 ·obtain⟨m,F⟩:=I.fr
  have hm:s.heap.Ns X.env.locals m:=F.ns;refine PySem.W.kat_sorted (A:=X.A) F (l_e (g:=X.base) (h:=s.heap) (L:=X.env.locals)) pl.isList (by simp;omega) (by simpa using c) λD e1 h' F' N' hD=> ?_;exact h_e (tk:=s.toks) I hm hT h2 c f d hO F' N' hD q
end
end TO
namespace L2
open PySem PySem.Spec PyProof.Rows
theorem ObjOk.there {P:Program} {w:World} {H:Hp} {h:Heap} {a:Addr} {o:HO} (x:ObjOk P w H h a o):∃ob,h.get? a=some ob:=by
 cases o with
 | lst xs=>obtain⟨_,_,_,_,e⟩:=x;exact⟨_,e⟩
 | tup xs=>obtain⟨_,_,_,ob,e,_⟩:=x;exact⟨_,e⟩
 | dK kvs=>obtain⟨_,_,_,_,ob,_,_,e,_⟩:=x;exact⟨_,e⟩
 | dT kvs=>obtain⟨_,_,_,_,ob,_,_,e,_⟩:=x;exact⟨_,e⟩
 | set S n=>obtain⟨ob,_,_,_,e,_⟩:=x;exact⟨_,e⟩
 | ins C dx fs=>obtain⟨_,_,_,e,_⟩:=x;exact⟨_,e⟩
 | own y=>exact x
 | xd fs=>obtain⟨_,⟨_,_,_,e,_⟩,_⟩:=x;exact⟨_,e⟩
 | rng lo hi=>obtain⟨_,_,_,e⟩:=x;exact⟨_,e⟩
 | frz ob u=>obtain⟨e,_⟩:=x;exact⟨_,e⟩
 | tbl ps=>exact⟨_,show h.get? a=some _ from x⟩
 | met f y=>exact⟨_,show h.get? a=some _ from x⟩
 | ext φ=>exact x.2.1
def f_n (fs:List Addr) (H':Hp) (h h' B:Heap):Prop:=∀b o,h'.get? b=some o->b∉fs->(H' b≠none\/∃o0,h.get? b=some o0)->B.get? b=some o
theorem o_Z {fs:List Addr} {H H':Hp} {h h' h2 B:Heap} (u:Un fs [] H H' h h') (hB:f_n fs H' h h' B) (st:B.StaysIn h2) (sl:∀b o,b∈fs->h'.get? b=some o->∃q,h2.get? b=some { o with slots:=q }):Un fs [] H H' h h2 where
 keep:=λb o q n hb hx=>st b o (hB b o (u.keep b o q n hb hx) hb (.inr ⟨o,q⟩))
 slot:=λb o q n hb hx=>by
  obtain⟨s1,e1⟩:=u.slot b o q n hb hx;obtain⟨s2,e2⟩:=sl b _ hb e1;exact⟨s2,e2⟩
 free:=u.free
 there:=λb o q hx=>by
  obtain⟨o',e⟩:=u.there b o q hx;by_cases hb:b∈fs
  ·obtain⟨s2,e2⟩:=sl b _ hb e
   exact⟨_,e2⟩
  ·exact⟨o',st b o' (hB b o' e hb (.inr ⟨o,q⟩))⟩
 tups:=u.tups
 frzs:=u.frzs
 tbls:=u.tbls
theorem m_h {P:Program} {w:World} {fs:List Addr} {H':Hp} {h h' h2 B:Heap} (ok:HOk P w H' h') (hB:f_n fs H' h h' B) (st:B.StaysIn h2) (hf:∀b∈fs,H' b=none):HOk P w H' h2:=λa o e=>by
 have go:∀b u,H' b≠none->h'.get? b=some u->h2.get? b=some u:=λb u n q=>st b u (hB b u q (λz=>n (hf b z)) (.inl n));refine (ok a o e).stay (λb u hb q=>go b u ?_ q) (λ_ q=>q) λ_ _ q=>q;rcases hb with rfl | hb
 ·rw[e];simp
 ·rw[hb];simp
theorem h_4 {h h' B:Heap} {l:List Env} (ff:h.FunFrames B l) (up:h.UpToSlots h'):∀b o,b∈frs l->h.get? b=some o->∃q,h'.get? b=some { o with slots:=q }:=λb o hb e=>by
 obtain⟨_,o',ho',hd⟩:=ff.mem (show b∈l.filterMap (·.frame) from hb);rw[e] at ho';cases ho';exact up b o e hd
structure Fly (P:Program) (w:World) (outer:List Env) (H:Hp) (h:Heap) (a:Addr) (C:Value) (H':Hp) (h':Heap):Prop where
 fly:∃B a0,Heap.FlyingW B outer a C a0 h'/\f_n (frs outer) H' h h' B
 un:Un (frs outer) [] H H' h h'
 hok:HOk P w H' h'
def CXR (P:Program) (w:World):CXT:=λouter H s E e s'=>∃a C H',e=Value.ref a/\s'.os=s.os/\AllBare s'.gens/\Fly P w outer H s.heap a (.ref C) H' s'.heap/\E (.ref C) none H'
def m_E (X:Cx) (E:XK):Prop:=∀(pins:List (Addr×Obj)) (σ:St) (H:Hp) (s:Shared) (h':Heap) (e C:Addr) (args:List Value),Inv X pins σ H s->Heap.MadeExcOf s.heap h' e (.ref C) args->E (.ref C) none H->X.xe (.ref e) { s with heap:=h' }
theorem p_m {X:Cx} {pins:List (Addr×Obj)}:∀b∈([]:List Addr),(b∈X.ex\/X.s₀.heap.objs.size<=b)/\b≠X.env.locals/\(∀x c,X.env.cells.lookup x=some c->c≠b)/\∀p∈X.pn++pins,p.1≠b:=λb z=>by simp at z
section
variable {P:Program} {w:World} {K:PySem.W.Frag} {mg:Str->Option Value} {base:Heap} {N:List Str} {qual:Str} {scope:Scope} {f:Addr} {cd:Value} {A:Around} {outer:List Env} {s:Shared} {H:Hp} {E E':XK}
theorem j_y {pins:List (Addr×Obj)} {σ:St} {H1 H':Hp} {s1 s':Shared} {a:Addr} {C:Value} {h2 B:Heap} {a0:Value}
 (I:Inv (i_p (CXR P w) P w K mg base N qual scope f cd A outer s H E) pins σ H1 s1) (os:s'.os=s1.os) (bare:AllBare s'.gens)
 (un:Un (frs (envOfC qual scope s.heap.objs.size f cd::outer)) [] H1 H' s1.heap s'.heap) (hok:HOk P w H' s'.heap) (hB:f_n (frs (envOfC qual scope s.heap.objs.size f cd::outer)) H' s1.heap s'.heap B)
 (ff:s'.heap.FunFrames B (envOfC qual scope s.heap.objs.size f cd::outer)) (fl:Heap.FlyingW B outer a C a0 h2) (up:s'.heap.UpToSlots h2):
 s'.os=s.os/\Fly P w outer H s.heap a C H' h2:=by
 have J:=I.call' os un hok bare p_m;have sl:=h_4 ff up;have c:HOk P w H' h2:=m_h hok hB fl.1 J.stkFree;have u2:=o_Z un hB fl.1 sl;have J2:Inv (i_p (CXR P w) P w K mg base N qual scope f cd A outer s H E) pins σ H' { s' with heap:=h2 }:=I.call' (s':={ s' with heap:=h2 }) os u2 c bare p_m;refine⟨J.os,⟨B,a0,fl,λb o e hb hc=> ?_⟩,J2.base,c⟩
 have hL:b≠s.heap.objs.size:=by
  rintro rfl;rcases hc with hc | ⟨o0,hc⟩
  ·exact hc J.free
  ·exact absurd (Heap.lt_size hc) (Nat.lt_irrefl _)
 have g:b∉frs (envOfC qual scope s.heap.objs.size f cd::outer):=λz=>by
  rcases r_7.mp (show b∈s.heap.objs.size::frs outer from z) with q | q
  ·exact hL q
  ·exact hb q
 have d:∃o',s'.heap.get? b=some o':=by
  rcases hc with hc | ⟨o0,hc⟩
  ·cases q:H' b with
   | none=>exact absurd q hc
   | some u=>exact (hok b u q).there
  ·exact J.base.there b o0 hc (by simp[i_p])
 obtain⟨o',e'⟩:=d
 have e2:=hB b o' e' g (by
  rcases hc with hc | ⟨o0,hc⟩
  ·exact .inl hc
  ·exact .inr (I.base.there b o0 hc (by simp[i_p])))
 rw[fl.1 b o' e2] at e;cases e;exact e2
theorem c_t (hE:∀c d H',E' c d H'->E c d H'):c_E (CXR P w) (i_p (CXR P w) P w K mg base N qual scope f cd A outer s H E) E':=by
 rintro pins σ H1 s1 e s' I ⟨a,C,H',rfl,os,bare,F,q⟩;obtain⟨B,a0,fl,hB⟩:=F.fly;show wpAny (model P w) (A.deeper (envOfC qual scope s.heap.objs.size f cd)) (leaving (envOfC qual scope s.heap.objs.size f cd) (.ref a)) _ _ s';refine wpAny_leaves_onW (outer:=outer) I.ok.frames rfl fl λh2 b up=> ?_;obtain⟨o2,F2⟩:=j_y I os bare F.un F.hok hB fl.2.2.1 b up;exact⟨a,C,H',rfl,o2,bare,F2,hE _ _ _ q⟩
theorem e_E:m_E (i_p (CXR P w) P w K mg base N qual scope f cd A outer s H E) E:=by
 intro pins σ H1 s1 h' e C args I hx q;show wpAny (model P w) (A.deeper (envOfC qual scope s.heap.objs.size f cd)) (leaving (envOfC qual scope s.heap.objs.size f cd) (.ref e)) _ _ { s1 with heap:=h' };have a:=I.stack
 have ff:h'.FunFrames (PySem.W.hideAll s1.heap (frs (envOfC qual scope s.heap.objs.size f cd::outer))) (envOfC qual scope s.heap.objs.size f cd::outer):=
  Heap.FunFrames.of_keeps (λb o hb _=>⟨o,hx.keeps b o hb,rfl⟩) (PySem.W.funFrames_hide a λen he b hb=>List.mem_filterMap.mpr ⟨en,he,hb⟩)
 refine wpAny_leaves_madeW (base:=PySem.W.hideAll s1.heap (frs (envOfC qual scope s.heap.objs.size f cd::outer))) (h:=s1.heap) (outer:=outer) I.ok.frames rfl (λb o z=>PySem.W.of_hideAll _ z)
  (PySem.W.funFrames_hide a λen he b hb=>List.mem_filterMap.mpr ⟨en,he,hb⟩) hx λh2 t fl tp nt up=> ?_
 have hB:f_n (frs (envOfC qual scope s.heap.objs.size f cd::outer)) H1 s1.heap h' (PySem.W.hideAll s1.heap (frs (envOfC qual scope s.heap.objs.size f cd::outer))):=λb o e hb hc=>by
  have:∃o1,s1.heap.get? b=some o1:=by
   rcases hc with hc | hc
   ·cases z:H1 b with
    | none=>exact absurd z hc
    | some u=>exact (I.hok b u z).there
   ·exact hc
  obtain⟨o1,e1⟩:=this;rw[hx.keeps b o1 e1] at e;cases e;exact PySem.W.hideAll_get _ e1 hb
 obtain⟨o2,F2⟩:=j_y (s':={ s1 with heap:=h' }) I rfl I.bare (Un.kept hx.keeps) (I.hok.kept hx.keeps) hB ff fl up;exact⟨e,C,H1,rfl,o2,I.bare,F2,q⟩
end
section
variable {P:Program} {w:World} {K:PySem.W.Frag} {mg:Str->Option Value} {base:Heap}
theorem Fun.okX {x qual:Str} {st:Stmt} {f:Addr} {fd:FuncData} {N ps:List Str} {k:Nat} {sp:Sp} (F:Fun K x qual st f fd) (S:a_s N ps (a_m st)) (len:∀vs H Q E,sp vs H Q E->vs.length=ps.length)
 (hbody:∀(cdv:Value) (A:Around) (outer:List Env) (s:Shared) (H:Hp) (vs:List V) (Q:VK) (E:XK),Room k (A.deeper (envOfC qual (a_m st) s.heap.objs.size f cdv))→sp vs H Q E→
   ∃t,PSs (i_p (CXR P w) P w K mg base N qual (a_m st) f cdv A outer s H E) (c_1 st) t/\t { nx:=λ_ H'=>Q .non H',rt:=Q } (start N vs) H):FnOk P w K mg base (CXR P w) (k+1) f fd ps sp:=by
 obtain⟨oc,od,kV,doc,pm,an,cdv,ct,osl,rfl,lk,b⟩:=F.ex;exact p_b lk b S len λA outer s H vs Q E hr a=>hbody cdv A outer s H vs Q E hr a
end
abbrev i_n:List Value:= [.type "ValueError",.type "Exception",.type "BaseException",.type "object"]
structure Exc (K:PySem.W.Frag) (mg:Str->Option Value) (x:Str) (C:Addr):Prop where
 at_:mg x=some (.ref C)
 ok:PySem.W.excIn K C i_n "ValueError.__new__"=true
theorem m_P {K:PySem.W.Frag} {g:Heap} {C:Addr} {tl:List Value} {nid:String} (kin:K.In g) (is:PySem.W.excIn K C tl nid=true):
 ∃(bm:List Value) (N:Addr) (nm qn:Str) (bs:List Value) (hd:Bool) (sn:List Str) (sub:List Value) (ab:Bool) (col:Option Bool) (dd:Option Addr) (k0 k1 k2 k3 k5:Option Value) (mN:Str->Option Value),
  g.get? C=some (excClassObj nm qn C N bs bm hd sn sub ab col dd k0 k1 k2 k3 k5 nid)/\g.Ns N mN/\mN "__init__"=none/\OwnTail g tl bm:=by
 unfold PySem.W.excIn at is;split at is
 rotate_left
 ·cases is
 rename_i dd cd sl look;split at is
 rotate_left
 ·cases is
 rename_i C1 bm k0 k1 k2 k3 n k5 em es;simp only[Bool.and_eq_true,beq_iff_eq,Bool.not_eq_true'] at is;obtain⟨⟨⟨⟨⟨i1,i2⟩,i3⟩,i4⟩,i5⟩,i6⟩:=is;subst i1 i2;cases cd with
 | mk nm bs mro ns qn hd sn sub ab col del=>
   dsimp only at em i3 i5 i6;subst em i3
   have e:sl= #[k0,k1,k2,k3,some (.builtin n),k5]:=by
    cases sl;simp only at es;rw[es]
   subst e;exact⟨bm,ns,nm,qn,bs,hd,sn,sub,ab,col,dd,k0,k1,k2,k3,k5,_,kin _ _ look,.of_isNs (PySem.W.isNs_of_in kin i5),PySem.W.nsMap_none_of_in kin i5 i6,PySem.W.tail_of_in kin i4⟩
section
variable {X:Cx} {E:XK} {x:Str} {C:Addr} {e0:Expr} {es:List Expr} {np cpos pos:Pos} {t:TA}
def o_T (C:Addr) (E:XK) (t:TA):TS:=λ_ σ H=>t σ H λvs H1=>vs.length<=sizeLine/\E (.ref C) none H1
theorem d_k (hx:Exc X.K X.mg x C) (hr:m_E X E) (ha:PA X (e0::es) t) (hg:Gl X x:=by rfl) (hc:X.calm=true:=by rfl) (he:starEach (e0::es) X.env=(false,eval e0 X.env)::starEach es X.env:=by rfl)
 (hpl:(backTo cpos (starEach es X.env)).any (·.1)=false:=by rfl) (hd:(x == ("__debug__":Str))=false:=by decide):PS X (.Raise (some (.Call (.Name x np) (e0::es) [] cpos)) none pos) (o_T C E t):=by
 intro pins s σ H D I h;obtain⟨bm,N,nm,qn,bs,a,sn,sub,ab,col,dd,k0,k1,k2,k3,k5,mN,hC,hN,b,T⟩:=m_P I.ok.mod.kin hx.ok
 refine wpAny_Raise_call_subT (C:=C) (nm:=nm) (q:=qn) (N:=N) (bs:=bs) (bm:=bm) (hdct:=a) (sn:=sn) (sub:=sub) (ab:=ab) (col:=col) (dd:=dd) (k0:=k0) (k1:=k1) (k2:=k2) (k3:=k3) (k5:=k5)
  F.excBase_ValueError (mN:=mN) (T.hasType F.excBase_ValueError.hasBase) (I.ok.hd hc) (by rw[he];exact hpl) b (c_2 I hg hx.at_ ⟨rfl,?_⟩ hd)
 have h2:=ha cpos pins s σ H _ I h;rw[he] at h2 ⊢;refine Calls.evalArgs_plain (thn h2 λus s2 ⟨vs,H1,I1,r,z,q⟩=> ?_);exact⟨rfl,by rw[<-r.length];exact z,I1.bk _ _ hC,hN.keeps I1.bk,T.keeps I1.bk,λh' e hm=>hr pins σ H1 s2 h' e C us I1 hm q⟩
end
section
variable {X:Cx} {a b v:Expr} {c1 c2:Str} {tv:TE} {p pos:Pos}
def tFs (tv:TE):TE:=λσ H Q=>tv σ H λx H1=>∃n:Int,x= .int n/\n.natAbs.log2 < 1920/\∀y:Str,Q (.str y) H1
def tFr (tv:TE):TE:=λσ H Q=>tv σ H λx H1=>∃n:Str,x= .str n/\(PySem.reprText n).length<=1000/\∀y:Str,Q (.str y) H1
theorem j_E {n:Int} (h:n.natAbs.log2 < 1920):(Str.ofString (toString n)).length<=1921:=by
 rw[PySem.ofString_length];exact int_text_length_le (by decide) h
theorem e_k {n:Nat} (h:n<=10000):n<=sizeLine:=s_h h (by decide)
theorem p_I (ha:PE X a (tC (.str c1))) (hv:PE X v tv) (hb:PE X b (tC (.str c2))) (h1:c1.length<=1000) (h2:c2.length<=1000):PE X (.JoinedStr [a,.FormattedValue v (-1) none p,b] pos) (tFs tv):=by
 intro pins s σ H Q I h;refine JoinedStr_many (joinParts_cons (thn (ha pins s σ H (λx H1=>x= .str c1/\H1=H) I ⟨rfl,rfl⟩) λu s1 ⟨x,H1,I1,r,ex,eH⟩=> ?_));subst ex eH;obtain⟨t,rfl⟩:=r;refine⟨e_k (by rw[strLen_append];show 0+_<=_;omega),joinParts_cons (FormattedValue_plain (thn (hv pins s1 σ H1 _ I1 h) λu s2 ⟨x,H2,I2,r,n,ex,hn,k⟩=> ?_))⟩;subst ex;obtain⟨t2,rfl⟩:=r;have hl:=j_E hn;refine formatField_int_small hn ⟨e_k (by rw[strLen_append,strLen_append];show 0+_+_<=_;omega),joinParts_cons (thn (hb pins _ σ H2 (λx H1=>x= .str c2/\H1=H2) (I2.tok _) ⟨rfl,rfl⟩) λu s3 ⟨x,H3,I3,r,ex,eH⟩=> ?_)⟩;subst ex eH;obtain⟨t3,rfl⟩:=r;have hz:∀z:Str,z.length<=10000->z.length<=sizeLine:=λz q=>e_k q;refine⟨hz _ (by rw[strLen_append,strLen_append,strLen_append];show 0+_+_+_<=_;omega),joinParts_nil ⟨.str _,H3,I3.tok _,⟨_,rfl⟩,k _⟩ (hz _ (by rw[strLen_append,strLen_append,strLen_append];show 0+_+_+_<=_;omega))⟩
theorem p_s (ha:PE X a (tC (.str c1))) (hv:PE X v tv) (h1:c1.length<=1000):PE X (.JoinedStr [a,.FormattedValue v (-1) none p] pos) (tFs tv):=by
 intro pins s σ H Q I h;refine JoinedStr_many (joinParts_cons (thn (ha pins s σ H (λx H1=>x= .str c1/\H1=H) I ⟨rfl,rfl⟩) λu s1 ⟨x,H1,I1,r,ex,eH⟩=> ?_));subst ex eH;obtain⟨t,rfl⟩:=r;refine⟨e_k (by rw[strLen_append];show 0+_<=_;omega),joinParts_cons (FormattedValue_plain (thn (hv pins s1 σ H1 _ I1 h) λu s2 ⟨x,H2,I2,r,n,ex,hn,k⟩=> ?_))⟩;subst ex;obtain⟨t2,rfl⟩:=r;have hl:=j_E hn;have hz:∀z:Str,z.length<=10000->z.length<=sizeLine:=λz q=>e_k q;refine formatField_int_small hn ⟨hz _ (by rw[strLen_append,strLen_append];show 0+_+_<=_;omega),joinParts_nil ⟨.str _,H2,I2.tok _,⟨_,rfl⟩,k _⟩ (hz _ (by rw[strLen_append,strLen_append];show 0+_+_<=_;omega))⟩
theorem o_J (ha:PE X a (tC (.str c1))) (hv:PE X v tv) (h1:c1.length<=1000):PE X (.JoinedStr [a,.FormattedValue v 114 none p] pos) (tFr tv):=by
 intro pins s σ H Q I h;refine JoinedStr_many (joinParts_cons (thn (ha pins s σ H (λx H1=>x= .str c1/\H1=H) I ⟨rfl,rfl⟩) λu s1 ⟨x,H1,I1,r,ex,eH⟩=> ?_));subst ex eH;obtain⟨t,rfl⟩:=r;refine⟨e_k (by rw[strLen_append];show 0+_<=_;omega),joinParts_cons (wpAny_FormattedValue_repr (thn (hv pins s1 σ H1 _ I1 h) λu s2 ⟨x,H2,I2,r,n,ex,hn,k⟩=> ?_))⟩;subst ex;obtain⟨t2,rfl⟩:=r;have hz:∀z:Str,z.length<=10000->z.length<=sizeLine:=λz q=>e_k q;refine wpAny_pyReprObj_str (formatField_str (λt' tk=>⟨hz _ (by rw[strLen_append,strLen_append];show 0+_+_<=_;omega),joinParts_nil ⟨.str _,H2,I2.tok _,⟨_,rfl⟩,k _⟩ (hz _ (by rw[strLen_append,strLen_append];show 0+_+_<=_;omega))⟩) (hz _ (by omega))) (hz _ (by omega))
end
structure FlyB (P:Program) (w:World) (l:List Env) (H:Hp) (h:Heap) (a:Addr) (C:Value) (H':Hp) (h' B:Heap) (a0:Value):Prop where
 fl:Heap.FlyingW B l a C a0 h'
 hB:f_n (frs l) H' h h' B
 un:Un (frs l) [] H H' h h'
 hok:HOk P w H' h'
theorem FlyB.on {P:Program} {w:World} {l:List Env} {H H':Hp} {h h' h2 B:Heap} {a:Addr} {C a0:Value} (F:FlyB P w l H h a C H' h' B a0) (f2:Heap.FlyingW B l a C a0 h2) (up:h'.UpToSlots h2) (hf:∀b∈frs l,H' b=none):
 FlyB P w l H h a C H' h2 B a0 where
 fl:=f2
 un:=o_Z F.un F.hB f2.1 (h_4 F.fl.2.2.1 up)
 hok:=m_h F.hok F.hB f2.1 hf
 hB:=λb o e hb hc=>by
  have c:∃o',h'.get? b=some o':=by
   rcases hc with hc | ⟨o0,hc⟩
   ·cases q:H' b with
    | none=>exact absurd q hc
    | some u=>exact (F.hok b u q).there
   ·exact F.un.there b o0 hc (by simp)
  obtain⟨o',e'⟩:=c;have e2:=F.hB b o' e' hb hc;rw[f2.1 b o' e2] at e;cases e;exact e2
def bot (X:Cx):St:=List.replicate X.N.length none
theorem Inv.dim {X:Cx} {pins:List (Addr×Obj)} {σ:St} {H:Hp} {s:Shared} (I:Inv X pins σ H s):Inv X pins (bot X) H s:=by
 obtain⟨m,hn,_⟩:=I.loc;refine⟨I.ok,I.os,I.bare,I.base,⟨m,hn,λi x v _ h2 _=> ?_⟩,I.cell,I.free,I.freeC,I.pin,I.hok,by simp[bot]⟩;unfold bot at h2;rw[List.getElem?_replicate] at h2
 split at h2 <;> cases h2
abbrev Cx.pw (X:Cx) (pn:List (Addr×Obj)) (xe:Value->Shared->Prop):Cx:={ X with pn:=pn,xe:=xe }
theorem Cx.Ok.pw {X:Cx} (ok:X.Ok) (pn:List (Addr×Obj)) (xe:Value->Shared->Prop):(X.pw pn xe).Ok:=
 ⟨ok.mod,ok.kind,ok.glob,ok.blt,ok.above,ok.inj,ok.has,ok.cab,ok.hd,ok.frames,ok.stk,ok.exf,ok.bs,ok.bsz,ok.noex,ok.exfs,ok.funs,ok.frf⟩
theorem Cx.Ok.unpw {X:Cx} {pn:List (Addr×Obj)} {xe:Value->Shared->Prop} (ok:(X.pw pn xe).Ok):X.Ok:=
 ⟨ok.mod,ok.kind,ok.glob,ok.blt,ok.above,ok.inj,ok.has,ok.cab,ok.hd,ok.frames,ok.stk,ok.exf,ok.bs,ok.bsz,ok.noex,ok.exfs,ok.funs,ok.frf⟩
section
variable {X:Cx} {pins:List (Addr×Obj)} {σ:St} {H:Hp} {s:Shared} {xe:Value->Shared->Prop}
theorem Inv.pnIn (I:Inv X pins σ H s) (xe:Value->Shared->Prop):Inv (X.pw (X.pn++pins) xe) [] σ H s:=
 ⟨I.ok.pw _ _,I.os,I.bare,I.base,I.loc,I.cell,I.free,I.freeC,λp hp=>I.pin p (by simpa using hp),I.hok,I.len⟩
theorem Inv.pnOut {p2:List (Addr×Obj)} (I:Inv (X.pw (X.pn++pins) xe) p2 σ H s):Inv X pins σ H s:=
 ⟨I.ok.unpw,I.os,I.bare,I.base,I.loc,I.cell,I.free,I.freeC,λp hp=>I.pin p (s_v _ hp),I.hok,I.len⟩
theorem SP.pnOut {D:i_A} {f:Flow} {s':Shared} (h:SP (X.pw (X.pn++pins) xe) [] D f s'):SP X pins D f s':=by
 cases f with
 | next=>obtain⟨σ',H',I,q⟩:=h;exact⟨σ',H',I.pnOut,q⟩
 | brk=>obtain⟨σ',H',I,q⟩:=h;exact⟨σ',H',I.pnOut,q⟩
 | cont=>obtain⟨σ',H',I,q⟩:=h;exact⟨σ',H',I.pnOut,q⟩
 | ret u=>obtain⟨v,σ',H',I,r,q⟩:=h;exact⟨v,σ',H',I.pnOut,r,q⟩
abbrev Cx.hand (X:Cx) (e:Value):Cx:={ X with A:=X.A.mark (some e),calm:=false,xe:=λ_ _=>False }
theorem Inv.hand (I:Inv X pins σ H s) (e:Value):Inv (X.hand e) pins σ H s:=
 ⟨⟨I.ok.mod,I.ok.kind,I.ok.glob,I.ok.blt,I.ok.above,I.ok.inj,I.ok.has,I.ok.cab,λz=>(by cases z),I.ok.frames,I.ok.stk,I.ok.exf,I.ok.bs,I.ok.bsz,I.ok.noex,I.ok.exfs,I.ok.funs,I.ok.frf⟩,I.os,I.bare,I.base,I.loc,I.cell,I.free,I.freeC,I.pin,I.hok,I.len⟩
theorem Inv.unhand (ok:X.Ok) {e:Value} (I:Inv (X.hand e) pins σ H s):Inv X pins σ H s:=
 ⟨ok,I.os,I.bare,I.base,I.loc,I.cell,I.free,I.freeC,I.pin,I.hok,I.len⟩
theorem SP.unhand (ok:X.Ok) {e:Value} {D:i_A} {f:Flow} {s':Shared} (h:SP (X.hand e) pins D f s'):SP X pins D f s':=by
 cases f with
 | next=>obtain⟨σ',H',I,q⟩:=h;exact⟨σ',H',I.unhand ok,q⟩
 | brk=>obtain⟨σ',H',I,q⟩:=h;exact⟨σ',H',I.unhand ok,q⟩
 | cont=>obtain⟨σ',H',I,q⟩:=h;exact⟨σ',H',I.unhand ok,q⟩
 | ret u=>obtain⟨v,σ',H',I,r,q⟩:=h;exact⟨v,σ',H',I.unhand ok,r,q⟩
end
inductive PH (X:Cx):List ExceptHandler->List (Addr×TS)->Prop
 | nil:PH X [] []
 | cons {x:Str} {C:Addr} {np pos:Pos} {b0:Stmt} {suite:List Stmt} {e_G:List ExceptHandler} {t:TS} {cl:List (Addr×TS)}:Gl X x→X.mg x=some (.ref C)→(x == ("__debug__":Str))=false→
    (∀e,PSs (X.hand e) (b0::suite) t)->PH X e_G cl->PH X (.ExceptHandler (some (.Name x np)) none (b0::suite) pos::e_G) ((C,t)::cl)
def l_U (K:PySem.W.Frag) (c:Value) (D:i_A) (σ:St) (H:Hp):List (Addr×TS)->Prop
 | []=>False
 | (C,t)::r=>(PySem.W.exmOne K c (.ref C)=some true/\t D σ H)\/(PySem.W.exmOne K c (.ref C)=some false/\l_U K c D σ H r)
theorem h_V {X:Cx} {pins:List (Addr×Obj)} {σ:St} {H1 H:Hp} {s1:Shared} {a:Addr} {C a0:Value} {B:Heap} {D:i_A} (I1:Inv X pins σ H1 s1):
 ∀{hs:List ExceptHandler} {cl:List (Addr×TS)},PH X hs cl->∀{s:Shared},s.os=s1.os->AllBare s.gens->FlyB X.prog X.w X.stack H1 s1.heap a C H s.heap B a0->l_U X.K C D σ H cl->
  wpAny (model X.prog X.w) X.A (handleBy (.ref a) X.env hs) (SP X pins D) X.xe s
 | _,_,.nil,s,_,_,_,h=>False.elim h
 | _,_,.cons (C:=C') hg hm hd hs hr,s,os,bare,F,h=>by
   have J:=I1.call' os F.un F.hok bare p_m;obtain⟨oe,he,hc⟩:=F.fl.there
   have LT:PySem.W.Looks (model X.prog X.w) s.heap (typeOf (.ref a)) C:=by
    rw[<-hc];exact (PySem.W.Looks.ld he).andThen .now
   refine wpAny_handleBy_cons (codeAny_handlers_test (c_2 (X:=X.hand (.ref a)) (J.hand _) hg hm ?_ hd)) (by intro q;cases q);rcases h with⟨hx,h⟩ | ⟨hx,h⟩
   ·refine (PySem.W.exm_one J.kIn LT hx).here ?_
    refine codeAny_handlers_suite (wpAny_setFlight_noneW F.fl.1 F.fl.2.2.1 F.fl.2.2.2.at λh2 k1 k2 k3 k4=> ?_);have F2:=F.on ⟨k1,F.fl.2.1,k2,k3⟩ (λb o hb hn=>⟨o.slots,k4 b o hb hn⟩) J.stkFree;have J2:Inv X pins σ H { s with heap:=h2 }:=I1.call' (s':={ s with heap:=h2 }) os F2.un F2.hok bare p_m;exact wpAny_mono (hs (.ref a) pins _ σ H D (J2.hand _) h) (λf s2 q=>q.unhand I1.ok) λ_ _ z=>False.elim z
   ·refine (PySem.W.exm_one J.kIn LT hx).here ?_
    exact h_V I1 hr os bare F h
def r_M (tb:XK->TS) (K:PySem.W.Frag) (X:Cx) (cl:List (Addr×TS)):TS:=λD σ H=>tb (λc _ H'=>l_U K c D (bot X) H' cl) D σ H
theorem p_w {X:Cx} {body:List Stmt} {h0:ExceptHandler} {hs:List ExceptHandler} {pos:Pos} {tb:XK->TS} {cl:List (Addr×TS)} (hp:PH X (h0::hs) cl)
 (hb:∀(pn:List (Addr×Obj)) (xe:Value->Shared->Prop) (E:XK),c_E (CXR X.prog X.w) (X.pw pn xe) E->PSs (X.pw pn xe) body (tb E)) (hst:X.stack=X.env::X.outer:=by rfl) (hfr:X.env.frame=some X.env.locals:=by rfl):
 PS X (.Try body (h0::hs) [] [] pos) (r_M tb X.K X cl):=by
 intro pins s σ H D I h;refine wpAny_Try_except ?_
 refine wpAny_mono (hb (X.pn++pins) (λe s₁=>wpAny (model X.prog X.w) X.A (noteFrame e X.env) (λ_ s₂=>wpAny (model X.prog X.w) X.A (setFlight e none) (λ_ s₃=>wpAny (model X.prog X.w) X.A (handleBy e X.env (h0::hs)) (SP X pins D) X.xe s₃) X.xe s₂) X.xe s₁)
  (λc _ H'=>l_U X.K c D (bot X) H' cl) ?_ [] s σ H D (I.pnIn _) h) (λf s1 q=> ?_) λ_ _ z=>z
 ·rintro p2 σ' H1 s1 e s' I1 ⟨a,C,H',rfl,os,bare,F,q⟩
  have I2:Inv X pins (bot X) H1 s1:=Inv.dim (Inv.pnOut I1);obtain⟨B,a0,fl,hB⟩:=F.fly;have F1:FlyB X.prog X.w X.stack H1 s1.heap a (.ref C) H' s'.heap B a0:=⟨fl,hB,F.un,F.hok⟩;have J:=I2.call' os F1.un F1.hok bare p_m;have d:=F1.fl;rw[hst] at d;refine wpAny_looks_onW (outer:=X.outer) (by rw[<-hst];exact I2.ok.frames) hfr d λh2 held up=> ?_;refine wpAny_landsW held λh3 b g=> ?_;rw[<-hst] at b;exact h_V (s:={ s' with heap:=h3 }) I2 hp os bare (F1.on b (up.trans g) J.stkFree) q
 ·have q2:=q.pnOut
  cases f with
  | next=>exact wpAny_execs_nil q2
  | brk=>exact q2
  | cont=>exact q2
  | ret u=>exact q2
end L2
namespace TO
open PySem L2
def i_e:Row:=⟨0,0,Str.empty⟩
theorem n_G {ρs:List Row} (hnd:(ρs.map (·.n)).Nodup) {i j:Nat} (hi:i < ρs.length) (hj:j < ρs.length) (hij:i≠j):(ρs.getD i i_e).n≠(ρs.getD j i_e).n:=by
 rw[s_f,s_f,r_X hi,r_X hj];have hp:=List.pairwise_iff_getElem.mp hnd;simp only[Option.getD_some];rcases Nat.lt_or_gt_of_ne hij with q | q
 ·have:=hp i j (by simpa using hi) (by simpa using hj) q
  simpa using this
 ·have:=hp j i (by simpa using hj) (by simpa using hi) q
  simpa using Ne.symm this
theorem c_S {α:Type} (l:List α) (d:α):(List.range l.length).map (λi=>l.getD i d)=l:=by
 apply List.ext_getElem
 ·simp
 ·intro i h1 h2
  simp[s_f,r_X h2]
theorem g_v {H:Hp} {as:List Addr} {ρs:List Row} (h:RowsAt H as ρs):∀{is:List Nat},(∀i∈is,i < ρs.length)->RowsAt H (is.map λi=>as.getD i 0) (is.map λi=>ρs.getD i i_e)
 | [],_=> .nil
 | i::r,hi=>by
   refine .cons ?_ (g_v h λj hj=>hi j (r_Z _ hj));have h1:=hi i (r_0 ..);obtain⟨a,e1,e2⟩:=h.get (r_X h1);show RowAt H (as.getD i 0) (ρs.getD i i_e);rw[s_f,s_f,e1,r_X h1];exact e2
theorem d_y {w:Bool} {ρs:List Row} {i:Nat} (h:i < ρs.length):(ρs.map (a_H w)).getD i []=a_H w (ρs.getD i i_e):=by
 rw[s_f,s_f,r_8,r_X h];rfl
theorem j_z {w:Bool} {ρs:List Row} (hnd:(ρs.map (·.n)).Nodup):SO ρs.length λi j=>b_a ((ρs.map (a_H w)).getD i []) ((ρs.map (a_H w)).getD j []) where
 tr:=λa b c _ _ _ h1 h2=>c_O h1 h2
 tri:=λa b ha hb d h=>by
  rw[d_y ha,d_y hb] at *;rcases h_a (w:=w) (n_G hnd ha hb d) with q | q
  ·rw[show b_a (a_H w (ρs.getD a i_e)) (a_H w (ρs.getD b i_e))=true from q] at h;cases h
  ·exact q
theorem g_h {ρs:List Row} {is:List Nat} (hp:is.Perm (List.range ρs.length)):(is.map λi=>ρs.getD i i_e).Perm ρs:=by
 have:=hp.map λi=>ρs.getD i i_e;rw[c_S] at this;exact this
theorem h_8 {w:Bool} {ρs:List Row} {is:List Nat} (hp:is.Perm (List.range ρs.length)) (hu:∀a b,a < b->b < ρs.length->b_a ((ρs.map (a_H w)).getD (is.getD a 0) []) ((ρs.map (a_H w)).getD (is.getD b 0) [])=true):Srt (ltR w) (is.map λi=>ρs.getD i i_e):=by
 have hl:is.length=ρs.length:=by rw[hp.length_eq,List.length_range]
 refine List.pairwise_iff_getElem.mpr λa b ha hb d=> ?_;rw[r_W] at ha hb;have q:=hu a b d (by omega);have e:∀c (h:c < is.length),is.getD c 0=is[c]:=λc h=>by rw[s_f,r_X h];rfl
 have hm:∀c (h:c < is.length),is[c] < ρs.length:=λc h=>by
  have:=hp.mem_iff.mp (List.getElem_mem h);exact List.mem_range.mp this
 rw[e a ha,e b hb,d_y (hm a ha),d_y (hm b hb)] at q;simpa[ltR] using q
end TO
namespace TO
open PySem PySem.Spec PyProof.Rows L2
section
variable {prog:Program} {w:World} {A:Around} {s:Shared}
theorem j_S {H:Hp} {as:List Addr} {ks:List (List V)} {G:Array Nat->Shared->Prop}
 (tup':∀a k,H a=some (.tup k)->∃its:List Value,Vals k its/\∃o n,s.heap.get? a=some o/\o.cls= .type "tuple"/\o.data= .seq its.toArray n)
 (hT:c_b H as ks) (h2:2<=as.length) (hne:∀k∈ks,∃x r,k=x::r) (hal:∀k∈ks,∀k'∈ks,d_V k k'/\k.length=k'.length) (hO:SO as.length (λi j=>b_a (ks.getD i []) (ks.getD j [])))
 (hG:∀pp,Rear as.length pp->Up (λi j=>b_a (ks.getD i []) (ks.getD j [])) pp as.length->G pp s):
 wpAny (model prog w) A (keyKind' (as.map Value.ref).toArray) (λκ s'=>(PySem.W.kas_sort as.length).kasWp (PySem.W.kas_ask prog w A κ (as.map Value.ref)) G s') (λ_ _=>False) s:=by
 have p:as.length=ks.length:=Paired.length hT;have h0:0 < as.length:=by omega
 -- the kind of the first items
 have first:∃T:String,∃fs:List Value,PySem.W.KatTups s.heap (as.map Value.ref) fs/\fs.length=as.length/\(T="int"\/T="str")/\∀v∈fs,(∃i t,v= .int i t/\T="int")\/∃x t,v= .str x t/\T="str":=by
  obtain⟨k0,hk0⟩:∃k0,k0∈ks:=by
   cases ks with
   | nil=>rw[s_w] at p;omega
   | cons k r=>exact⟨k,r_0 ..⟩
  obtain⟨x0,r0,e0⟩:=hne k0 hk0
  have key:∀k∈ks,∃x r,k=x::r/\b_h x x0=true:=λk hk=>by
   obtain⟨x,r,rfl⟩:=hne k hk;have:=(hal _ hk _ hk0).1;rw[e0] at this;exact⟨x,r,rfl,this.1⟩
  have x0k:(∃i,x0= .int i)\/∃y,x0= .str y:=by
   have:=(hal _ hk0 _ hk0).1;rw[e0] at this;have z:=this.1
   cases x0 <;> first | exact .inl ⟨_,rfl⟩ | exact .inr ⟨_,rfl⟩ | cases z
  obtain⟨T,b⟩:∃T:String,((∃i,x0=V.int i)/\T="int")\/((∃y,x0=V.str y)/\T="str"):=by
   rcases x0k with c | c
   ·exact⟨"int",.inl ⟨c,rfl⟩⟩
   ·exact⟨"str",.inr ⟨c,rfl⟩⟩
  refine⟨T,?_⟩
  have go:∀{as':List Addr} {ks':List (List V)},c_b H as' ks'->(∀k∈ks',∃x r,k=x::r/\b_h x x0=true)->∃fs:List Value,PySem.W.KatTups s.heap (as'.map Value.ref) fs/\fs.length=as'.length/\
   ∀v∈fs,(∃i t,v=Value.int i t/\∃j,x0= .int j)\/∃y t,v=Value.str y t/\∃j,x0= .str j:=by
   intro as' ks' ht hk;induction ht with
   | nil=>exact⟨[],trivial,rfl,λv hv=>by cases hv⟩
   | cons ha _ ih=>
     obtain⟨fs,h1,h2,h3⟩:=ih λk d=>hk k (r_Z _ d);obtain⟨x,r,rfl,hx⟩:=hk _ (r_0 ..);obtain⟨its,rk,o,n,ho,hc,hd⟩:=tup' _ _ ha;cases rk with
     | @cons _ v _ its' rx rt=>
       refine⟨v::fs,PySem.W.KatTups.cons ho hc hd (by simp) h1,by simp[h2],λu hu=> ?_⟩;rcases r_7.mp hu with e | e
       ·subst e
        cases x with
        | int i=>obtain⟨t,rfl⟩:=rx;cases x0 <;> first | exact .inl ⟨i,t,rfl,_,rfl⟩ | cases hx
        | str y=>obtain⟨t,rfl⟩:=rx;cases x0 <;> first | exact .inr ⟨y,t,rfl,_,rfl⟩ | cases hx
        | _=>cases x0 <;> cases hx
       ·exact h3 u e
  obtain⟨fs,h1,h2,h3⟩:=go hT key;refine⟨fs,h1,h2,?_, λv hv=> ?_⟩
  ·rcases b with c | c
   ·exact .inl c.2
   ·exact .inr c.2
  ·rcases h3 v hv with⟨i,t,e,j,c⟩ | ⟨y,t,e,j,c⟩
   ·refine .inl ⟨i,t,e,?_⟩
    rcases b with⟨_,z⟩ | ⟨⟨y,z⟩,_⟩
    ·exact z
    ·rw[c] at z;cases z
   ·refine .inr ⟨y,t,e,?_⟩
    rcases b with⟨⟨y,z⟩,_⟩ | ⟨_,z⟩
    ·rw[c] at z;cases z
    ·exact z
 obtain⟨T,fs,m,F,f,h⟩:=first
 refine PySem.W.kat_kind (T:= .type T) m (by omega) (λv hv=> ?_) (by simp) ?_
 ·rcases h v hv with⟨i,t,rfl,e⟩ | ⟨y,t,rfl,e⟩
  ·rw[e];exact PySem.W.Looks.of_pure rfl
  ·rw[e];exact PySem.W.Looks.of_pure rfl
 have g:(Value.type T != Value.type "tuple")=true:=by rcases f with e | e <;> rw[e] <;> rfl
 rw[g];refine i_9 (n:=as.length) hO (λi j Cc hi hj hC=> ?_) (by omega) λpp R U=> ?_
 ·show wpAny _ _ (keyLt' (tuples' true) ((as.map Value.ref).getD i Value.none) ((as.map Value.ref).getD j Value.none)) _ _ _
  rw[c_R hi,c_R hj];obtain⟨gi,mi⟩:=c_Q hT hi;obtain⟨gj,mj⟩:=c_Q hT hj;obtain⟨vi,ri,oi,ni,q,_,B⟩:=tup' _ _ gi;obtain⟨vj,rj,oj,nj,E,_,l⟩:=tup' _ _ gj;have C:=(hal _ mi _ mj).2;have li:=ri.length;have lj:=rj.length;refine PySem.W.kat_lt q B E l ?_;have:decide (vi.toArray.size < vj.toArray.size)=false:=s_D (by rw[r_6,r_6];omega);rw[this];exact f_H 0 (by simpa using ri) (by simpa using rj) (hal _ mi _ mj).1 C hC
 ·exact hG pp R U
end
end TO
namespace L2
open PySem PySem.Spec PyProof.Rows
abbrev Cx.at2 (X:Cx):Cx:={ X with A:=X.A.in1.in1,xe:=λ_ _=>False }
section
variable {X:Cx} {pins:List (Addr×Obj)} {σ:St} {H:Hp} {s:Shared}
theorem Inv.at2 (I:Inv X pins σ H s):Inv X.at2 pins σ H s:=
 ⟨⟨I.ok.mod,I.ok.kind,I.ok.glob,I.ok.blt,I.ok.above,I.ok.inj,I.ok.has,I.ok.cab,I.ok.hd,I.ok.frames,I.ok.stk,I.ok.exf,I.ok.bs,I.ok.bsz,I.ok.noex,I.ok.exfs,I.ok.funs,I.ok.frf⟩,I.os,I.bare,I.base,I.loc,I.cell,I.free,I.freeC,I.pin,I.hok,I.len⟩
theorem Inv.un2 (ok:X.Ok) (I:Inv X.at2 pins σ H s):Inv X pins σ H s:=⟨ok,I.os,I.bare,I.base,I.loc,I.cell,I.free,I.freeC,I.pin,I.hok,I.len⟩
theorem Inv.addPin {a:Addr} {o:Obj} (I:Inv X pins σ H s) (h1:s.heap.get? a=some o) (h2:H a=none) (h3:a≠X.env.locals) (h4:a∉X.fs) (h5:∀v,o.data≠ .cell v):Inv X ((a,o)::pins) σ H s:=
 ⟨I.ok,I.os,I.bare,I.base,I.loc,I.cell,I.free,I.freeC,fun p hp=>by
   rcases s_e.mp hp with q | q
   ·exact I.pin p (s_v _ q)
   ·rcases r_7.mp q with e | e
    ·subst e;exact⟨h1,h2,h3,h4,h5⟩
    ·exact I.pin p (r_9 _ e),I.hok,I.len⟩
theorem Inv.dropPin {p:Addr×Obj} (I:Inv X (p::pins) σ H s):Inv X pins σ H s:=
 ⟨I.ok,I.os,I.bare,I.base,I.loc,I.cell,I.free,I.freeC,fun q hq=>I.pin q (by
   rcases s_e.mp hq with z | z
   ·exact s_v _ z
   ·exact r_9 _ (r_Z _ z)),I.hok,I.len⟩
theorem Inv.takePin {D:Addr} {o:Obj} {h':Heap} {ys:List V} {its:List Value} {n t':Nat} (I:Inv X ((D,o)::pins) σ H s) (hk:∀b u,b≠D->s.heap.get? b=some u->h'.get? b=some u) (hD:h'.get? D=some { cls:= .type "list",data:= .seq its.toArray n })
 (hv:Vals ys its) (hz:ys.length<=sizeLine) (h0:X.s₀.heap.objs.size<=D) (hc:∀x c,X.env.cells.lookup x=some c->c≠D) (hp:∀p∈X.pn++pins,p.1≠D):Inv X pins σ (upd H D (.lst ys)) { s with heap:=h',toks:=t' }:=by
 obtain⟨q1,q2,q3,q4,q5⟩:=I.pin (D,o) (r_9 _ (r_0 ..));have ne:∀b u,H b=some u->b≠D:=λb u e z=>by rw[z,q2] at e;cases e
 refine I.dropPin.step (g':=s.gens) (d':=s.drawn) (ch:= [D]) (λb hb=> ?_) (λb u _ _ hb e _=>hk b u (λz=>hb (by rw[z];exact r_1.mpr rfl)) e)
  (λb u _ _ hb e _=>⟨u.slots,hk b u (λz=>hb (by rw[z];exact r_1.mpr rfl)) e⟩) (λb u hb _ n=>by rw[a_i (λz=>hb (by rw[z];exact r_1.mpr rfl))];exact n)
  (λb u hb e=>⟨u,hk b u (λz=>hb (by rw[z];exact r_1.mpr rfl)) e⟩) (λb xs e=>by rw[a_i (ne b _ e)];exact e) (λb v u e=>by rw[a_i (ne b _ e)];exact e) (λb ps e=>⟨#[],by rw[a_i (ne b _ e),e];simp⟩) (λm hm=> ?_) (λb u e=> ?_) I.bare
 ·rw[r_1.mp hb]
  exact⟨.inr h0,q3,hc,hp⟩
 ·obtain⟨ob,es,ep,ho,r⟩:=hm
  exact⟨ob,es,ep,hk _ ob (Ne.symm q3) ho,r⟩
 ·by_cases hb:b=D
  ·subst hb
   rw[a_b] at e;cases e;exact⟨hz,its,n,hv,hD⟩
  ·rw[a_i hb] at e
   refine (I.hok b u e).stay (λc v hc q=>hk c v ?_ q) (λc q=>by rw[a_i (ne c _ q)];exact q) λc xs q=>by rw[a_i (ne c _ q)];exact q
   rcases hc with z | z
   ·rw[z];exact hb
   ·exact ne c _ z
end
end L2
namespace TO
open PySem PySem.Spec PyProof.Rows L2
def o_L:Sp:=λvs H Q _=>∃a ρ,vs= [.ref a]/\RowAt H a ρ/\∀k,H k=none->Q (.ref k) (upd H k (.tup (a_H false ρ)))
section
variable {X:Cx}
theorem o_1 {A:Around} {E:Value->Shared->Prop} {pins:List (Addr×Obj)} {σ:L2.St} {H:Hp} {s:Shared} {D kS:Addr} {e1:Nat} {kas out:List Addr} {st:SortSt} {P:PySem.Fin->Shared->Prop}
 (I:Inv X ((D,seqObj "list" #[] e1)::pins) σ H s) (hk:H kS=some (.lst (kas.map V.ref))) (hout:(arrOf st).map (·.2)=(out.map Value.ref).toArray) (hf:failedOf st=none) (hkz:kas.length < 64) (hoz:out.length < 64)
 (h0:X.s₀.heap.objs.size<=D) (hc:∀x c,X.env.cells.lookup x=some c->c≠D) (hp:∀p∈X.pn++pins,p.1≠D)
 (fin:∀s',Inv X pins σ (upd (upd H kS (.lst [])) D (.lst (out.map V.ref))) s'->P (.done (.ret .none)) s'):wpAny (model X.prog X.w) A (ksk_tail D false e1 (.ref kS) st) P E s:=by
 obtain⟨q1,q2,q3,q4,q5⟩:=I.pin (D,seqObj "list" #[] e1) (r_9 _ (r_0 ..));have d:kS≠D:=λz=>by rw[z,q2] at hk;cases hk
 obtain⟨z,its,n,r,hl,ek⟩:=I.lstM hk;have ei:=b_E r;subst ei;have sz:∀{m:Nat},m < 64->m<=sizeLine:=λh=>s_h (Nat.le_of_lt h) (by decide);unfold ksk_tail;dsimp only;rw[hout];refine wpAny_bind (listUpdate_at ek rfl ?_ (by rw[r_6,r_W];exact sz hkz) (s_o _));have I2:Inv X ((D,seqObj "list" #[] e1)::pins) σ (upd H kS (.lst [])) { s with heap:=s.heap.update kS (Obj.mapSeq λ_=>(#[]:Array Value)),toks:=s.toks }:=I.lset (its':= []) hk ek rfl .nil (s_o _);obtain⟨w1,_⟩:=I2.pin (D,seqObj "list" #[] e1) (r_9 _ (r_0 ..));refine wpAny_bind (wpAny_letGo ?_);refine wpAny_bind (seqEpoch_at w1 rfl ?_)
 refine wpAny_bind (listUpdate_at w1 rfl ?_ (s_o _) (by
  show (List.toArray (out.map Value.ref)).size<=sizeLine+1;rw[r_6,r_W];exact Nat.le_succ_of_le (sz hoz)))
 rw[hf];simp only[bne_self_eq_false,Bool.false_eq_true,if_false];refine wpAny_pure (fin _ ?_);have a:=get?_update_seq w1 λ_=>(out.map Value.ref).toArray;exact I2.takePin (t':=s.toks) (its:=out.map Value.ref) (λb u hb e=>(Heap.get?_update_other _ _ (Ne.symm hb)).trans e) a (c_K out) (by rw[r_W];exact sz hoz) h0 hc hp
theorem r_S {A:Around} {E:Value->Shared->Prop} {pins:List (Addr×Obj)} {σ:L2.St} {H:Hp} {s:Shared} {D kS:Addr} {e1:Nat} {kas as:List Addr} {ρs:List Row} {P:PySem.Fin->Shared->Prop}
 (I:Inv X ((D,seqObj "list" #[] e1)::pins) σ H s) (hk:H kS=some (.lst (kas.map V.ref))) (hT:c_b H kas (ρs.map (a_H false))) (hl:kas.length=as.length) (hlr:as.length=ρs.length) (hn:(ρs.map (·.n)).Nodup) (h64:as.length < 64)
 (h0:X.s₀.heap.objs.size<=D) (hc:∀x c,X.env.cells.lookup x=some c->c≠D) (hp:∀p∈X.pn++pins,p.1≠D)
 (fin:∀(is:List Nat) s',is.Perm (List.range ρs.length)→(∀a b,a < b→b < ρs.length→b_a ((ρs.map (a_H false)).getD (is.getD a 0) []) ((ρs.map (a_H false)).getD (is.getD b 0) [])=true)→
   Inv X pins σ (upd (upd H kS (.lst [])) D (.lst ((is.map λi=>as.getD i 0).map V.ref))) s'->P (.done (.ret .none)) s'):
 wpAny (model X.prog X.w) A (ksk_end D false (as.map Value.ref).toArray e1 (.ref kS) (kas.map Value.ref).toArray) P E s:=by
 unfold ksk_end;dsimp only;simp only[Bool.false_eq_true,if_false];by_cases h2:as.length < 2
 ·have d:(as.map Value.ref).toArray.size < 2:=by simpa using h2
  rw[if_pos d,if_pos d];refine wpAny_bind (wpAny_pure ?_);rw[StateT.run_pure];refine wpAny_bind (wpAny_pure ?_);dsimp only;refine o_1 I hk (out:=as) ?_ rfl (by omega) h64 h0 hc hp λs' J=> ?_
  ·show ((kas.map Value.ref).toArray.zip (as.map Value.ref).toArray).map (·.2)=_
   apply Array.toList_inj.mp;simp[List.map_snd_zip,hl]
  ·refine fin (List.range ρs.length) s' (.refl _) (λa b h1 h3=>by omega) ?_
   have e:(List.range ρs.length).map (λi=>as.getD i 0)=as:=by rw[<-hlr];exact c_S as 0
   rw[e];exact J
 ·have d:¬ (as.map Value.ref).toArray.size < 2:=by simpa using h2
  rw[if_neg d,if_neg d];have so:SO kas.length λi j=>b_a ((ρs.map (a_H false)).getD i []) ((ρs.map (a_H false)).getD j []):=by rw[hl,hlr];exact j_z hn
  refine wpAny_bind (wpAny_mono (j_S (H:=H) (as:=kas) (ks:=ρs.map (a_H false)) (G:=λpp s'=>Rear kas.length pp/\Up (λi j=>b_a ((ρs.map (a_H false)).getD i []) ((ρs.map (a_H false)).getD j [])) pp kas.length/\s'=s) (λa k ha=> ?_) hT (by omega) (λk h=> ?_) (λk h1 k' h3=> ?_) so
   λpp R U=>⟨R,U,rfl⟩) (λκ s0 m=> ?_) λ_ _ z=>z.elim)
  ·obtain⟨_,its,rk,o,ho,r,n,hd⟩:=I.hok a _ ha
   exact⟨its,rk,o,n,ho,r,hd⟩
  ·obtain⟨ρ,_,rfl⟩:=s_r.mp h
   exact⟨_,_,rfl⟩
  ·obtain⟨ρ,_,rfl⟩:=s_r.mp h1
   obtain⟨κ,_,rfl⟩:=s_r.mp h3;exact⟨⟨rfl,rfl,trivial⟩,rfl⟩
  ·have g:(kas.map Value.ref).length=(as.map Value.ref).length:=by simp[hl]
   have l:(PySem.W.kas_sort (as.map Value.ref).length).kasWp (PySem.W.kas_ask X.prog X.w A κ (kas.map Value.ref)) (λpp s'=>Rear kas.length pp/\Up (λi j=>b_a ((ρs.map (a_H false)).getD i []) ((ρs.map (a_H false)).getD j [])) pp kas.length/\s'=s) s0:=by
    rw[r_W,<-hl];exact m
   refine wpAny_bind (wpAny_mono (PySem.W.kat_run (ks:=kas.map Value.ref) (vs:=as.map Value.ref) (Q:=λst' s'=>∃p:Array Nat,p.size=(as.map Value.ref).length/\arrOf st'=p.map (PySem.W.kas_item ((kas.map Value.ref).toArray.zip (as.map Value.ref).toArray))/\failedOf st'=none/\
    (Rear kas.length p/\Up (λi j=>b_a ((ρs.map (a_H false)).getD i []) ((ρs.map (a_H false)).getD j [])) p kas.length/\s'=s)) g (by rw[r_W];omega) (by rw[r_W];exact h64) (λp' st' s' a1 a2 a3 a4=>⟨p',a1,a2,a3,a4⟩) l) ?_ λ_ _ e=>e)
   rintro⟨⟨⟩,st'⟩ s' ⟨p,t,q,hf,R,U,rfl⟩;dsimp only
   have f:p.toList.Perm (List.range ρs.length):=by
    have:=Array.perm_iff_toList_perm.mp R.perm;rw[hl,hlr] at this;simpa using this
   refine o_1 I hk (out:=p.toList.map λi=>as.getD i 0) ?_ hf (by omega) ?_ h0 hc hp λs' J=> ?_
   ·rw[PySem.W.kat_snds g q,List.map_map]
    congr 1;apply List.map_congr_left;intro i hi;exact c_R (by have:=List.mem_range.mp (f.mem_iff.mp hi);omega)
   ·rw[r_W,f.length_eq,List.length_range];omega
   ·refine fin p.toList s' f (λa b h1 h3=> ?_) J
    have:=U a b h1 (by omega);rw[d_s,d_s] at this;simpa[s_f] using this
theorem q_f {E:Value->Shared->Prop} {pins:List (Addr×Obj)} {σ:L2.St} {H H0:Hp} {s:Shared} {D kS f:Addr} {e1 k:Nat} {as:List Addr} {ρs:List Row} {fd:FuncData} {nm:Str} {P:PySem.Fin->Shared->Prop}
 (F:FnOk X.prog X.w X.K X.mg X.base CX0 k f fd [nm] o_L) (hr:Room k X.A.in1.in1) (hb:Binds X.K fd [nm] [])
 (I:Inv X ((D,seqObj "list" #[] e1)::pins) σ H0 s) (hk:H0 kS=some (.lst [])) (sm:Same H H0) (hR:RowsAt H as ρs) (hkn:H kS=none) (hn:(ρs.map (·.n)).Nodup) (h64:as.length < 64)
 (h0:X.s₀.heap.objs.size<=D) (hc:∀x c,X.env.cells.lookup x=some c->c≠D) (hp:∀p∈X.pn++pins,p.1≠D)
 (fin:∀(is:List Nat) (H':Hp) s',is.Perm (List.range ρs.length)→(∀a b,a < b→b < ρs.length→b_a ((ρs.map (a_H false)).getD (is.getD a 0) []) ((ρs.map (a_H false)).getD (is.getD b 0) [])=true)→Same H H'→H' D=none→
   Inv X pins σ (upd H' D (.lst ((is.map λi=>as.getD i 0).map V.ref))) s'->P (.done (.ret .none)) s'):
 wpAny (model X.prog X.w) X.A.in1.in1 (ksk_rest D (.ref f) false (as.map Value.ref).toArray e1 (.ref kS)) P E s:=by
 have t:=hR.len;unfold ksk_rest;refine wpAny_bind (wpAny_rule ?_)
 first
  | rw[List.forIn_toArray]
  | (rw[<-Array.forIn_toList];simp only[List.toList_toArray])
 refine wpAny_bind (ksk_fold (λi s'=>∃(Hi:Hp) (kas:List Addr),Inv X ((D,seqObj "list" #[] e1)::pins) σ Hi s'/\Hi kS=some (.lst (kas.map V.ref))/\kas.length=i/\c_b Hi kas ((ρs.take i).map (a_H false))/\Same H Hi) (as.map Value.ref) 0 s ⟨H0, [],I,hk,rfl,.nil,sm⟩ ?step ?done)
 case step=>
  rintro j x s' hx ⟨Hi,kas,J,g,d,hT,si⟩;rw[Nat.zero_add] at d hT ⊢;rw[r_8] at hx;cases ej:as[j]? with
  | none=>rw[ej] at hx;cases hx
  | some a=>
    rw[ej] at hx;obtain rfl:Value.ref a=x:=r_3 hx;obtain⟨ρ,hρ,B⟩:=hR.get' ej;have G:=(s_a.mp ej).1;refine wpAny_bind (wpAny_attempt (wpAny_mono (g_G (X:=X.at2) (Q:=λv H'=>∃kk,v=V.ref kk/\Hi kk=none/\H'=upd Hi kk (.tup (a_H false ρ))) F hr hb .nil a_v J.at2 (.cons (a:=V.ref a) rfl .nil) ⟨a,ρ,rfl,si _ _ B,λkk l=>⟨kk,rfl,l,rfl⟩⟩) (λv s'' he=> ?_) λ_ _ z=>z.elim));obtain⟨v',H',J',rv,kk,rfl,l,rfl⟩:=he;cases rv;have J2:=Inv.un2 J.ok J';have s2:Same Hi (upd Hi kk (.tup (a_H false ρ))):=λb u e=>by rw[a_i (a_h e l)];exact e
    have q:=s2 _ _ g;obtain⟨z,its,n,r,C,ek⟩:=J2.lstM q;have ei:=b_E r;subst ei;dsimp only
    refine wpAny_bind (listUpdate_at ek rfl ?_ (by rw[r_6,r_W];exact s_h (m:=64) (by omega) (by decide)) (by
     show ((kas.map Value.ref).toArray.push (Value.ref kk)).size<=_;rw[Array.size_push,r_6,r_W];exact s_h (m:=100) (by omega) (by decide)))
    have et:(ρs.take (j+1)).map (a_H false)=(ρs.take j).map (a_H false)++ [a_H false ρ]:=by rw[s_n,hρ,r_4];rfl
    have J3:Inv X ((D,seqObj "list" #[] e1)::pins) σ (upd (upd Hi kk (.tup (a_H false ρ))) kS (.lst ((kas++ [kk]).map V.ref))) { s'' with heap:=s''.heap.update kS (Obj.mapSeq (·.push (Value.ref kk))),toks:=s''.toks }:=
     J2.lset (its':=(kas++ [kk]).map Value.ref) q ek (by simp) (c_K _) (by rw[r_W,r_Y];exact s_h (m:=100) (by simp;omega) (by decide))
    have tk:∀b k',(upd Hi kk (.tup (a_H false ρ))) b=some (.tup k')->(upd (upd Hi kk (.tup (a_H false ρ))) kS (.lst ((kas++ [kk]).map V.ref))) b=some (.tup k'):=λb k' e=>by
     rw[a_i (λz=>by rw[z,q] at e;cases e)];exact e
    refine wpAny_pure ⟨rfl,_,kas++ [kk],J3,a_b,by simp[d],?_, λb u e=> ?_⟩
    ·rw[et]
     have aux:∀{l1:List Addr} {l2:List (List V)},c_b Hi l1 l2->c_b (upd (upd Hi kk (.tup (a_H false ρ))) kS (.lst ((kas++ [kk]).map V.ref))) (l1++ [kk]) (l2++ [a_H false ρ]):=by
      intro l1 l2 h;induction h with
      | nil=>exact .cons (tk _ _ a_b) .nil
      | cons a _ ih=>exact .cons (tk _ _ (s2 _ _ a)) ih
     exact aux hT
    ·rw[a_i (a_h e hkn)]
     exact s2 _ _ (si _ _ e)
 case done=>
  rintro s' ⟨Hi,kas,J,g,d,hT,si⟩;rw[Nat.zero_add,r_W] at d;rw[Nat.zero_add,r_W,t,s_g (r_5 _)] at hT;obtain⟨z,its,n,r,C,ek⟩:=J.lstM g;have ei:=b_E r;subst ei;refine wpAny_bind (listItems_at ek rfl ?_);refine r_S J g hT d t hn h64 h0 hc hp λis s'' h1 h2 J'=> ?_;have o:Hi D=none:=(J.pin (D,seqObj "list" #[] e1) (r_9 _ (r_0 ..))).2.1;have y:D≠kS:=λz=>by rw[z,g] at o;cases o
  exact fin is _ s'' h1 h2 (λb u e=>by rw[a_i (a_h e hkn)];exact si _ _ e) (by rw[a_i y];exact o) J'
theorem m_9 {pins:List (Addr×Obj)} {σ:L2.St} {H:Hp} {s:Shared} {k:Nat} {f p:Addr} {fd:FuncData} {nm:Str} {as:List Addr} {ρs:List Row} {Q:VK} (F:FnOk X.prog X.w X.K X.mg X.base CX0 k f fd [nm] o_L) (hr:Room k X.A.in1.in1) (hb:Binds X.K fd [nm] [])
 (I:Inv X pins σ H s) (hp:SqL X.K H p (as.map V.ref)) (hR:RowsAt H as ρs) (hn:(ρs.map (·.n)).Nodup) (h64:as.length < 64)
 (q:∀(l:Addr) (κs:List Row) (H':Hp),H l=none->Same H H'->LstAt H' l κs->κs.Perm ρs->Srt (ltR false) κs->Q (.ref l) H'):
 wpAny (model X.prog X.w) X.A (call (.builtin "sorted") [.ref p] [(Str.ofString "key",.ref f)]) (EP X pins σ Q) X.xe s:=by
 obtain⟨its,r,pl,_⟩:=I.list hp;have ei:=b_E r;subst ei;have P:=hR.len;have h:(as.map Value.ref).length<=sizeLine:=by rw[r_W];exact s_h (m:=64) (by omega) (by decide)
 refine call_function_entry_kw kind_sorted plain_sorted entry_sorted (ksk_s1 _ _) ?_;unfold Builtin.«sorted»;refine wpAny_bind (m:=checkCount "sorted" 1 1 _) (wpAny_pure (wpAny_bind (collect_list pl.isList (wpAny_bind (wpAny_newList ?_ h)) h)));generalize eg:((s.heap.push (seqObj "list" #[] 0)).update s.heap.objs.size (Obj.mapSeq (·++(as.map Value.ref).toArray)))=g0;have d:g0.objs.size=s.heap.objs.size+1:=by rw[<-eg,Heap.size_update,size_push']
 have y:∀b o,s.heap.get? b=some o->g0.get? b=some o:=λb o e=>by
  have j:b < s.heap.objs.size:=Heap.lt_size e;rw[<-eg,Heap.get?_update_ne _ _ _ _ (s_k j),Heap.get?_push_ne _ _ _ (s_k j)];exact e
 clear eg;show wpAny _ _ _ _ _ { s with heap:=g0.push (seqObj "list" (as.map Value.ref).toArray 0) };have g:(g0.push (seqObj "list" (as.map Value.ref).toArray 0)).get? g0.objs.size=some (seqObj "list" (as.map Value.ref).toArray 0):=Heap.get?_push_size _ rfl;refine wpAny_bind (wpAny_holding (wpAny_call_entry_kw slot_list_sort ⟨_,g,rfl⟩ entry_list_sort ?body (ksk_l1 _ _)));show wpAny _ X.A.in1.in1 (Builtin.«list.sort» ⟨[.ref g0.objs.size], [(Str.ofString "key",.ref f)]⟩) _ _ _;rw[ksk_t1];unfold ksk_tree;refine wpAny_bind (listItems_at g rfl (wpAny_bind (listUpdate_at g rfl ?_ (by rw[r_6];exact h) (s_o _))));obtain⟨e1,hD2⟩:∃e1,((g0.push (seqObj "list" (as.map Value.ref).toArray 0)).update g0.objs.size (Obj.mapSeq λ_=>(#[]:Array Value))).get? g0.objs.size=some (seqObj "list" #[] e1):=⟨_,get?_update_seq g λ_=> #[]⟩;generalize t:(g0.push (seqObj "list" (as.map Value.ref).toArray 0)).update g0.objs.size (Obj.mapSeq λ_=>(#[]:Array Value))=g2 at hD2 ⊢
 have E:∀b o,s.heap.get? b=some o->g2.get? b=some o:=λb o e=>by
  have j:=Heap.lt_size (y b o e);rw[<-t,Heap.get?_update_ne _ _ _ _ (s_k j)];exact Heap.get?_push_of_some _ (y b o e)
 have O:g2.objs.size=s.heap.objs.size+2:=by rw[<-t,Heap.size_update,size_push',d]
 clear t;refine wpAny_bind (seqEpoch_at hD2 rfl (wpAny_bind (wpAny_newTuple (wpAny_bind (wpAny_newList (wpAny_holding ?_) (s_o _))) (by simpa using h))));have G:∀b o,s.heap.get? b=some o->((g2.push (seqObj "tuple" (as.map Value.ref).toArray 0)).push (seqObj "list" #[] 0)).get? b=some o:=λb o e=>Heap.get?_push_of_some _ (Heap.get?_push_of_some _ (E b o e));have B:(g2.push (seqObj "tuple" (as.map Value.ref).toArray 0)).objs.size=s.heap.objs.size+3:=by rw[size_push',O]
 have C:H (g2.push (seqObj "tuple" (as.map Value.ref).toArray 0)).objs.size=none:=I.hok.fresh (by rw[B];omega);have HD:H g0.objs.size=none:=I.hok.fresh (by rw[d];omega);have N:g0.objs.size≠(g2.push (seqObj "tuple" (as.map Value.ref).toArray 0)).objs.size:=by rw[B,d];omega
 have hL:=I.lt
 have I4:Inv X pins σ (upd H (g2.push (seqObj "tuple" (as.map Value.ref).toArray 0)).objs.size (.lst [])) { s with heap:=(g2.push (seqObj "tuple" (as.map Value.ref).toArray 0)).push (seqObj "list" #[] 0),toks:=s.toks }:=
  I.laid (o:= .lst []) G (by rw[B];omega) ⟨s_o _, [],0,.nil,Heap.get?_push_size _ rfl⟩
 have I5:=I4.addPin (a:=g0.objs.size) (o:=seqObj "list" #[] e1) (Heap.get?_push_of_some _ (Heap.get?_push_of_some _ hD2)) (by rw[a_i N];exact HD) (by rw[d];exact Nat.ne_of_gt (Nat.lt_succ_of_lt hL)) (I.nofs (by rw[d];omega)) (λv z=>by cases z);refine q_f (H:=H) F hr hb I5 a_b (λb u e=>by rw[a_i (a_h e C)];exact e) hR C hn h64 (s_h I.sz (by rw[d];omega)) (λx c e z=> ?_) (λpp M z=> ?_) λis H' s' h1 h2 s3 R J=> ?_
 ·obtain⟨v,o,ho,_⟩:=I.cell x c e
  have:=Heap.lt_size ho;rw[z,d] at this;exact absurd this (Nat.not_lt.mpr (Nat.le_succ _))
 ·have:=Heap.lt_size (I.pin pp M).1
  rw[z,d] at this;exact absurd this (Nat.not_lt.mpr (Nat.le_succ _))
 ·refine⟨_,rfl,wpAny_pure ⟨_,rfl,.ref g0.objs.size,_,J,rfl,?_⟩⟩
  have L:∀i∈is,i < ρs.length:=λi hi=>List.mem_range.mp (h1.mem_iff.mp hi);have s4:Same H (upd H' g0.objs.size (.lst ((is.map λi=>as.getD i 0).map V.ref))):=λb u e=>by rw[a_i (a_h e HD)];exact s3 _ _ e
  exact q g0.objs.size (is.map λi=>ρs.getD i i_e) _ HD s4 ⟨_,a_b,(g_v hR L).same λb xs z=>s4 _ _ z⟩ (g_h h1) (h_8 h1 h2)
def p_p (K:PySem.W.Frag) (te:TE):TE:=λσ H Q=>te σ H λv H1=>∃(p:Addr) (as:List Addr) (ρs:List Row),v= .ref p/\SqL K H1 p (as.map V.ref)/\RowsAt H1 as ρs/\(ρs.map (·.n)).Nodup/\as.length < 64/\
 ∀(l:Addr) (κs:List Row) (H':Hp),H1 l=none->Same H1 H'->LstAt H' l κs->κs.Perm ρs->Srt (ltR false) κs->Q (.ref l) H'
theorem l_R {k:Nat} {f:Addr} {fd:FuncData} {nm kn:Str} {e:Expr} {te:TE} {p kp kpos pos:Pos} (F:FnOk X.prog X.w X.K X.mg X.base CX0 k f fd [nm] o_L) (hr:Room k X.A.in1.in1) (hb:Binds X.K fd [nm] []) (hm:X.mg "sorted"=none) (ha:PE X e te) (hkm:X.mg kn=some (.ref f))
 (hg:Gl X "sorted":=by rfl) (hkg:Gl X kn:=by rfl) (hd:(kn == ("__debug__":Str))=false:=by decide) (hB:backTo pos (starEach [e] X.env)=(false,eval e X.env)::backTo pos (starEach [] X.env):=by rfl) (hP:(backTo pos (starEach [e] X.env)).any (·.1)=false:=by rfl) (hes:starEach [e] X.env=(false,eval e X.env)::starEach [] X.env:=by rfl):PE X (.Call (.Name "sorted" p) [e] [⟨some "key",.Name kn kp,kpos⟩] pos) (p_p X.K te):=by
 intro pins s σ H Q I h;refine wpAny_Call_Name_kw (e_7 I hg hm boot_sorted ?_)
 refine callWith_kw (thn ((a_a ha a_d (hs:=hes):PA X [e] _) pos pins s σ H (λvs H1=>match vs with
  | [v]=>∃(p:Addr) (as:List Addr) (ρs:List Row),v= .ref p∧SqL X.K H1 p (as.map V.ref)∧RowsAt H1 as ρs∧(ρs.map (·.n)).Nodup∧as.length < 64∧
    ∀(l:Addr) (κs:List Row) (H':Hp),H1 l=none->Same H1 H'->LstAt H' l κs->κs.Perm ρs->Srt (ltR false) κs->Q (.ref l) H'
  | _=>False) I h) λus s1 ⟨vs,H1,I1,r,q⟩=> ?_) hB hP
 cases r with
 | nil=>exact q.elim
 | cons ru rt=>
   cases rt with
   | cons _ _=>exact q.elim
   | nil=>
     obtain⟨p,as,ρs,rfl,h1,h2,h3,h4,h5⟩:=q;cases ru;show wpAny _ _ (evalAll [(do let v<-eval (.Name kn kp) X.env;standAt pos;pure v)]) _ _ s1;refine wpAny_evalAll_cons (wpAny_bind (c_2 I1 hkg hkm (wpAny_bind (wpAny_standAt (wpAny_pure (wpAny_evalAll_nil ?_)))) hd));exact m_9 F hr hb I1 h1 h2 h3 h4 h5
end
end TO
namespace L2
open PySem PySem.Spec PyProof.Rows
structure f_z (X:Cx) (scope:Scope) (x x2:Str) (fns:List Str) (js:List Nat):Prop where
 kind:scope.kind= .function
 nocell:∀y∈scope.names,y.2≠ .cell
 locs:∀y∈scope.names,y.2= .local->scope.names.lookup y.1=some .local
 loc:scope.names.lookup x=some .local
 loc2:scope.names.lookup x2=some .local
 free:∀y∈scope.names,y.2= .free->y.1∈fns
 isfree:∀y∈fns,scope.names.lookup y=some .free
 clos:closureFor scope X.env=pure (k_7 X.env fns)
 mine:∀y∈fns,X.env.kindOf y=some .cell
 js:js.map (λj=>X.N[j]?)=fns.map some
 nd:(x::x2::fns).Nodup
section
variable {X:Cx} {scope:Scope} {x x2:Str} {fns:List Str} {js:List Nat} {pins:List (Addr×Obj)} {σ:St} {H:Hp} {s:Shared} {fp:List Addr}
def b_5 (σ:St) (js:List Nat) (v v2:Option V):St:=v::v2::js.map λj=>(σ[j]?).join
theorem i_G (S:f_z X scope x x2 fns js) (I:Inv X pins σ H s) (hf:∀b∈fp,f_Z X pins H b) (ho:∀b∈fp,b < s.heap.objs.size):(a_W X scope fns (x::x2::fns) fp pins s H).Ok where
 mod:=I.ok.mod
 kind:=S.kind
 glob:=I.ok.glob
 blt:=I.ok.blt
 above:=r_5 _
 inj:=λy z c h1 h2=>I.ok.inj y z c (a_7 h1).1 (a_7 h2).1
 has:=λy hy=>by
  have a:y∈fns:=by
   rcases hy with hy | hy
   ·exact S.free _ (c_r (PySem.mem_of_lookup hy) (.inl rfl) S.nocell) rfl
   ·exact S.free _ (c_r (PySem.mem_of_lookup hy) (.inr rfl) S.nocell) rfl
  obtain⟨c,hc⟩:=I.ok.has y (.inl (S.mine y a));exact⟨c,d_A a hc⟩
 cab:=λ_ _ h=>nomatch h
 hd:=I.ok.hd
 frames:=I.ok.frames
 stk:= .inl rfl
 exf:=λb hb=>⟨s_k (ho b hb),λy c e=>(hf b hb).2.2.2.2.1 y c (a_7 e).1⟩
 bs:=I.bs
 bsz:=s_h I.ok.bsz I.sz
 noex:=λb o e hb=>by
  rcases (hf b hb).2.2.2.1 with z | z
  ·exact I.ok.noex b o e z
  ·exact absurd (s_c (s_c (Heap.lt_size e) I.ok.bsz) z) (Nat.lt_irrefl _)
 exfs:=λb hb hs=>by
  rcases r_7.mp (I.stkSub b hs) with z | z
  ·exact (hf b hb).2.1 z
  ·exact (hf b hb).2.2.1 z
 funs:=I.stack
 frf:=I.stkFree
theorem h_D (S:f_z X scope x x2 fns js) (I:Inv X pins σ H s) (hf:∀b∈fp,f_Z X pins H b) (ho:∀b∈fp,b < s.heap.objs.size) {h₁:Heap} {m:Str->Option Value} {tk:Nat} (hn:h₁.Ns s.heap.objs.size m)
 (hk:∀b o,s.heap.get? b=some o->h₁.get? b=some o):Inv (a_W X scope fns (x::x2::fns) fp pins s H) [] (b_5 σ js none none) H { s with heap:=h₁,toks:=tk }:=by
 have K1:HOk X.prog X.w H h₁:=I.hok.kept hk;refine⟨i_G S I hf ho,rfl,I.bare,Un.kept hk,⟨m,hn,λi y v e1 e2 _=> ?_⟩,λy c e=> ?_, I.hok.fresh (r_5 _),λy c e=>I.freeC y c (a_7 e).1,λp hp=> ?_, K1,?_⟩
 ·cases i with
  | zero=>cases e2
  | succ i=>
    cases i with
    | zero=>cases e2
    | succ i=>
      have f:fns[i]? =some y:=e1;have a:(js.map λj=>(σ[j]?).join)[i]? =some (some v):=e2;rw[r_8] at a;cases ej:js[i]? with
      | none=>rw[ej] at a;cases a
      | some j=>
        rw[ej] at a;have e3:(σ[j]?).join=some v:=r_3 a
        have e4:σ[j]? =some (some v):=by
         cases q:σ[j]? with
         | none=>rw[q] at e3;cases e3
         | some o=>rw[q] at e3;exact congrArg some e3
        have e5:X.N[j]? =some y:=by
         have q:=congrArg (λl=>l[i]?) S.js;simp only[r_8,ej,f,Option.map_some] at q;exact r_3 q
        have hy:y∈fns:=s_m f;obtain⟨m',_,hl⟩:=I.loc;obtain⟨u,r,l⟩:=hl j y v e5 e4 (.inr (.inl (S.mine y hy)));refine⟨u,r,.inr ⟨.inl (b_l I.ok.kind (S.isfree y hy) (S.mine y hy)),?_⟩⟩;rcases l with⟨k,_⟩ | ⟨k,c,ec,oc,h,hd⟩
        ·rw[S.mine y hy] at k;cases k
        ·exact⟨c,d_A hy ec,oc,hk _ _ h,hd⟩
 ·obtain⟨v,o,ho,hd⟩:=I.cell y c (a_7 e).1
  exact⟨v,o,hk _ _ ho,hd⟩
 ·have g:p∈X.pn++pins:=by rw[s_t] at hp;exact hp
  obtain⟨e,n,ne,nf,d⟩:=I.pin p g;refine⟨hk _ _ e,n,s_k (Heap.lt_size e),λz=> ?_, d⟩;rcases r_7.mp (I.stkSub p.1 z) with q | q
  ·exact ne q
  ·exact nf q
 ·unfold b_5
  have:=congrArg List.length S.js;simp only[r_W] at this;simp only[r_2,r_W,this,a_W]
theorem g_z (I:Inv X pins σ H s) (hf:∀b∈fp,f_Z X pins H b) {σ':St} {H':Hp} {s':Shared} {pins':List (Addr×Obj)} (J:Inv (a_W X scope fns (x::x2::fns) fp pins s H) pins' σ' H' s'):Inv X pins σ H' s':=
 I.call' (ch:=fp) J.os J.base J.hok J.bare λb hb=>⟨(hf b hb).2.2.2.1,(hf b hb).2.1,(hf b hb).2.2.2.2.1,(hf b hb).2.2.2.2.2⟩
end
def k_C (J:It) (D:Addr) (σ:St) (js:List Nat) (tt:TT) (te:TE) (QQ:Hp->Prop) (W:Nat->Nat->Hp->Prop):Prop:=
 ∀i m H,W i m H->(J.stop i H/\QQ H)\/(J.go i H/\∃(N1:V->Hp->Prop) (N0:Hp->Prop),
  (∀y H3,N1 y H3->∃ys,H3 D=some (.lst ys)/\ys.length < sizeLine/\∃m',m' < m/\W (i+1) m' (upd H3 D (.lst (ys++ [y]))))/\(∀H2,N0 H2->∃m',m' < m/\W (i+1) m' H2)/\
  ∀v H',J.yld i H v H'->∃t a b',v=V.ref t/\H' t=some (.tup [a,b'])/\tt (b_5 σ js (some a) (some b')) H' λb H2=>if b=true then te (b_5 σ js (some a) (some b')) H2 N1 else N0 H2)
section
variable {X:Cx} {scope:Scope} {x x2:Str} {fns:List Str} {js:List Nat} {pins:List (Addr×Obj)} {σ:St} {H:Hp} {s:Shared} {elt iter:Expr} {px py pt pos pos':Pos} {kt:Nat} {ifs:List Expr} {wi:TI} {tt:TT} {te:TE}
theorem i_o {use:Option (Value->Sem Unit)} {Qv:Value->Shared->Prop} {QQ:Addr->Hp->Prop} (hc:X.calm=true) (S:f_z X scope x x2 fns js) (hi:PI X (.Tuple [.Name x px,.Name x2 py] kt pt) iter wi)
 (ht:∀fp pins s H,n_K (a_W X scope fns (x::x2::fns) fp pins s H) ifs tt) (he:∀fp pins s H,PE (a_W X scope fns (x::x2::fns) fp pins s H) elt te) (I:Inv X pins σ H s)
 (h:wi σ H λJ H1=>∀D,H1 D=none->∃W:Nat->Nat->Hp->Prop,(∃m,W 0 m (upd H1 D (.lst [])))/\k_C J D σ js tt te (QQ D) W)
 (fin:∀D C H5 s5 m5,Inv X pins σ H5 s5->f_Z X pins H5 C->s5.heap.Ns C m5->QQ D H5->compPost (model X.prog X.w) X.A X.xe use Qv (.ref D) C (.ok .next) s5)
 (hs:∀x,foldedSetIterable iter X.env x=pure x:=by intro _;rfl):
 wpAny (model X.prog X.w) X.A (comprehension (.ListComp elt [⟨.Tuple [.Name x px,.Name x2 py] kt pt,iter,ifs,0⟩] scope pos) scope X.env pos' (newList []) false (eval iter X.env) use) Qv X.xe s:=by
 refine wpAny_comprehension_free (use:=use) rfl hs S.clos S.kind S.locs (thn (hi pins s σ H _ I h) λv s1 h1=>thn h1 λitv s2 h2=> ?_);obtain⟨it,fp,tn,J,H2,e,I2,T,c,f2,hW⟩:=h2;subst e;obtain⟨W,⟨m0,w0⟩,turn⟩:=hW s2.heap.objs.size I2.fresh;have I3:Inv X pins σ (upd H2 s2.heap.objs.size (.lst [])) { s2 with heap:=s2.heap.push { cls:= .type "list",data:= .seq ([]:List Value).toArray } }:=I2.lnew (t':=s2.toks) (its:= []) (ys:= []) .nil (s_o _)
 have f:∀b∈fp,b < s2.heap.objs.size:=λb hb=>by
  obtain⟨o,e,_⟩:=T.obj _ _ c b hb;exact Heap.lt_size e
 have f3:∀b∈fp,f_Z X pins (upd H2 s2.heap.objs.size (.lst [])) b:=λb hb=>⟨by rw[a_i (s_k (f b hb))];exact (f2 b hb).1,(f2 b hb).2⟩;have F:∀b∈fp,b < (s2.heap.push { cls:= .type "list",data:= .seq ([]:List Value).toArray }).objs.size:=λb hb=>by rw[Heap.size_push];exact Nat.lt_succ_of_lt (f b hb)
 refine wpAny_newObj_type (wpAny_newFunctionEnv S.nocell (by intro y hy;simp at hy) (λh₁ hns₁ hsb₁=> ?_) S.kind);dsimp only at hns₁ hsb₁ ⊢
 have hk:∀b o,(s2.heap.push { cls:= .type "list",data:= .seq ([]:List Value).toArray }).get? b=some o->h₁.get? b=some o:=λb o e=>
  hsb₁.extBut b o (s_k (Heap.lt_size e)) (Heap.get?_push_of_some _ e)
 have J0:=h_D (tk:=s2.toks+([]:List (Str×Value)).length) S I3 f3 F hns₁ hk
 have stat:∀{H':Hp},(∀b∈fp,H' b=none)->∀b∈fp,f_Z (a_W X scope fns (x::x2::fns) fp pins { s2 with heap:=s2.heap.push { cls:= .type "list",data:= .seq ([]:List Value).toArray } } (upd H2 s2.heap.objs.size (.lst []))) [] H' b:=λhn b hb=>by
  refine⟨hn b hb,(J0.ok.exf b hb).1,J0.ok.exfs b hb,.inl hb,(J0.ok.exf b hb).2,λp hp=>(f3 b hb).2.2.2.2.2 p ?_⟩;rw[s_t] at hp;exact hp
 have E:∀b∈fp,(upd H2 s2.heap.objs.size (.lst [])) b=none:=λb hb=>(f3 b hb).1;have g:tn 0 h₁:=T.keep _ _ _ c λb hb o e=>hk b o (Heap.get?_push_of_some _ e)
 have loop:∀s₃:Shared,s₃={ s2 with heap:=h₁,toks:=s2.toks+([]:List (Str×Value)).length }->
  codeAny (model X.prog X.w) X.A (.compLoop (.ListComp elt [⟨.Tuple [.Name x px,.Name x2 py] kt pt,iter,ifs,0⟩] scope pos) 0 (.ref it) (.ref s2.heap.objs.size) (compEnvC scope (k_7 X.env fns) (s2.heap.push { cls:= .type "list",data:= .seq ([]:List Value).toArray }).objs.size X.env))
   (compPost (model X.prog X.w) X.A X.xe use Qv (.ref s2.heap.objs.size) (s2.heap.push { cls:= .type "list",data:= .seq ([]:List Value).toArray }).objs.size) s₃:=by
  rintro s₃ rfl
  refine d_O (λn s'=>∃i o o2 H',Inv (a_W X scope fns (x::x2::fns) fp pins { s2 with heap:=s2.heap.push { cls:= .type "list",data:= .seq ([]:List Value).toArray } } (upd H2 s2.heap.objs.size (.lst []))) [] (b_5 σ js o o2) H' s'/\tn i s'.heap/\(∀b∈fp,H' b=none)/\W i n H') ?_ m0
   ⟨0,none,none,_,J0,g,E,w0⟩
  rintro n s4 ⟨i,o,o2,H4,J4,j,l,w4⟩;rcases turn i n H4 w4 with⟨stop,qn⟩ | ⟨go,N1,N0,z,N,step⟩
  ·refine thn (T.done (a_W X scope fns (x::x2::fns) fp pins { s2 with heap:=s2.heap.push { cls:= .type "list",data:= .seq ([]:List Value).toArray } } (upd H2 s2.heap.objs.size (.lst []))) rfl rfl rfl hc i [] s4 _ H4 _ J4 (stat l) j stop) λr s5 ⟨hr,J5⟩=> ?_
   subst hr;obtain⟨m5,L,_⟩:=id J5.loc;have I5:=g_z I3 f3 J5;exact fin _ _ H4 s5 m5 I5 ⟨J5.free,Nat.ne_of_gt (s_c I3.lt (r_5 _)),I3.nofs (r_5 _),.inr I3.sz,(I3.fpOk (r_5 _) J5.free).2.2.2.2⟩ L qn
  ·refine thn (T.item (a_W X scope fns (x::x2::fns) fp pins { s2 with heap:=s2.heap.push { cls:= .type "list",data:= .seq ([]:List Value).toArray } } (upd H2 s2.heap.objs.size (.lst []))) rfl rfl rfl hc i [] s4 _ H4 _ J4 (stat l) j go) λr s5 ⟨u,hr,h5⟩=> ?_
   subst hr;refine thn h5 λ_ s6 ⟨v6,H6,J6,r6,y6,a,t⟩=> ?_;have M:=J6.pinned (stat t) (T.obj _ _ a);obtain⟨t6,a6,b6,e6,K,step'⟩:=step v6 H6 y6;have pg:=o_U (X:=a_W X scope fns (x::x2::fns) fp pins { s2 with heap:=s2.heap.push { cls:= .type "list",data:= .seq ([]:List Value).toArray } } (upd H2 s2.heap.objs.size (.lst []))) (k:=kt) (pos:=pt) hc (h_S (a_9 (pos:=px) (i:=0) (x:=x) S.nd rfl (.inl (lookup_relabel_local S.loc)) (.inr (lookup_relabel_local S.loc))) (h_S (a_9 (pos:=py) (i:=1) (x:=x2) S.nd rfl (.inl (lookup_relabel_local S.loc2)) (.inr (lookup_relabel_local S.loc2))) n_X));refine thn (pg _ s6 _ H6 v6 u (λσ' H'=>σ'=b_5 σ js (some a6) (some b6)/\H'=H6) M r6 ⟨t6,_,e6,SqT.of K,rfl,a6, [b6],rfl,b6, [],rfl,rfl,rfl,rfl⟩) λ_ s7 ⟨σ7,H7,J7,e7,G⟩=> ?_;subst e7 G;refine thn (ht _ _ _ _ _ s7 _ H7 _ J7 step') λb s8 ⟨H8,J8,q8⟩=> ?_
   have again:∀{H9:Hp} {s9:Shared},Inv (a_W X scope fns (x::x2::fns) fp pins { s2 with heap:=s2.heap.push { cls:= .type "list",data:= .seq ([]:List Value).toArray } } (upd H2 s2.heap.objs.size (.lst []))) ([]++f_o fp s6.heap) (b_5 σ js (some a6) (some b6)) H9 s9->
    (∃m',m' < n/\W (i+1) m' H9)->∃m,m < n/\∃i o o2 H',Inv (a_W X scope fns (x::x2::fns) fp pins { s2 with heap:=s2.heap.push { cls:= .type "list",data:= .seq ([]:List Value).toArray } } (upd H2 s2.heap.objs.size (.lst []))) [] (b_5 σ js o o2) H' s9/\tn i s9.heap/\(∀b∈fp,H' b=none)/\W i m H':=λ{H9 s9} J9 ⟨m',hm,w9⟩=>by
    refine⟨m',hm,i+1,some a6,some b6,H9,J9.unpinned,T.keep _ _ _ a λb hb o e=>(J9.pin (b,o) (r_9 _ (r_9 _ (b_Q hb e)))).1,λb hb=> ?_, w9⟩;obtain⟨o,e,d⟩:=T.obj _ _ a b hb;exact (J9.pin (b,o) (r_9 _ (r_9 _ (b_Q hb e)))).2.1
   cases b with
   | false=>exact again J8 (N _ (by simpa using q8))
   | true=>
     simp only[if_true] at q8 ⊢;refine thn (he _ _ _ _ _ s8 _ H8 _ J8 q8) λxv s9 ⟨y9,H9,J9,r9,n9⟩=> ?_;obtain⟨ys,hD,hz,q9⟩:=z y9 H9 n9;refine thn (a_N _ s9 _ H9 (.ref s2.heap.objs.size) [y9] (.ref s2.heap.objs.size) [xv] (λ_ H'=>H'=upd H9 s2.heap.objs.size (.lst (ys++ [y9]))) J9 rfl (.cons r9 .nil) ⟨_,ys,y9,rfl,rfl,hD,hz,rfl⟩) λ_ O ⟨_,P,B,_,q⟩=> ?_;subst q;exact again B q9
 exact codeAny_compStart_list (loop _ rfl) (T.self _ 0 _ _ _ g (loop _ rfl))
def p_J (wi:TI) (js:List Nat) (tt:TT) (te:TE):TE:=λσ H Q=>wi σ H λJ H1=>∀D,H1 D=none->∃W:Nat->Nat->Hp->Prop,(∃m,W 0 m (upd H1 D (.lst [])))/\k_C J D σ js tt te (Q (.ref D)) W
theorem l_i (hc:X.calm=true) (S:f_z X scope x x2 fns js) (hi:PI X (.Tuple [.Name x px,.Name x2 py] kt pt) iter wi)
 (ht:∀fp pins s H,n_K (a_W X scope fns (x::x2::fns) fp pins s H) ifs tt) (he:∀fp pins s H,PE (a_W X scope fns (x::x2::fns) fp pins s H) elt te) (hs:∀x,foldedSetIterable iter X.env x=pure x:=by intro _;rfl):
 PE X (.ListComp elt [⟨.Tuple [.Name x px,.Name x2 py] kt pt,iter,ifs,0⟩] scope pos) (p_J wi js tt te):=by
 intro pins s σ H Q I h;rw[eval_ListComp];refine i_o (use:=none) (QQ:=λD=>Q (.ref D)) hc S hi ht he I h (λD C H5 s5 m5 I5 fC hn q=> ?_) hs;refine⟨m5,hn,λh' sb=>⟨.ref D,H5,?_, rfl,q⟩⟩;exact I5.turned (t':=s5.toks) (λb o hb e=>(sb.2 b hb).trans e) fC.1 fC.2.1 fC.2.2.2.1 fC.2.2.2.2.1 fC.2.2.2.2.2
end
theorem i_D {K:PySem.W.Frag} {a D:Addr} {xs:List V} {σ:St} {js:List Nat} {tt:TT} {te:TE} {QQ:Hp->Prop} {H:Hp} (Pv:Nat->List V->Hp->Prop) (h0:Pv 0 [] (upd H D (.lst [])))
 (hl:∀i ys H,i<=xs.length->H D=some (.lst ys)->Pv i ys H->SqL K H a xs)
 (hs:∀i v ys H,xs[i]? =some v→H D=some (.lst ys)→Pv i ys H→∃t p q,v=V.ref t∧H t=some (.tup [p,q])∧tt (b_5 σ js (some p) (some q)) H fun b H2=>
   if b=true then te (b_5 σ js (some p) (some q)) H2 λy H3=>H3 D=some (.lst ys)/\ys.length < sizeLine/\Pv (i+1) (ys++ [y]) (upd H3 D (.lst (ys++ [y]))) else H2 D=some (.lst ys)/\Pv (i+1) ys H2)
 (hd:∀ys H,H D=some (.lst ys)->Pv xs.length ys H->QQ H):
 ∃W:Nat->Nat->Hp->Prop,(∃m,W 0 m (upd H D (.lst [])))/\k_C (Itl K a) D σ js tt te QQ W:=by
 refine⟨λi m H=>i<=xs.length/\m=xs.length - i/\∃ys,H D=some (.lst ys)/\Pv i ys H,⟨_,s_o _,rfl, [],a_b,h0⟩,?_⟩;rintro i m H1 ⟨hi,rfl,ys,hD,hp⟩;have hq:=hl i ys H1 hi hD hp;by_cases e:i=xs.length
 ·subst e
  exact .inl ⟨⟨xs,hq,r_5 _⟩,hd ys H1 hD hp⟩
 ·have c:i < xs.length:=by omega
  refine .inr ⟨⟨xs,xs[i],hq,r_X c⟩,λy H3=>H3 D=some (.lst ys)/\ys.length < sizeLine/\Pv (i+1) (ys++ [y]) (upd H3 D (.lst (ys++ [y]))),λH2=>H2 D=some (.lst ys)/\Pv (i+1) ys H2,
   λy H3 q3=>⟨ys,q3.1,q3.2.1,xs.length - (i+1),by omega,c,rfl,ys++ [y],a_b,q3.2.2⟩,λH2 q=>⟨xs.length - (i+1),by omega,c,rfl,ys,q.1,q.2⟩,λv H' hy=> ?_⟩
  obtain⟨rfl,hv⟩:=hy;exact hs i v ys H' (hv xs hq) hD hp
section
variable {X:Cx} {pins:List (Addr×Obj)} {σ:St} {H:Hp} {s:Shared} {d:Addr} {ob:Obj} {kvs:List (Key×V)}
theorem Inv.freeze (I:Inv X pins σ H s) (hd:H d=some (.dK kvs)) (ho:s.heap.get? d=some ob):Inv X pins σ (upd H d (.frz ob (.dK kvs))) s:=by
 have nn:∀b,H b=none->b≠d:=λb e z=>by rw[z,hd] at e;cases e
 have nt:∀b xs,H b=some (.tup xs)->b≠d:=λb xs e z=>by rw[z,hd] at e;cases e
 have nf:∀b o u,H b=some (.frz o u)->b≠d:=λb o u e z=>by rw[z,hd] at e;cases e
 have nb:∀b ps,H b=some (.tbl ps)->b≠d:=λb ps e z=>by rw[z,hd] at e;cases e
 have no:∀b y,H b=some (.own y)->b≠d:=λb y e z=>by rw[z,hd] at e;cases e
 refine⟨I.ok,I.os,I.bare,⟨I.base.keep,I.base.slot,λb o q n hx=> ?_, I.base.there,λb xs q=> ?_, λb o u q=> ?_, λb ps q=> ?_⟩,I.loc,I.cell,?_, λx c e=> ?_, λp hp=> ?_, λb u e=> ?_, I.len⟩
 ·have:=I.base.free b o q n hx;rw[a_i (nn b this)];exact this
 ·have:=I.base.tups b xs q;rw[a_i (nt b _ this)];exact this
 ·have:=I.base.frzs b o u q;rw[a_i (nf b _ _ this)];exact this
 ·obtain⟨more,this⟩:=I.base.tbls b ps q;exact⟨more,by rw[a_i (nb b _ this)];exact this⟩
 ·rw[a_i (nn _ I.free)];exact I.free
 ·rw[a_i (nn _ (I.freeC x c e))];exact I.freeC x c e
 ·obtain⟨a,b,r⟩:=I.pin p hp
  exact⟨a,by rw[a_i (nn _ b)];exact b,r⟩
 ·by_cases hb:b=d
  ·subst hb
   rw[a_b] at e;cases e;exact⟨ho,I.hok b _ hd⟩
  ·rw[a_i hb] at e
   exact (I.hok b u e).stay (λ_ _ _ q=>q) (λc q=>by rw[a_i (no c _ q)];exact q) λc xs q=>by rw[a_i (nt c _ q)];exact q
theorem Inv.thaw (I:Inv X pins σ H s) (hd:H d=some (.frz ob (.dK kvs))) (hF:∀o u,X.H₀ d≠some (.frz o u)):Inv X pins σ (upd H d (.dK kvs)) s:=by
 have nn:∀b,H b=none->b≠d:=λb e z=>by rw[z,hd] at e;cases e
 have nt:∀b xs,H b=some (.tup xs)->b≠d:=λb xs e z=>by rw[z,hd] at e;cases e
 have nb:∀b ps,H b=some (.tbl ps)->b≠d:=λb ps e z=>by rw[z,hd] at e;cases e
 have no:∀b y,H b=some (.own y)->b≠d:=λb y e z=>by rw[z,hd] at e;cases e
 refine⟨I.ok,I.os,I.bare,⟨I.base.keep,I.base.slot,λb o q n hx=> ?_, I.base.there,λb xs q=> ?_, λb o u q=> ?_, λb ps q=> ?_⟩,I.loc,I.cell,?_, λx c e=> ?_, λp hp=> ?_, λb u e=> ?_, I.len⟩
 ·have:=I.base.free b o q n hx;rw[a_i (nn b this)];exact this
 ·have:=I.base.tups b xs q;rw[a_i (nt b _ this)];exact this
 ·rw[a_i (λz=>hF o u (by rw[<-z];exact q))];exact I.base.frzs b o u q
 ·obtain⟨more,this⟩:=I.base.tbls b ps q;exact⟨more,by rw[a_i (nb b _ this)];exact this⟩
 ·rw[a_i (nn _ I.free)];exact I.free
 ·rw[a_i (nn _ (I.freeC x c e))];exact I.freeC x c e
 ·obtain⟨a,b,r⟩:=I.pin p hp
  exact⟨a,by rw[a_i (nn _ b)];exact b,r⟩
 ·by_cases hb:b=d
  ·subst hb
   rw[a_b] at e;cases e;exact (I.hok b _ hd).2
  ·rw[a_i hb] at e
   exact (I.hok b u e).stay (λ_ _ _ q=>q) (λc q=>by rw[a_i (no c _ q)];exact q) λc xs q=>by rw[a_i (nt c _ q)];exact q
end
def q_p (t:TS):TS:=λD σ H=>∃d kvs,H d=some (.dK kvs)/\t { D with nx:=λσ' H1=>∃ob,H1 d=some (.frz ob (.dK kvs))/\D.nx σ' (upd H1 d (.dK kvs)) } σ H
theorem n_g {X:Cx} {st:Stmt} {t:TS} (h:PS X st t):PS X st (q_p t):=by
 rintro pins s σ H D I ⟨d,kvs,hd,q⟩
 have hF:∀o u,X.H₀ d≠some (.frz o u):=λo u e=>by
  have:=I.base.frzs d o u e;rw[hd] at this;cases this
 refine thn (h pins s σ H _ I q) λf s1 r=> ?_;cases f with
 | next=>obtain⟨σ',H',I',ob,e,q'⟩:=r;exact⟨σ',_,I'.thaw e hF,q'⟩
 | brk=>exact r
 | cont=>exact r
 | ret u=>exact r
def Itv (d:Addr) (ob:Obj) (kvs:List (Key×V)):It:=
 ⟨λi H=>H d=some (.frz ob (.dK kvs))/\i < kvs.length,λi H x H'=>H'=H/\∃k,kvs[i]? =some (k,x),λi H=>H d=some (.frz ob (.dK kvs))/\kvs.length<=i⟩
theorem m_w {X:Cx} {pins:List (Addr×Obj)} {σ:St} {H:Hp} {s:Shared} {d:Addr} {ob:Obj} {es:Array DictEntry} {ep:Nat} {kvs:List (Key×V)} (I:Inv X pins σ H s) (hd:H d=some (.frz ob (.dK kvs))) (he:ob.data= .dict es ep):∃vs,KV kvs vs/\s.heap.DictAt (a_X X.prog X.w) d vs ep:=by
 obtain⟨e,_,_,vs,rel,o,es',ep',h1,h2,h3,h4⟩:=I.hok d _ hd;rw[e] at h1;cases h1;rw[he] at h3;cases h3;exact⟨vs,rel,ob,es,e,h2,he,h4⟩
theorem j_x {P:Program} {w:World} {K:PySem.W.Frag} {tg:Expr} (d it:Addr) {ob:Obj} {es:Array DictEntry} {ep:Nat} (kvs:List (Key×V)) (he:ob.data= .dict es ep):p_S P w K tg (Itv d ob kvs) [it] it (λi h=>h.IsValIter it d i kvs.length ep) where
 mem:=by simp
 obj:=λi h st b hb=>by
  have e:b=it:=by simpa using hb
  subst e;obtain⟨o,e,c,d⟩:=st;exact⟨o,e,λv z=>by rw[d] at z;cases z⟩
 keep:=λi h h' st k=>by
  obtain⟨o,e,r⟩:=st;exact⟨o,k it (by simp) o e,r⟩
 item:=by
  intro X hP hw hK hc i pins s σ H E I hf st hg;subst hP hw hK;obtain⟨hd,hi⟩:=hg;obtain⟨vs,rel,dat⟩:=m_w I hd he;have hl:kvs.length=vs.length:=Paired.length rel;obtain⟨k,v,hv⟩:∃k v,kvs[i]? =some (k,v):=⟨_,_,r_X hi⟩
  have f:∃u,vs[i]? =some (k,u)/\RelV v u:=by
   have aux:∀{l1:List (Key×V)} {l2:List (Key×Value)} {j:Nat},KV l1 l2->l1[j]? =some (k,v)->∃u,l2[j]? =some (k,u)/\RelV v u:=by
    intro l1 l2 j h;induction h generalizing j with
    | nil=>intro e;simp at e
    | cons a t ih=>
      intro e;cases j with
      | zero=>
        simp at e;obtain⟨a1,a2⟩:=a;rw[e] at a1 a2;rename_i q _ _;obtain⟨q1,q2⟩:=q;exact⟨q2,by simp;exact a1.symm,a2⟩
      | succ j=>exact ih (by simpa using e)
   exact aux rel hv
  obtain⟨u,hu,ru⟩:=f;obtain⟨f0,f1,f2,f3,f4,f5⟩:=hf it (by simp);rw[hl] at st;refine wpAny_pyNext_values_item st dat hu λh' st' sb=> ?_;have I1:Inv X pins σ H { s with heap:=h' }:=I.turned (t':=s.toks) (λb o hb e=>(sb.2 b hb).trans e) f0 f1 f3 f4 f5;obtain⟨o,e,c,dd⟩:=id st';exact⟨u,rfl,o_c (s:={ s with heap:=h' }) e c dd (by decide) ⟨v,H,I1,ru,⟨rfl,k,hv⟩,by rw[hl];exact st',λb hb=>(hf b hb).1⟩⟩
 done:=by
  intro X hP hw hK hc i pins s σ H E I hf st hg;subst hP hw hK;obtain⟨hd,hi⟩:=hg;obtain⟨vs,rel,dat⟩:=m_w I hd he;have hl:kvs.length=vs.length:=Paired.length rel;obtain⟨f0,f1,f2,f3,f4,f5⟩:=hf it (by simp);rw[hl] at st;exact wpAny_pyNext_values_end (I.ok.hd hc) st dat (by simp;omega) λh' eb=>⟨rfl,I.turned (t':=s.toks) (λb o hb e=>eb b o hb e) f0 f1 f3 f4 f5⟩
 self:=λ_ _ _ _ _ st h=>wpAny_pyIter_valiter st h
def q_c (to:TE):TI:=λσ H R=>to σ H λx H1=>∃d kvs,x=V.ref d/\H1 d=some (.dK kvs)/\∀ob,R (Itv d ob kvs) (upd H1 d (.frz ob (.dK kvs)))
theorem k_A {X:Cx} {tg o:Expr} {to:TE} {apos cpos:Pos} (ho:PE X o to) (hbase:attributeBase o "values" X.env (eval o X.env)=eval o X.env:=by rfl) (hline:(apos.endLine == cpos.line)=true:=by rfl):PI X tg (.Call (.Attribute o "values" apos) [] [] cpos) (q_c to):=by
 intro pins s σ H R I h;refine wpAny_Call_method0_late hbase hline (thn (ho pins s σ H _ I h) λv s1 ⟨x,H1,I1,r1,q1⟩=> ?_);obtain⟨d,kvs,rfl,hd,q⟩:=q1;obtain⟨h1,h2⟩:=j_A I1 r1 (T:="dict") (.inr (.inr (.inl ⟨rfl,.inl ⟨_,hd⟩⟩)));cases r1;obtain⟨z,f,vs,rel,dd⟩:=i_S I1.hok hd;have hl:kvs.length=vs.length:=Paired.length rel;refine⟨"dict",_,PySem.F.plainAttrs_dict,PySem.F.slot_dict_values,PySem.F.type_dict_values,h1,h2,Calls.callWith_builtin rfl (PySem.evalArgs_none (call_meetsIn PySem.F.slot_dict_values dd.typeIs PySem.F.entry_dict_values (PySem.F.args_dict_values_1 _) (meets_dict_values (a_X X.prog X.w) d f) ⟨⟨vs,dd⟩,?_⟩))⟩;obtain⟨ob,es,ep,e1,e2,e3,e4⟩:=id dd;refine wpAny_pyIter_values (knd:=a_X X.prog X.w) (kvs:=vs) (ep:=ep) ⟨_,Heap.get?_push_size _ rfl,rfl,rfl⟩ ⟨ob,es,Heap.get?_push_of_some _ e1,e2,e3,e4⟩ ?_;have I2:Inv X pins σ H1 _:=I1.kept (t':=s1.toks) (h':=(s1.heap.push { cls:= .type "dict_values",data:= .fields #[.ref d] }).push { cls:= .type "dict_valueiterator",data:= .fields #[.ref d,.int 0 0,.int vs.length 0,.int ep 0] }) λb o e=>Heap.get?_push_of_some _ (Heap.get?_push_of_some _ e);have I3:=I2.freeze hd (Heap.get?_push_of_some _ (Heap.get?_push_of_some _ e1));refine⟨(s1.heap.push { cls:= .type "dict_values",data:= .fields #[.ref d] }).objs.size, [(s1.heap.push { cls:= .type "dict_values",data:= .fields #[.ref d] }).objs.size],_,_,_,rfl,I3,j_x d _ kvs e3,⟨_,Heap.get?_push_size _ rfl,rfl,by rw[hl];rfl⟩,λb hb=> ?_, q ob⟩;have e:b=(s1.heap.push { cls:= .type "dict_values",data:= .fields #[.ref d] }).objs.size:=by simpa using hb
 subst e;have c:s1.heap.objs.size<=(s1.heap.push { cls:= .type "dict_values",data:= .fields #[.ref d] }).objs.size:=by rw[Heap.size_push];exact Nat.le_succ _
 have a:=I1.hok.fresh c;exact I1.fpOk c (by rw[a_i (λzz=>by rw[zz,hd] at a;cases a)];exact a)
theorem j_u {d D:Addr} {ob:Obj} {kvs:List (Key×V)} {σ:St} {js:List Nat} {tt:TT} {te:TE} {QQ:Hp->Prop} {H:Hp} (Pv:Nat->List V->Hp->Prop) (h0:Pv 0 [] (upd H D (.lst [])))
 (hl:∀i ys H,i<=kvs.length->H D=some (.lst ys)->Pv i ys H->H d=some (.frz ob (.dK kvs)))
 (hs:∀i k v ys H,kvs[i]? =some (k,v)→H D=some (.lst ys)→Pv i ys H→tt (b_q σ js (some v)) H fun b H2=>
   if b=true then te (b_q σ js (some v)) H2 λy H3=>H3 D=some (.lst ys)/\ys.length < sizeLine/\Pv (i+1) (ys++ [y]) (upd H3 D (.lst (ys++ [y]))) else H2 D=some (.lst ys)/\Pv (i+1) ys H2)
 (hd:∀ys H,H D=some (.lst ys)->Pv kvs.length ys H->QQ H):
 ∃W:Nat->Nat->Hp->Prop,(∃m,W 0 m (upd H D (.lst [])))/\e_W (Itv d ob kvs) D σ js tt te QQ W:=by
 refine⟨λi m H=>i<=kvs.length/\m=kvs.length - i/\∃ys,H D=some (.lst ys)/\Pv i ys H,⟨_,s_o _,rfl, [],a_b,h0⟩,?_⟩;rintro i m H1 ⟨hi,rfl,ys,hD,hp⟩;have hq:=hl i ys H1 hi hD hp;by_cases e:i=kvs.length
 ·subst e
  exact .inl ⟨⟨hq,r_5 _⟩,hd ys H1 hD hp⟩
 ·have a:i < kvs.length:=by omega
  refine .inr ⟨⟨hq,a⟩,λy H3=>H3 D=some (.lst ys)/\ys.length < sizeLine/\Pv (i+1) (ys++ [y]) (upd H3 D (.lst (ys++ [y]))),λH2=>H2 D=some (.lst ys)/\Pv (i+1) ys H2,
   λy H3 q3=>⟨ys,q3.1,q3.2.1,kvs.length - (i+1),by omega,a,rfl,ys++ [y],a_b,q3.2.2⟩,λH2 q=>⟨kvs.length - (i+1),by omega,a,rfl,ys,q.1,q.2⟩,λv H' hy=> ?_⟩
  obtain⟨rfl,k,hv⟩:=hy;exact hs i k v ys H' hv hD hp
end L2
namespace K1
open PySem L2 TO
def e_n (w:Bool):Str:=if w=true then "text" else "rank"
theorem g_l:¬ (("text":Str)="rank"):=by decide+kernel
theorem wb:¬ (("word":Str)="blocks"):=by decide+kernel
def g_B (w:Bool) (bl:Addr):List (Str×V):=d_C "blocks" (.ref bl) (d_C "word" (.str (e_n w)) [])
theorem b_O (w:Bool) (bl:Addr):(g_B w bl).lookup ("word":Str)=some (.str (e_n w)):=by
 unfold g_B;rw[b_n,if_neg wb,b_n,if_pos rfl]
theorem a_A (w:Bool) (bl:Addr):(g_B w bl).lookup ("blocks":Str)=some (.ref bl):=by
 unfold g_B;rw[b_n,if_pos rfl]
theorem a_Y (w:Bool) (bl:Addr) {m:Str} (h1:¬ m="blocks") (h2:¬ m="word"):(g_B w bl).lookup m=none:=by
 unfold g_B;rw[b_n,if_neg h1,b_n,if_neg h2]
 all_goals rfl
structure Txt (K:PySem.W.Frag) (mg:Str->Option Value) (C:Addr):Prop where
 cl:Cls K C
 nW:NoAttr K C "word"
 nB:NoAttr K C "blocks"
 mgC:mg "Order"=some (.ref C)
 rank:∃t,mg "RANK_WORD"=some (.str "rank" t)
 text:∃t,mg "TEXT_WORD"=some (.str "text" t)
 most:∃t,mg "MOST_IN_A_BLOCK"=some (.int 8 t)
 least:∃t,mg "LEAST_IN_TWO_BLOCKS"=some (.int 5 t)
 len:mg "len"=none
 min:mg "min"=none
 sum:mg "sum"=none
theorem d_U {X:Cx} {x v:Str} {t:Tok} {pos:Pos} (hm:X.mg x=some (.str v t)) (hg:Gl X x:=by rfl) (hd:(x == ("__debug__":Str))=false:=by decide):PE X (.Name x pos) (tC (.str v)):=h_E hg hm ⟨t,rfl⟩ hd
theorem p_F {X:Cx} {x:Str} {v:Int} {t:Tok} {pos:Pos} (hm:X.mg x=some (.int v t)) (hg:Gl X x:=by rfl) (hd:(x == ("__debug__":Str))=false:=by decide):PE X (.Name x pos) (tC (.int v)):=h_E hg hm ⟨t,rfl⟩ hd
structure Gf (K:PySem.W.Frag) (mg:Str->Option Value) (x:Str) (f:Addr) (fd:FuncData) (ps:List Str):Prop where
 mg:mg x=some (.ref f)
 kp:PySem.W.keepIn K (.ref f)=true
 b:Binds K fd ps []
section
variable {P:Program} {w:World} {K:PySem.W.Frag} {mg:Str->Option Value} {base:Heap}
def r_j:Sp:=λvs H Q _=>∃w,vs= [.str (e_n w)]/\Q .non H
theorem r_e:a_s ["word"] ["word"] (a_m sCW):=⟨rfl,rfl,rfl,by decide+kernel,rfl,by decide+kernel,by decide+kernel⟩
theorem q_h {f C:Addr} {fd:FuncData} (F:Fun K "check_word" "check_word" sCW f fd) (T:Txt K mg C):FnOk P w K mg base CX0 1 f fd ["word"] r_j:=by
 refine F.ok r_e (λvs H Q E h=> ?_) (λcdv A outer s H vs Q E hr h=> ?_)
 ·obtain⟨w,rfl,_⟩:=h
  rfl
 ·obtain⟨w,rfl,k⟩:=h
  obtain⟨t1,h1⟩:=T.rank;obtain⟨t2,h2⟩:=T.text;refine⟨_,a_f (a_C (PW.pt (e_Q (a_l d_e (pv 0) (d_U h1) (a_q _)) (c_4 (a_l d_e (pv 0) (d_U h2) (a_q _))))) (a_f k_1) a_p),?_⟩;refine⟨_,rfl,rfl,_,rfl,?_⟩;cases w with
  | false=>exact k
  | true=>
    refine a_y (λ_=> ?_) (λ_=>k);refine⟨_,rfl,rfl,_,rfl,?_⟩;exact k
def j_B:Sp:=λvs H Q _=>∃w a ρ,vs= [.str (e_n w),.ref a]/\RowAt H a ρ/\Q (c_u w ρ) H
theorem p_O:a_s ["word","row"] ["word","row"] (a_m n_h):=⟨rfl,rfl,rfl,by decide+kernel,rfl,by decide+kernel,by decide+kernel⟩
theorem n_M {f C:Addr} {fd:FuncData} (F:Fun K "lead_of" "lead_of" n_h f fd) (T:Txt K mg C):FnOk P w K mg base CX0 1 f fd ["word","row"] j_B:=by
 refine F.ok p_O (λvs H Q E h=> ?_) (λcdv A outer s H vs Q E hr h=> ?_)
 ·obtain⟨w,a,ρ,rfl,_⟩:=h
  rfl
 ·obtain⟨w,a,ρ,rfl,ha,k⟩:=h
  obtain⟨t1,h1⟩:=T.rank
  refine⟨_,a_c (a_C (a_l a_I (pv 0) (d_U h1) (a_q _)) (a_f (a_n (a_r a_o (pv 1) a_g (λ_ _=>rfl)))) a_p)
   (a_f (a_n (a_r a_o (pv 1) a_g (λ_ _=>rfl)))),?_⟩
  refine⟨_,rfl,rfl,_,rfl,?_⟩;cases w with
  | false=>exact⟨_,rfl,a,_,_,_,rfl,rfl,SqT.of ha,a_e (j:=1) rfl,k⟩
  | true=>exact⟨_,rfl,a,_,_,_,rfl,rfl,SqT.of ha,a_e (j:=2) rfl,k⟩
def g_W:Sp:=λvs H Q _=>∃w a ρ,vs= [.str (e_n w),.ref a]/\RowAt H a ρ/\∀k,H k=none->Q (.ref k) (upd H k (.tup (a_H w ρ)))
theorem q_V:a_s ["word","row"] ["word","row"] (a_m q_t):=⟨rfl,rfl,rfl,by decide+kernel,rfl,by decide+kernel,by decide+kernel⟩
theorem o_3 {f fL C:Addr} {fd fdL:FuncData} (F:Fun K "key_of" "key_of" q_t f fd) (T:Txt K mg C) (gL:Gf K mg "lead_of" fL fdL ["word","row"]) (GL:FnOk P w K mg base CX0 1 fL fdL ["word","row"] j_B):
 FnOk P w K mg base CX0 2 f fd ["word","row"] g_W:=by
 refine F.ok q_V (λvs H Q E h=> ?_) (λcdv A outer s H vs Q E hr h=> ?_)
 ·obtain⟨w,a,ρ,rfl,_⟩:=h
  rfl
 ·obtain⟨w,a,ρ,rfl,ha,k⟩:=h
  refine⟨_,a_f (a_n (a_G (a_a (a_j GL hr rfl gL.mg gL.kp gL.b .nil a_v (a_a (pv 0) (a_a (pv 1) a_d))) (a_a (a_r a_o (pv 1) a_g (λ_ _=>rfl)) a_d)))),?_⟩;refine⟨_,rfl,_,rfl,w,a,ρ,rfl,ha,?_⟩;exact⟨_,rfl,a,_,_,_,rfl,rfl,SqT.of ha,a_e (j:=0) rfl,by show 2<=sizeLine;decide,k⟩
structure OrdAt (C:Addr) (w:Bool) (H:Hp) (o bl:Addr) (bas:List Addr) (B:List (List Row)):Prop where
 ob:∃dx,H o=some (.ins C dx (g_B w bl))
 ls:H bl=some (.lst (bas.map .ref))
 bs:Paired (LstAt H) bas B
 nd:(bl::bas).Nodup
structure Stp (H H':Hp) (fp fp':List Addr):Prop where
 keep:∀b u,H b=some u->b∉fp->H' b=some u
 new:∀b∈fp',b∈fp\/H b=none
theorem Stp.of_same {H H':Hp} {fp:List Addr} (s:Same H H'):Stp H H' fp fp:=⟨λb u h _=>s b u h,λb h=> .inl h⟩
theorem OrdAt.same {C:Addr} {w:Bool} {H H':Hp} {o bl:Addr} {bas:List Addr} {B:List (List Row)} (h:OrdAt C w H o bl bas B) (s:Same H H'):OrdAt C w H' o bl bas B:=by
 obtain⟨⟨dx,h1⟩,h2,h3,h4⟩:=h;exact⟨⟨dx,s _ _ h1⟩,s _ _ h2,Paired.mapP h3 λ_ _ q=>q.sameS s,h4⟩
theorem a_T {α β:Type} {F:α->β->Prop}:∀{l₁:List α} {l₂:List β} {i:Nat} {b:β},Paired F l₁ l₂->l₂[i]? =some b->∃a,l₁[i]? =some a/\F a b
 | _,_,_,_,.nil,e=>by simp at e
 | _,_,0,_,.cons r _,e=>by simp at e;subst e;exact⟨_,rfl,r⟩
 | _,_,i+1,_,.cons _ t,e=>by
   obtain⟨u,h1,h2⟩:=a_T (i:=i) t (by simpa using e);exact⟨u,by simpa using h1,h2⟩
theorem Same.upd_new {H:Hp} {a:Addr} {o:HO} (h:H a=none):Same H (upd H a o):=λb u e=>by rw[a_i (a_h e h)];exact e
theorem k_s {α:Type} {P:α->Bool}:∀{l:List α} {i:Nat},(∀x∈l.take i,P x=true)->i<=l.length->(i=l.length\/∃x,l[i]? =some x/\P x=false)->(l.takeWhile P).length=i
 | [],i,_,h,_=>by simp at h;subst h;rfl
 | x::r,0,_,_,h=>by
   rcases h with h | ⟨y,h1,h2⟩
   ·simp at h
   ·simp at h1;subst h1;simp[h2]
 | x::r,i+1,h1,h2,h3=>by
   have hx:P x=true:=h1 x (by simp);rw[List.takeWhile_cons];simp only[hx,if_true,r_2];congr 1;refine k_s (λy hy=>h1 y (by simp[hy])) (by simpa using h2) ?_;rcases h3 with h3 | ⟨y,h3,h4⟩
   ·left;simpa using h3
   ·right;exact⟨y,by simpa using h3,h4⟩
def q_Y (C:Addr):Sp:=λvs H Q _=>∃(w:Bool) (o bl dx b k:Addr) (ρs:List Row) (q:List V),vs= [.ref o,.ref b,.ref k]/\H o=some (.ins C dx (g_B w bl))/\LstAt H b ρs/\H k=some (.tup q)/\(∀ρ,d_V (a_H w ρ) q)/\
 ∀H',Same H H'->Q (.int (ρs.takeWhile λx=>b_a (a_H w x) q).length) H'
theorem p_7:a_s ["self","block","key","ahead"] ["self","block","key"] (a_m sRA):=⟨rfl,rfl,rfl,by decide+kernel,rfl,by decide+kernel,by decide+kernel⟩
theorem q_m {f fK C:Addr} {fd fdK:FuncData} (F:Fun K "rows_ahead" "Order.rows_ahead" sRA f fd) (T:Txt K mg C) (gK:Gf K mg "key_of" fK fdK ["word","row"]) (GK:FnOk P w K mg base CX0 2 fK fdK ["word","row"] g_W):
 FnOk P w K mg base CX0 3 f fd ["self","block","key"] (q_Y C):=by
 refine F.ok p_7 (λvs H Q E h=> ?_) (λcdv A outer s H vs Q E hr h=> ?_)
 ·obtain⟨w,o,bl,dx,b,k,ρs,q,rfl,_⟩:=h
  rfl
 ·obtain⟨w,o,bl,dx,b,k,ρs,q,rfl,ho,⟨as,hb,hR⟩,hk,l,fin⟩:=h
  have hu:=e_Y hr
  refine⟨_,a_c (a_w (i:=3) p_7.nd rfl (Or.inl rfl) a_g)
   (a_c (d_x PassesOwn.never (PW.pt (e_Q (a_l e_Z (pv 3) (a_t a_x (by rfl) T.len s_F (a_a (pv 1) a_d)) (a_q _))
     (c_4 (a_l (j_7 hr.units0) (a_j GK hr rfl gK.mg gK.kp gK.b .nil a_v (a_a (a_E (pv 0) rfl) (a_a (a_r a_P (pv 1) (pv 3) (λ_ _=>rfl)) a_d))) (pv 2) (a_q _)))))
     (a_f (a_w (i:=3) p_7.nd rfl (Or.inl rfl) (a_u a_U (pv 3) a_g))))
   (a_f (a_n (pv 3)))),?_⟩
  have n:=hR.len
  refine⟨λm σ H1=>∃i:Nat,σ= [some (.ref o),some (.ref b),some (.ref k),some (.int i)]/\Same H H1/\i<=ρs.length/\m=ρs.length - i/\∀x∈ρs.take i,b_a (a_H w x) q=true,
   ⟨_,0,rfl,Same.refl _,s_o _,rfl,by simp⟩,?_⟩
  rintro m σ H1 ⟨i,rfl,s1,hi,rfl,hp⟩;refine⟨_,rfl,_,rfl,b,_,rfl,.inl (SqL.of (s1 _ _ hb)),_,_,rfl,rfl,_,rfl,?_⟩;refine a_y (λc=> ?_) (λc=> ?_)
  ·have d:i < ρs.length:=by
    have:=s_E c;simp only[r_W] at this;omega
   obtain⟨x,hx⟩:∃x,ρs[i]? =some x:=⟨_,r_X d⟩;obtain⟨a,ha,g⟩:=hR.get hx;refine⟨_,rfl,o,C,dx,_,_,rfl,s1 _ _ ho,T.cl,T.nW,b_O _ _,_,rfl,_,rfl,b,_,_,_,rfl,rfl,SqL.of (s1 _ _ hb),a_e (j:=i) (by rw[r_8,ha];rfl),w,a,x,rfl,s1 _ _ g,λk' e=> ?_⟩;refine⟨_,rfl,k',k,_,_,rfl,rfl,SqT.of a_b,SqT.of ((Same.upd_new e) _ _ (s1 _ _ hk)),l x,_,rfl,?_⟩;refine a_y (λc2=> ?_) (λc2=> ?_)
   ·refine⟨λσ' H'=>∃i':Nat,i < i'/\σ'= [some (.ref o),some (.ref b),some (.ref k),some (.int i')]/\Same H H'/\i'<=ρs.length/\∀x∈ρs.take i',b_a (a_H w x) q=true,?_, ?_⟩
    ·rintro σ' H' ⟨i',h1,h2,h3,h4,h5⟩
     exact⟨ρs.length - i',by omega,i',h2,h3,h4,rfl,h5⟩
    ·refine⟨_,rfl,_,_,rfl,rfl,i+1,by omega,rfl,s1.trans (Same.upd_new e),d,λy hy=> ?_⟩
     rw[s_n,hx] at hy;rcases s_e.mp hy with hy | hy
     ·exact hp y hy
     ·simp at hy;subst hy;exact c2
   ·refine⟨_,rfl,?_⟩
    rw[<-k_s (P:=λx=>b_a (a_H w x) q) hp hi (.inr ⟨x,hx,by simpa using c2⟩)];exact fin _ (s1.trans (Same.upd_new e))
  ·refine i_0 ?_
   refine⟨_,rfl,?_⟩
   have d:i=ρs.length:=by
    have:¬ ((i:Int) < _):=λz=>c (s_C z);simp only[r_W] at this;omega
   rw[<-k_s (P:=λx=>b_a (a_H w x) q) hp hi (.inl d)];exact fin _ s1
def b_p (w:Bool) (q:List V) (b:List Row):Bool:=match b.getLast? with
 | some z=>b_a (a_H w z) q
 | none=>false
theorem e_L {w:Bool} {q:List V} {B:List (List Row)} (hs:Srt (ltR w) B.flatten) (hne:∀b∈B,b≠ []) {i j:Nat} {b c:List Row} (hi:B[i]? =some b) (hj:B[j]? =some c) (hij:i<=j) (h:b_p w q c=true):b_p w q b=true:=by
 by_cases e:i=j
 ·subst e;rw[hi] at hj;cases hj;exact h
 ·obtain⟨l₁,l₂,rfl,rfl⟩:=d_7 hi
  have hb:=hne b (by simp)
  have hc:c∈l₂:=by
   rw[List.getElem?_append_right (by omega)] at hj;obtain⟨k,hk⟩:∃k,j - l₁.length=k+1:=⟨j - l₁.length - 1,by omega⟩;rw[hk,List.getElem?_cons_succ] at hj;exact s_m hj
  unfold b_p at h ⊢;cases eb:b.getLast? with
  | none=>rw[List.getLast?_eq_none_iff] at eb;exact absurd eb hb
  | some z=>
    cases ec:c.getLast? with
    | none=>rw[ec] at h;cases h
    | some y=>
      rw[ec] at h;rw[s_j,s_p,Srt.app] at hs;have zb:z∈b:=by obtain⟨ys,rfl⟩:=List.getLast?_eq_some_iff.mp eb;simp
      have yc:y∈l₂.flatten:=List.mem_flatten.mpr ⟨c,hc,by obtain⟨ys,rfl⟩:=List.getLast?_eq_some_iff.mp ec;simp⟩;exact b_W w q z y ((Srt.app.mp hs.2.1).2.2 z zb y yc) h
def o_2 (C:Addr):Sp:=λvs H Q _=>∃(w:Bool) (o bl k:Addr) (bas:List Addr) (B:List (List Row)) (q:List V),vs= [.ref o,.ref k]/\OrdAt C w H o bl bas B/\H k=some (.tup q)/\(∀ρ,d_V (a_H w ρ) q)/\Srt (ltR w) B.flatten/\(∀b∈B,b≠ [])/\
 ∀(B₁ B₂:List (List Row)) H',Same H H'->B=B₁++B₂->(∀b∈B₁,b_p w q b=true)->(∀b∈B₂,b_p w q b=false)->Q (.int B₁.length) H'
theorem o_v:a_s ["self","key","low","high","middle"] ["self","key"] (a_m sBA):=⟨rfl,rfl,rfl,by decide+kernel,rfl,by decide+kernel,by decide+kernel⟩
theorem p_X {f fK C:Addr} {fd fdK:FuncData} (F:Fun K "blocks_ahead" "Order.blocks_ahead" sBA f fd) (T:Txt K mg C) (gK:Gf K mg "key_of" fK fdK ["word","row"]) (GK:FnOk P w K mg base CX0 2 fK fdK ["word","row"] g_W):
 FnOk P w K mg base CX0 3 f fd ["self","key"] (o_2 C):=by
 refine F.ok o_v (λvs H Q E h=> ?_) (λcdv A outer s H vs Q E hr h=> ?_)
 ·obtain⟨w,o,bl,k,bas,B,q,rfl,_⟩:=h
  rfl
 ·obtain⟨w,o,bl,k,bas,B,q,rfl,O,hk,J,hs,j,fin⟩:=h
  obtain⟨⟨dx,ho⟩,r,t,L⟩:=id O
  refine⟨_,a_c (a_w (i:=2) o_v.nd rfl (Or.inl rfl) a_g)
   (a_c (a_w (i:=3) o_v.nd rfl (Or.inl rfl) (a_t a_x (by rfl) T.len s_F (a_a (a_E (pv 0) rfl) a_d)))
   (a_c (d_x PassesOwn.never (a_l e_Z (pv 2) (pv 3) (a_q _))
     (a_c (a_w (i:=4) o_v.nd rfl (Or.inl rfl) (a_u a_1 (a_u a_U (pv 2) (pv 3)) a_g))
     (a_f (a_C (a_l (j_7 hr.units0) (a_j GK hr rfl gK.mg gK.kp gK.b .nil a_v (a_a (a_E (pv 0) rfl) (a_a (a_r a_P (a_r a_P (a_E (pv 0) rfl) (pv 4) (fun _ _=>rfl)) (n_V j_P a_g) (fun _ _=>rfl)) a_d))) (pv 1) (a_q _))
       (a_f (a_w (i:=2) o_v.nd rfl (Or.inl rfl) (a_u a_U (pv 4) a_g)))
       (a_f (a_w (i:=3) o_v.nd rfl (Or.inl rfl) (pv 4)))))))
   (a_f (a_n (pv 2))))),?_⟩
  have y:bas.length=B.length:=Paired.length t;refine⟨_,rfl,o,C,dx,_,_,rfl,ho,T.cl,T.nB,a_A _ _,bl,_,rfl,.inl (SqL.of r),?_⟩
  refine⟨λm σ H1=>∃(lo hi:Nat) (v:Option V),σ= [some (.ref o),some (.ref k),some (.int lo),some (.int hi),v]/\Same H H1/\lo<=hi/\hi<=B.length/\m=hi - lo/\(∀i b,i < lo->B[i]? =some b->b_p w q b=true)/\(∀i b,hi<=i->B[i]? =some b->b_p w q b=false),
   ⟨_,0,B.length,none,by simp[L2.start,y],Same.refl _,s_o _,r_5 _,rfl,λ_ _ h=>by omega,λi b h1 h2=> ?_⟩,?_⟩
  ·rw[List.getElem?_eq_none_iff.mpr h1] at h2;cases h2
  rintro m σ H1 ⟨lo,hi,v,rfl,s1,h1,h2,rfl,h3,h4⟩;refine⟨_,rfl,_,rfl,_,_,rfl,rfl,_,rfl,?_⟩;refine a_y (λc=> ?_) (λc=> ?_)
  ·have n:lo < hi:=by have:=s_E c;omega
   refine⟨λσ' H'=>∃(lo' d:Nat) (v:Option V),σ'= [some (.ref o),some (.ref k),some (.int lo'),some (.int d),v]/\Same H H'/\lo'<=d/\d<=B.length/\d - lo' < hi - lo/\(∀i b,i < lo'->B[i]? =some b->b_p w q b=true)/\(∀i b,d<=i->B[i]? =some b->b_p w q b=false),?_, ?_⟩
   ·rintro σ' H' ⟨lo',d,v',e1,e2,e3,e4,e5,e6,e7⟩
    exact⟨d - lo',e5,lo',d,v',e1,e2,e3,e4,rfl,e6,e7⟩
   have G:(lo+hi) / 2 < B.length:=by omega
   obtain⟨b,hb⟩:∃b,B[(lo+hi) / 2]? =some b:=⟨_,r_X G⟩;obtain⟨a,ha,as,I,x⟩:=a_T t hb;have p:=j b (s_m hb);obtain⟨ys,z,rfl⟩:∃ys z,b=ys++ [z]:=⟨b.dropLast,b.getLast p,(List.dropLast_concat_getLast p).symm⟩
   obtain⟨as',az,rfl,hza⟩:∃as' az,as=as'++ [az]/\RowAt H az z:=by
    have hl:=x.len;rw[r_Y,s_u] at hl;have hn:as≠ []:=by intro e;subst e;simp at hl
    refine⟨as.dropLast,as.getLast hn,(List.dropLast_concat_getLast hn).symm,?_⟩;obtain⟨az,h1,h2⟩:=x.get (i:=ys.length) (ρ:=z) (by simp)
    have:as.getLast hn=az:=by
     rw[List.getLast_eq_getElem];have:as[as.length - 1]? =some az:=by rw[hl,Nat.add_sub_cancel];exact h1
     rw[r_X (by omega)] at this;exact r_3 this
    rw[this];exact h2
   have l:((lo:Int)+(hi:Int)) / 2=(((lo+hi) / 2:Nat):Int):=by omega
   refine⟨_,rfl,_,rfl,_,_,rfl,rfl,_,_,rfl,rfl,⟨by decide,by decide⟩,?_⟩;refine⟨_,rfl,o,C,dx,_,_,rfl,s1 _ _ ho,T.cl,T.nW,b_O _ _,_,rfl,o,C,dx,_,_,rfl,s1 _ _ ho,T.cl,T.nB,a_A _ _,_,rfl,bl,_,_,_,rfl,rfl,SqL.of (s1 _ _ r),(by rw[l];exact a_e (by rw[r_8,ha];rfl)),_,rfl,a,_,_,_,rfl,rfl,SqL.of (s1 _ _ I),(by rw[r_4];exact l_F _ _),w,az,z,rfl,s1 _ _ hza,λk' g=> ?_⟩;refine⟨_,rfl,k',k,_,_,rfl,rfl,SqT.of a_b,SqT.of ((Same.upd_new g) _ _ (s1 _ _ hk)),J z,_,rfl,?_⟩;have u:b_p w q (ys++ [z])=b_a (a_H w z) q:=by unfold b_p;rw[List.getLast?_concat]
   refine a_y (λc2=> ?_) (λc2=> ?_)
   ·have e:((lo:Int)+hi) / 2+1=(((lo+hi) / 2+1:Nat):Int):=by omega
    refine⟨_,rfl,_,_,rfl,rfl,(lo+hi) / 2+1,hi,_,(by rw[<-e];rfl),s1.trans (Same.upd_new g),by omega,h2,by omega,λi c d hc=> ?_, h4⟩;exact e_L hs j hc hb (by omega) (by rw[u];exact c2)
   ·refine⟨_,rfl,lo,(lo+hi) / 2,_,(by rw[<-l];rfl),s1.trans (Same.upd_new g),by omega,by omega,by omega,h3,λi c d hc=> ?_⟩
    cases q':b_p w q c with
    | false=>rfl
    | true=>
      have:=e_L hs j hb hc d q';rw[u] at this;exact absurd this c2
  ·have n:lo=hi:=by have:¬ (lo:Int) < hi:=λz=>c (s_C z);omega
   subst n;refine⟨_,rfl,?_⟩;have hz:B=B.take lo++B.drop lo:=(s_z lo B).symm;have:=fin (B.take lo) (B.drop lo) H1 s1 hz (λb hb=> ?_) (λb hb=> ?_)
   ·rw[s_i,Nat.min_eq_left h2] at this
    exact this
   ·obtain⟨i,hi,e⟩:=List.mem_take_iff_getElem.mp hb
    exact h3 i b (by omega) (by rw[<-e];exact r_X (by omega))
   ·obtain⟨i,hi,e⟩:=List.mem_drop_iff_getElem.mp hb
    exact h4 (i+lo) b (by omega) (by rw[<-e,Nat.add_comm];exact r_X (by omega))
end
def NoTup (H:Hp) (a:Addr):Prop:=∀xs,H a≠some (.tup xs)
theorem NoTup.none {H:Hp} {a:Addr} (h:H a=none):NoTup H a:=λxs e=>by rw[h] at e;cases e
theorem NoTup.lst {H:Hp} {a:Addr} {ys:List V} (h:H a=some (.lst ys)):NoTup H a:=λxs e=>by rw[h] at e;cases e
theorem NoTup.keep {H:Hp} {a:Addr} {o:HO} (h:NoTup H a):∀b xs,H b=some (.tup xs)->(upd H a o) b=some (.tup xs):=λb xs e=>by
 have hb:b≠a:=λq=>h xs (by rw[<-q];exact e);rw[a_i hb];exact e
theorem LstAt.upd {H:Hp} {a l:Addr} {o:HO} {ρs:List Row} (h:LstAt H l ρs) (hl:l≠a) (ha:NoTup H a):LstAt (upd H a o) l ρs:=h.same (a_i hl) ha.keep
theorem a_R {H:Hp} {a:Addr} {o:HO} (ha:NoTup H a):∀{bas:List Addr} {B:List (List Row)},Paired (LstAt H) bas B->(∀b∈bas,b≠a)->Paired (LstAt (upd H a o)) bas B
 | _,_,.nil,_=> .nil
 | _,_,.cons h t,hn=> .cons (LstAt.upd h (hn _ (r_0 ..)) ha) (a_R ha t λb hb=>hn b (r_Z _ hb))
theorem e_m {H:Hp}:∀{bas:List Addr} {B:List (List Row)},Paired (LstAt H) bas B->∀b∈bas,∃xs,H b=some (.lst xs)
 | _,_,.cons h t,b,hb=>by
   rcases r_7.mp hb with e | e
   ·subst e;obtain⟨as,q,_⟩:=h;exact⟨_,q⟩
   ·exact e_m t b e
theorem c_i {H:Hp} {bas:List Addr} {B:List (List Row)} (h:Paired (LstAt H) bas B) {p:Addr} (hp:H p=none):∀b∈bas,b≠p:=λb hb e=>by
 obtain⟨xs,q⟩:=e_m h b hb;rw[e,hp] at q;cases q
theorem b_b {α β:Type} {F:α->β->Prop}:∀{B₁:List β} {l:List α} {b:β} {B₂:List β},Paired F l (B₁++b::B₂)->∃l₁ a l₂,l=l₁++a::l₂/\Paired F l₁ B₁/\F a b/\Paired F l₂ B₂
 | [],_,_,_,.cons h t=>⟨[],_,_,rfl,.nil,h,t⟩
 | c::B₁,_,_,_,.cons h t=>by
   obtain⟨l₁,a,l₂,rfl,h1,h2,h3⟩:=b_b t;exact⟨_::l₁,a,l₂,rfl,.cons h h1,h2,h3⟩
theorem a_D {α β:Type} {F:α->β->Prop}:∀{l₁ l₂:List α} {B₁ B₂:List β},Paired F l₁ B₁->Paired F l₂ B₂->Paired F (l₁++l₂) (B₁++B₂)
 | _,_,_,_,.nil,h=>h
 | _,_,_,_,.cons a t,h=> .cons a (a_D t h)
theorem h_K {xs:List V} {h:Nat} (hh:h<=xs.length):g_u xs none (some (h:Int))=xs.take h:=by
 unfold g_u;rw[HT.sIx_none,HT.sIx_nat,Nat.min_eq_left hh];simp
theorem l_w {xs:List V} {h:Nat} (hh:h<=xs.length):g_u xs (some (h:Int)) none=xs.drop h:=by
 unfold g_u;rw[HT.sIx_none,HT.sIx_nat,Nat.min_eq_left hh];exact s_g (by simp)
theorem k_l {n j:Nat} (h:j < n):ixN n (j:Int)=some j:=by
 unfold ixN;rw[if_pos (by omega),if_pos (by omega)];simp
theorem l_N {α:Type} {l₁ l₂:List α} {a:α}:(l₁++a::l₂).take (l₁.length+1)=l₁++ [a]:=by
 rw[List.take_append,s_g (by omega),Nat.add_sub_cancel_left];simp
theorem l_A {α:Type} {l₁ l₂:List α} {a:α}:(l₁++a::l₂).drop (l₁.length+1)=l₂:=by
 rw[List.drop_append,List.drop_of_length_le (by omega),Nat.add_sub_cancel_left];simp
theorem d_h {bl a:Addr} {l₁ l₂:List Addr} (h:(bl::(l₁++a::l₂)).Nodup):bl∉l₁/\bl≠a/\bl∉l₂/\a∉l₁/\a∉l₂/\(bl::(l₁++l₂)).Nodup:=by
 rw[s_q,List.nodup_append,s_q] at h;obtain⟨h1,h2,⟨h3,h4⟩,h5⟩:=h;simp only[s_e,r_7,not_or] at h1;refine⟨h1.1,h1.2.1,h1.2.2,λz=>h5 a z a (r_0 ..) rfl,h3,?_⟩;rw[s_q,List.nodup_append];refine⟨?_, h2,h4,λx hx y hy=>h5 x hx y (r_Z _ hy)⟩;simp only[s_e,not_or];exact⟨h1.1,h1.2.2⟩
theorem k_L {bl a:Addr} {l₁ l₂:List Addr} (h:(bl::(l₁++l₂)).Nodup) (h1:a≠bl) (h2:a∉l₁) (h3:a∉l₂):(bl::(l₁++a::l₂)).Nodup:=by
 rw[s_q,List.nodup_append] at h;rw[s_q,List.nodup_append,s_q];simp only[s_e,r_7,not_or] at h ⊢;refine⟨⟨h.1.1,h1.symm,h.1.2⟩,h.2.1,⟨h3,h.2.2.1⟩,λx hx y hy=> ?_⟩;rcases hy with e | e
 ·subst e;intro e;subst e;exact h2 hx
 ·exact h.2.2.2 x hx y e
section
variable {P:Program} {w:World} {K:PySem.W.Frag} {mg:Str->Option Value} {base:Heap}
def k_M (C:Addr):Sp:=λvs H Q _=>∃(w:Bool) (o bl:Addr) (bas:List Addr) (B₁:List (List Row)) (b:List Row) (B₂:List (List Row)),vs= [.ref o,.int B₁.length]/\OrdAt C w H o bl bas (B₁++b::B₂)/\bas.length < 100000/\
 ∀(bas':List Addr) (H':Hp),OrdAt C w H' o bl bas' (B₁++b.take (b.length / 2)::b.drop (b.length / 2)::B₂)->Stp H H' (bl::bas) (bl::bas')->Q .non H'
theorem h_s:a_s ["self","place","block","half"] ["self","place"] (a_m k_m):=⟨rfl,rfl,rfl,by decide+kernel,rfl,by decide+kernel,by decide+kernel⟩
theorem k_3 {f C:Addr} {fd:FuncData} (F:Fun K "split_block" "Order.split_block" k_m f fd) (T:Txt K mg C):FnOk P w K mg base CX0 1 f fd ["self","place"] (k_M C):=by
 refine F.ok h_s (λvs H Q E h=> ?_) (λcdv A outer s H vs Q E hr h=> ?_)
 ·obtain⟨w,o,bl,bas,B₁,b,B₂,rfl,_⟩:=h
  rfl
 ·obtain⟨w,o,bl,bas,B₁,b,B₂,rfl,O,M,fin⟩:=h
  obtain⟨⟨dx,ho⟩,l,N,L⟩:=id O;obtain⟨l₁,a,l₂,rfl,q,⟨as,ha,hR⟩,r⟩:=b_b N;have G:l₁.length=B₁.length:=Paired.length q;have I:=hR.len;obtain⟨n1,n2,n3,n4,n5,n6⟩:=d_h L
  refine⟨_,a_c (a_w (i:=2) h_s.nd rfl (Or.inl rfl) (a_r a_P (a_E (pv 0) rfl) (pv 1) (λ_ _=>rfl)))
   (a_c (a_w (i:=3) h_s.nd rfl (Or.inl rfl) (a_u a_1 (a_t a_x (by rfl) T.len s_F (a_a (pv 2) a_d)) a_g))
   (a_c (m_K (b_s e_x (pv 2) b_7 (b_G (pv 3))) (m_s (a_E (pv 0) rfl) (pv 1) h_P))
   (a_f (a_z (b_y s_G PySem.F.slot_list_insert PySem.F.type_list_insert g_P (a_E (pv 0) rfl) (a_a (a_u a_U (pv 1) a_g) (a_a (b_s e_x (pv 2) (b_G (pv 3)) b_7) a_d))))))),?_⟩
  refine⟨_,rfl,o,C,dx,_,_,rfl,ho,T.cl,T.nB,a_A _ _,_,rfl,bl,_,_,_,rfl,rfl,SqL.of l,a_e (j:=B₁.length) (by rw[r_8,<-G,c_9];rfl),?_⟩;refine⟨_,rfl,a,_,rfl,.inl (SqL.of ha),_,_,rfl,rfl,⟨by decide,by decide⟩,?_⟩;have eh:(((as.map V.ref).length:Int)) / 2=((b.length / 2:Nat):Int):=by rw[r_W,I];omega
  have hh:b.length / 2<=(as.map V.ref).length:=by rw[r_W,I];omega
  refine⟨_,rfl,_,rfl,_,rfl,a,_,rfl,SqL.of ha,λp1 f1=> ?_⟩;have B:o≠p1:=a_h ho f1;have n:bl≠p1:=a_h l f1;have J:a≠p1:=a_h ha f1;have v:o≠bl:=f_Q ho l (by intro z;cases z);have S:o≠a:=f_Q ho ha (by intro z;cases z);refine⟨_,rfl,o,C,dx,_,_,rfl,(by rw[a_i B];exact ho),T.cl,T.nB,a_A _ _,_,rfl,bl,_,_,B₁.length,rfl,rfl,(by rw[a_i n];exact l),(by rw[r_W];exact k_l (by simp[G])),?_⟩;rw[eh,h_K hh]
  have eset:((l₁++a::l₂).map V.ref).set B₁.length (.ref p1)=(l₁++p1::l₂).map V.ref:=by
   rw[<-G,r_4,s_b,r_4,s_b];have:=k_Q (l₁:=l₁.map V.ref) (l₂:=l₂.map V.ref) (a:=V.ref a) (b:=V.ref p1);rw[r_W] at this;exact this
  rw[eset];refine⟨_,rfl,o,C,dx,_,_,rfl,(by rw[a_i v,a_i B];exact ho),T.cl,T.nB,a_A _ _,.inl ⟨rfl,_,SqL.of a_b⟩,_,rfl,_,_,rfl,rfl,_,rfl,_,rfl,_,rfl,a,_,rfl,SqL.of (by rw[a_i n2.symm,a_i J];exact ha),λp2 f2=> ?_⟩;rw[eh,l_w hh];have p:bl≠p2:=a_h (a_b (H:=upd H p1 (.lst ((as.map V.ref).take (b.length / 2)))) (o:= .lst ((l₁++p1::l₂).map V.ref))) f2;have y:(upd H p1 (.lst ((as.map V.ref).take (b.length / 2)))) p2=none:=by rw[a_i p.symm] at f2;exact f2
  have t:p1≠p2:=a_h a_b y;have k:H p2=none:=by rw[a_i t.symm] at y;exact y
  have R:o≠p2:=a_h ho k
  have el:((l₁++p1::l₂).map V.ref).take ((B₁.length:Int)+1).toNat++V.ref p2::((l₁++p1::l₂).map V.ref).drop ((B₁.length:Int)+1).toNat=(l₁++p1::p2::l₂).map V.ref:=by
   have e1:((B₁.length:Int)+1).toNat=(l₁.map V.ref).length+1:=by rw[r_W];omega
   rw[e1];simp only[r_4,s_b];rw[l_N,l_A,List.append_assoc];rfl
  refine⟨bl,_,_,_,rfl,rfl,(by rw[a_i p];exact a_b),?_, by omega,?_, ?_⟩
  ·refine s_c (m:=100001) ?_ (by decide)
   simp only[r_W,r_Y,r_2] at M ⊢;omega
  ·simp only[r_W,r_Y,r_2]
   omega
  show Q .non _;rw[el];have d:∀x∈l₁,x≠p1/\x≠p2/\x≠bl:=λx hx=>⟨c_i q f1 x hx,c_i q k x hx,λe=>n1 (e ▸ hx)⟩;have g:∀x∈l₂,x≠p1/\x≠p2/\x≠bl:=λx hx=>⟨c_i r f1 x hx,c_i r k x hx,λe=>n3 (e ▸ hx)⟩;have t1:NoTup H p1:=NoTup.none f1;have t2:NoTup (upd H p1 (.lst ((as.map V.ref).take (b.length / 2)))) bl:=NoTup.lst (ys:=(l₁++a::l₂).map V.ref) (by rw[a_i n];exact l);have t3:NoTup (upd (upd H p1 (.lst ((as.map V.ref).take (b.length / 2)))) bl (.lst ((l₁++p1::l₂).map V.ref))) p2:=NoTup.none f2;have t4:NoTup (upd (upd (upd H p1 (.lst ((as.map V.ref).take (b.length / 2)))) bl (.lst ((l₁++p1::l₂).map V.ref))) p2 (.lst ((as.map V.ref).drop (b.length / 2)))) bl:=NoTup.lst (ys:=(l₁++p1::l₂).map V.ref) (by rw[a_i p];exact a_b)
  have tups:∀c xs,H c=some (.tup xs)->(upd (upd (upd (upd H p1 (.lst ((as.map V.ref).take (b.length / 2)))) bl (.lst ((l₁++p1::l₂).map V.ref))) p2 (.lst ((as.map V.ref).drop (b.length / 2)))) bl (.lst ((l₁++p1::p2::l₂).map V.ref))) c=some (.tup xs):=
   λc xs h=>t4.keep _ _ (t3.keep _ _ (t2.keep _ _ (t1.keep _ _ h)))
  refine fin (l₁++p1::p2::l₂) _ ⟨⟨dx,?_⟩,a_b,?_, ?_⟩ ⟨λc u hc hn=> ?_, λc hc=> ?_⟩
  ·rw[a_i v,a_i R,a_i v,a_i B];exact ho
  ·refine a_D ?_ (.cons ⟨as.take (b.length / 2),?_, (hR.take _).same tups⟩ (.cons ⟨as.drop (b.length / 2),?_, (hR.drop _).same tups⟩ ?_))
   ·exact a_R t4 (a_R t3 (a_R t2 (a_R t1 q λx hx=>(d x hx).1) λx hx=>(d x hx).2.2) λx hx=>(d x hx).2.1) λx hx=>(d x hx).2.2
   ·rw[a_i n.symm,a_i t,a_i n.symm,a_b,List.map_take]
   ·rw[a_i p.symm,a_b,List.map_drop]
   ·exact a_R t4 (a_R t3 (a_R t2 (a_R t1 r λx hx=>(g x hx).1) λx hx=>(g x hx).2.2) λx hx=>(g x hx).2.1) λx hx=>(g x hx).2.2
  ·refine k_L (k_L n6 p.symm (λz=>(d _ z).2.1 rfl) λz=>(g _ z).2.1 rfl) n.symm (λz=>(d _ z).1 rfl) λz=> ?_
   rcases r_7.mp z with z | z
   ·exact t z
   ·exact (g _ z).1 rfl
  ·have c1:c≠bl:=λe=>hn (by rw[e];exact r_0 ..)
   rw[a_i c1,a_i (a_h hc k),a_i c1,a_i (a_h hc f1)];exact hc
  ·simp only[r_7,s_e] at hc ⊢
   rcases hc with e | e | e | e | e
   ·exact .inl (.inl e)
   ·exact .inl (.inr (.inl e))
   ·exact .inr (by rw[e];exact f1)
   ·exact .inr (by rw[e];exact k)
   ·exact .inl (.inr (.inr (.inr e)))
end
structure Mf (K:PySem.W.Frag) (C:Addr) (m:Str) (f:Addr) (fd:FuncData) (ps:List Str):Prop where
 m:o_R K C m f
 b:Binds K fd ps []
structure GoodB (w:Bool) (B:List (List Row)):Prop where
 adj:Adj 8 (B.map List.length)
 srt:Srt (ltR w) B.flatten
theorem f_w:∀{l:List Nat} {p:Nat},Adj p l->∀n∈l,1<=n/\n<=8
 | m::r,p,⟨a,b,c,d⟩,n,hn=>by
   rcases r_7.mp hn with e | e
   ·subst e;exact⟨a,b⟩
   ·exact f_w d n e
theorem GoodB.ne {w:Bool} {B:List (List Row)} (g:GoodB w B):∀b∈B,b≠ []:=λb hb e=>by
 have:=f_w g.adj b.length (s_r.mpr ⟨b,hb,rfl⟩);rw[e] at this;simp at this
theorem GoodB.len {w:Bool} {B:List (List Row)} (g:GoodB w B):B.length<=B.flatten.length:=by
 have h:=g.ne;clear g;induction B with
 | nil=>simp
 | cons b r ih=>
   have:=ih λc hc=>h c (r_Z _ hc);have h1:b≠ []:=h b (r_0 ..);have h2:0 < b.length:=List.length_pos_iff.mpr h1;simp only[r_2,s_p,r_Y];omega
theorem Stp.trans {H H1 H2:Hp} {f f1 f2:List Addr} (a:Stp H H1 f f1) (b:Stp H1 H2 f1 f2):Stp H H2 f f2 where
 keep:=λc u hc hn=>b.keep c u (a.keep c u hc hn) λz=>by
  rcases a.new c z with q | q
  ·exact hn q
  ·rw[q] at hc;cases hc
 new:=λc hc=>by
  rcases b.new c hc with q | q
  ·exact a.new c q
  ·cases e:H c with
   | none=>exact .inr rfl
   | some u=>
     by_cases hn:c∈f
     ·exact .inl hn
     ·rw[a.keep c u e hn] at q;cases q
theorem c_B {w:Bool} {q:List V} {b:List Row} (h:b_p w q b=true):∃x,b.getLast? =some x/\b_a (a_H w x) q=true:=by
 unfold b_p at h;cases e:b.getLast? with
 | none=>rw[e] at h;cases h
 | some x=>rw[e] at h;exact⟨x,rfl,h⟩
theorem g_C {w:Bool} {q:List V} {b:List Row} (h:b_p w q b=false) (hb:b≠ []):∃x,b.getLast? =some x/\b_a (a_H w x) q=false:=by
 unfold b_p at h;cases e:b.getLast? with
 | none=>rw[List.getLast?_eq_none_iff] at e;exact absurd e hb
 | some x=>rw[e] at h;exact⟨x,rfl,h⟩
theorem h_N {w:Bool} {q:List V} {B₁ B₂:List (List Row)} {b:List Row} (hs:Srt (ltR w) (B₁++b::B₂).flatten) (h1:∀c∈B₁,b_p w q c=true) (h2:b_p w q b=false) (hb:b≠ []):
 (∀y∈B₁.flatten,b_a (a_H w y) q=true)/\∀y∈B₂.flatten,b_a (a_H w y) q=false:=by
 rw[s_j,s_p,Srt.app] at hs;refine⟨c_a (P:=λy=>b_a (a_H w y) q) (b_W w q) hs.1 λc hc=>c_B (h1 c hc),?_⟩;obtain⟨z,e,pz⟩:=g_C h2 hb;exact g_0 (P:=λy=>b_a (a_H w y) q) (b_W w q) hs.2.1 e pz
theorem i_U {w:Bool} {ρ:Row} {B B₁ B₂:List (List Row)} (hB:B=B₁++B₂) (hn:B≠ []) (hs:Srt (ltR w) B.flatten) (hb:∀b∈B,b≠ []) (h1:∀c∈B₁,b_p w (a_H w ρ) c=true) (h2:∀c∈B₂,b_p w (a_H w ρ) c=false):
 ∃L b R,B=L++b::R/\(if ((B.length:Int) - 1) < (B₁.length:Int) then ((B.length:Int) - 1) else (B₁.length:Int))=(L.length:Int)/\(∀y∈L.flatten,ltR w y ρ=true)/\∀y∈R.flatten,ltR w y ρ=false:=by
 cases B₂ with
 | nil=>
   rw[s_t] at hB;subst hB;refine⟨B.dropLast,B.getLast hn, [],(List.dropLast_concat_getLast hn).symm,?_, λy hy=> ?_, λy hy=>by cases hy⟩
   ·have:0 < B.length:=List.length_pos_iff.mpr hn
    rw[if_pos (by omega),List.length_dropLast];omega
   ·refine c_a (lt:=ltR w) (P:=λy=>ltR w y ρ) (b_W w (a_H w ρ)) hs (λc hc=>c_B (h1 c hc)) y ?_
    have e:=List.dropLast_concat_getLast hn;rw[<-e,s_j];exact s_v _ hy
 | cons b R=>
   subst hB;have:=h_N hs h1 (h2 b (r_0 ..)) (hb b (by simp));refine⟨B₁,b,R,rfl,?_, this.1,this.2⟩;rw[if_neg (by simp only[r_Y,r_2];omega)]
theorem g_d {α:Type} {t d l:List α} (e:t++d=l):l.take t.length=t/\l.drop t.length=d:=by
 subst e;exact⟨by simp,by simp⟩
theorem m_M {α:Type} {P:α->Bool} {l:List α}:l.take (l.takeWhile P).length=l.takeWhile P/\l.drop (l.takeWhile P).length=l.dropWhile P:=g_d (List.takeWhile_append_dropWhile)
theorem q_J {α:Type} {P:α->Bool} {l:List α}:(l.takeWhile P).length<=l.length:=by
 have:=congrArg List.length (List.takeWhile_append_dropWhile (p:=P) (l:=l));rw[r_Y] at this;omega
section
variable {P:Program} {w:World} {K:PySem.W.Frag} {mg:Str->Option Value} {base:Heap}
def m_e (C:Addr):Sp:=λvs H Q _=>∃(w:Bool) (o bl a:Addr) (bas:List Addr) (B:List (List Row)) (ρ:Row),vs= [.ref o,.ref a]/\OrdAt C w H o bl bas B/\RowAt H a ρ/\GoodB w B/\(∀x∈B.flatten,x.n≠ρ.n)/\B.flatten.length < 10000/\
 ∀(bas':List Addr) (B':List (List Row)) (H':Hp),OrdAt C w H' o bl bas' B'->GoodB w B'->B'.flatten.Perm (ρ::B.flatten)->Stp H H' (bl::bas) (bl::bas')->Q .non H'
theorem i_i:a_s ["self","row","key","place","block"] ["self","row"] (a_m m_7):=⟨rfl,rfl,rfl,by decide+kernel,rfl,by decide+kernel,by decide+kernel⟩
theorem n_v {f fK fBA fRA fSp C:Addr} {fd fdK fdBA fdRA fdSp:FuncData} (F:Fun K "take_in" "Order.take_in" m_7 f fd) (T:Txt K mg C) (gK:Gf K mg "key_of" fK fdK ["word","row"]) (GK:FnOk P w K mg base CX0 2 fK fdK ["word","row"] g_W)
 (mBA:Mf K C "blocks_ahead" fBA fdBA ["self","key"]) (GBA:FnOk P w K mg base CX0 3 fBA fdBA ["self","key"] (o_2 C)) (mRA:Mf K C "rows_ahead" fRA fdRA ["self","block","key"]) (GRA:FnOk P w K mg base CX0 3 fRA fdRA ["self","block","key"] (q_Y C))
 (mSp:Mf K C "split_block" fSp fdSp ["self","place"]) (GSp:FnOk P w K mg base CX0 1 fSp fdSp ["self","place"] (k_M C)):
 FnOk P w K mg base CX0 4 f fd ["self","row"] (m_e C):=by
 refine F.ok i_i (λvs H Q E h=> ?_) (λcdv A outer s H vs Q E hr h=> ?_)
 ·obtain⟨w,o,bl,a,bas,B,ρ,rfl,_⟩:=h
  rfl
 ·obtain⟨w,o,bl,a,bas,B,ρ,rfl,O,ha,G,a5,ak,fin⟩:=h
  obtain⟨⟨dx,ho⟩,d,W,a3⟩:=id O;have a9:Room 1 _:=hr.mono (by decide);have ac:Room 2 _:=hr.mono (by decide);obtain⟨t8,h8⟩:=T.most
  refine⟨_,a_c (a_C (a_l a_I (a_t a_x (by rfl) T.len s_F (a_a (a_E (pv 0) rfl) a_d)) a_g (a_q _))
   (a_c (a_z (b_y s_G s_I s_H a_N (a_E (pv 0) rfl) (a_a (a_O (a_a (pv 1) a_d)) a_d))) (a_f k_n)) a_p)
   (a_c (a_w (i:=2) i_i.nd rfl (Or.inl rfl) (a_j GK ac rfl gK.mg gK.kp gK.b .nil a_v (a_a (a_E (pv 0) rfl) (a_a (pv 1) a_d))))
   (a_c (a_w (i:=3) i_i.nd rfl (Or.inl rfl) (a_t (j_9 rfl) (by rfl) T.min PyProof.Rows.boot_min (a_a (a_Q (pv 0) T.cl mBA.m GBA hr mBA.b .nil a_v (a_a (pv 2) a_d)) (a_a (a_u b_T (a_t a_x (by rfl) T.len s_F (a_a (a_E (pv 0) rfl) a_d)) a_g) a_d))))
   (a_c (a_w (i:=4) i_i.nd rfl (Or.inl rfl) (a_r a_P (a_E (pv 0) rfl) (pv 3) (λ_ _=>rfl)))
   (a_c (a_z (b_y s_G PySem.F.slot_list_insert PySem.F.type_list_insert g_P (pv 4) (a_a (a_Q (pv 0) T.cl mRA.m GRA hr mRA.b .nil a_v (a_a (pv 4) (a_a (pv 2) a_d))) (a_a (pv 1) a_d))))
   (a_f (a_C (a_l h_y (a_t a_x (by rfl) T.len s_F (a_a (pv 4) a_d)) (p_F h8) (a_q _)) (a_f (a_z (a_Q (pv 0) T.cl mSp.m GSp a9 mSp.b .nil a_v (a_a (pv 3) a_d)))) a_p)))))),?_⟩
  refine⟨_,rfl,o,C,dx,_,_,rfl,ho,T.cl,T.nB,a_A _ _,bl,_,rfl,.inl (SqL.of d),rfl,_,rfl,?_⟩;have J:bas.length=B.length:=Paired.length W;refine a_y (λc=> ?_) (λc=> ?_)
  ·-- no block yet
   have c':=s_E c
   have ai:bas= []:=by
    injection c' with c'
    rw[r_W] at c';exact List.eq_nil_of_length_eq_zero (by omega)
   subst ai;cases W;refine⟨_,rfl,o,C,dx,_,_,rfl,ho,T.cl,T.nB,a_A _ _,.inl ⟨rfl,_,SqL.of d⟩,_,rfl,by show 1<=sizeLine;decide,λl hl=> ?_⟩;have p:bl≠l:=a_h d hl;have ae:o≠l:=a_h ho hl;have a2:o≠bl:=f_Q ho d (by intro z;cases z);refine⟨bl,_,_,rfl,rfl,(by rw[a_i p];exact d),by show 0 < sizeLine;decide,?_⟩;have t1:NoTup H l:=NoTup.none hl;have t2:NoTup (upd H l (.lst [.ref a])) bl:=NoTup.lst (ys:= []) (by rw[a_i p];exact d);refine fin [l] [[ρ]] _ ⟨⟨dx,by rw[a_i a2,a_i ae];exact ho⟩,a_b,.cons ⟨[a],by rw[a_i p.symm,a_b];rfl,.cons (t2.keep _ _ (t1.keep _ _ ha)) .nil⟩ .nil,by simp[p]⟩ ⟨by simp[Adj],by simp⟩ (by simp) ⟨λb u hb hn=> ?_, λb hb=> ?_⟩
   ·have n1:b≠bl:=λe=>hn (by simp[e])
    rw[a_i n1,a_i (a_h hb hl)];exact hb
   ·simp at hb
    rcases hb with e | e
    ·exact .inl (by simp[e])
    ·exact .inr (by rw[e];exact hl)
  ·have aj:B≠ []:=fun e=>c (by
    subst e;have:bas= []:=List.eq_nil_of_length_eq_zero (by simpa using J);subst this;exact s_C rfl)
   refine⟨_,rfl,o,C,dx,_,_,rfl,ho,T.cl,T.nW,b_O _ _,_,rfl,w,a,ρ,rfl,ha,λk hk=> ?_⟩;have s1:Same H (upd H k (.tup (a_H w ρ))):=Same.upd_new hk;refine⟨_,rfl,o,dx,_,rfl,s1 _ _ ho,a_Y _ _ (by decide+kernel) (by decide+kernel),_,rfl,w,o,bl,k,bas,B,a_H w ρ,rfl,O.same s1,a_b,λρ'=>c_x w ρ' ρ,G.srt,G.ne,λB₁ B₂ H2 s2 eB a8 ad=> ?_⟩;have n:Same H H2:=s1.trans s2;refine⟨_,rfl,o,C,dx,_,_,rfl,n _ _ ho,T.cl,T.nB,a_A _ _,bl,_,rfl,.inl (SqL.of (n _ _ d)),_,_,rfl,rfl,_,_,rfl,?_⟩;obtain⟨L,b,R,rfl,ep,hL,af⟩:=i_U eB aj G.srt G.ne a8 ad;obtain⟨l₁,ab,l₂,rfl,a0,Y,ah⟩:=b_b W;obtain⟨as,S,X⟩:=id Y;have ag:l₁.length=L.length:=Paired.length a0
   have ep':(if ((((l₁++ab::l₂).map V.ref).length:Int) - 1) < (B₁.length:Int) then ((((l₁++ab::l₂).map V.ref).length:Int) - 1) else (B₁.length:Int))=(L.length:Int):=by
    rw[r_W,J];exact ep
   obtain⟨n1,n2,n3,n4,n5,n6⟩:=d_h a3
   refine⟨_,rfl,o,C,dx,_,_,rfl,n _ _ ho,T.cl,T.nB,a_A _ _,_,rfl,bl,_,_,_,rfl,rfl,SqL.of (n _ _ d),(by
    show atI _ (if ((((l₁++ab::l₂).map V.ref).length:Int) - 1) < (B₁.length:Int) then ((((l₁++ab::l₂).map V.ref).length:Int) - 1) else (B₁.length:Int))=_;rw[ep'];exact a_e (j:=L.length) (v:=V.ref ab) (by rw[r_8,<-ag,c_9];rfl)),?_⟩
   refine⟨_,rfl,.inl ⟨rfl,_,SqL.of (n _ _ S)⟩,_,rfl,o,dx,_,rfl,n _ _ ho,a_Y _ _ (by decide+kernel) (by decide+kernel),_,rfl,_,rfl,w,o,bl,dx,ab,k,b,a_H w ρ,rfl,n _ _ ho,Y.sameS n,s2 _ _ a_b,λρ'=>c_x w ρ' ρ,λH3 s3=> ?_⟩;have g:Same H H3:=n.trans s3;have a4:=X.len;have al:(b.takeWhile λx=>b_a (a_H w x) (a_H w ρ)).length<=as.length:=by rw[a4];exact q_J
   have aa:b∈L++b::R:=by simp
   have am:=f_w G.adj b.length (s_r.mpr ⟨b,aa,rfl⟩);refine⟨_,rfl,ab,_,_,_,rfl,rfl,g _ _ S,?_, by omega,by rw[r_W];omega,?_⟩
   ·exact a_F (by rw[r_W,a4];omega)
   rw[Int.toNat_natCast,<-List.map_take,<-List.map_drop,<-s_b (f:=V.ref),<-r_4];have a7:=g _ _ S;have t4:NoTup H3 ab:=NoTup.lst a7;have a2:o≠bl:=f_Q ho d (by intro z;cases z);have a1:o≠ab:=f_Q ho S (by intro z;cases z)
   have t:RowsAt (upd H3 ab (.lst ((as.take (b.takeWhile λx=>b_a (a_H w x) (a_H w ρ)).length++a::as.drop (b.takeWhile λx=>b_a (a_H w x) (a_H w ρ)).length).map V.ref))) (as.take (b.takeWhile λx=>b_a (a_H w x) (a_H w ρ)).length++a::as.drop (b.takeWhile λx=>b_a (a_H w x) (a_H w ρ)).length)
    ((b.takeWhile λx=>b_a (a_H w x) (a_H w ρ))++ρ::b.dropWhile λx=>b_a (a_H w x) (a_H w ρ)):=by
    have e:=m_M (P:=λx=>b_a (a_H w x) (a_H w ρ)) (l:=b);have z:=RowsAt.app (X.take (b.takeWhile λx=>b_a (a_H w x) (a_H w ρ)).length) (.cons ha (X.drop (b.takeWhile λx=>b_a (a_H w x) (a_H w ρ)).length));rw[e.1,e.2] at z;exact RowsAt.same (t4.keep) (RowsAt.same (λb xs q=>g _ _ q) z)
   generalize N:upd H3 ab (.lst ((as.take (b.takeWhile λx=>b_a (a_H w x) (a_H w ρ)).length++a::as.drop (b.takeWhile λx=>b_a (a_H w x) (a_H w ρ)).length).map V.ref))=H4 at t ⊢;have e4:H4 ab=some (.lst ((as.take (b.takeWhile λx=>b_a (a_H w x) (a_H w ρ)).length++a::as.drop (b.takeWhile λx=>b_a (a_H w x) (a_H w ρ)).length).map V.ref)):=by rw[<-N];exact a_b
   have k4:∀c u,c≠ab->H3 c=some u->H4 c=some u:=λc u hc q=>by rw[<-N,a_i hc];exact q
   have Z:=i_w (P:=λx=>b_a (a_H w x) (a_H w ρ)) (x:=ρ) (b:=b) hL af
   have I:Srt (ltR w) (L++((b.takeWhile λx=>b_a (a_H w x) (a_H w ρ))++ρ::b.dropWhile λx=>b_a (a_H w x) (a_H w ρ))::R).flatten:=by
    rw[Z];exact Srt.ins (λa b c=>c_D w a b c) G.srt λy hy=>h_a (a5 y hy)
   have r:((L++((b.takeWhile λx=>b_a (a_H w x) (a_H w ρ))++ρ::b.dropWhile λx=>b_a (a_H w x) (a_H w ρ))::R).flatten).Perm (ρ::(L++b::R).flatten):=by
    rw[Z];exact i_h
   have a6:((b.takeWhile λx=>b_a (a_H w x) (a_H w ρ))++ρ::b.dropWhile λx=>b_a (a_H w x) (a_H w ρ)).length=b.length+1:=(i_h (P:=λx=>b_a (a_H w x) (a_H w ρ)) (l:=b) (x:=ρ)).length_eq;have U:=t.len;generalize (b.takeWhile λx=>b_a (a_H w x) (a_H w ρ))++ρ::b.dropWhile (λx=>b_a (a_H w x) (a_H w ρ))=b' at t I r a6 U;generalize as.take (b.takeWhile λx=>b_a (a_H w x) (a_H w ρ)).length++a::as.drop (b.takeWhile λx=>b_a (a_H w x) (a_H w ρ)).length=as' at t e4 U
   have O4:OrdAt C w H4 o bl (l₁++ab::l₂) (L++b'::R):=by
    refine⟨⟨dx,k4 _ _ a1 (g _ _ ho)⟩,k4 _ _ n2 (g _ _ d),a_D ?_ (.cons ⟨as',e4,t⟩ ?_),a3⟩
    ·rw[<-N]
     exact a_R t4 (Paired.mapP a0 λ_ _ q=>q.sameS g) λx hx e=>n4 (e ▸ hx)
    ·rw[<-N]
     exact a_R t4 (Paired.mapP ah λ_ _ q=>q.sameS g) λx hx e=>n5 (e ▸ hx)
   have S4:Stp H H4 (bl::(l₁++ab::l₂)) (bl::(l₁++ab::l₂)):=⟨λc u hc hn=>k4 c u (λe=>hn (by simp[e])) (g c u hc),λc hc=> .inl hc⟩;refine⟨_,rfl,ab,_,rfl,.inl (SqL.of e4),_,_,rfl,rfl,_,rfl,?_⟩;have M:=G.adj;rw[r_4,s_b] at M;refine a_y (λc9=> ?_) (λc9=> ?_)
   ·have h9:b'.length=9:=by
     have:=s_E c9;rw[r_W] at this;omega
    refine⟨_,rfl,o,dx,_,rfl,k4 _ _ a1 (g _ _ ho),a_Y _ _ (by decide+kernel) (by decide+kernel),_,rfl,w,o,bl,_,L,b',R,?_, O4,?_, λbas' H5 O5 S5=> ?_⟩
    ·show [V.ref o,V.int _]=_
     rw[ep']
    ·have:=G.len
     rw[J];omega
    ·rw[h9] at O5
     refine fin bas' _ H5 O5 ⟨?_, ?_⟩ ?_ (S4.trans S5)
     ·rw[r_4,s_b,s_b,s_i,List.length_drop,h9]
      exact Adj.split (by decide) M
     ·have e:(L++b'.take (9 / 2)::b'.drop (9 / 2)::R).flatten=(L++b'::R).flatten:=by simp[<-List.append_assoc (b'.take 4),s_z]
      rw[e];exact I
     ·have e:(L++b'.take (9 / 2)::b'.drop (9 / 2)::R).flatten=(L++b'::R).flatten:=by simp[<-List.append_assoc (b'.take 4),s_z]
      rw[e];exact r
   ·refine fin _ _ H4 O4 ⟨?_, I⟩ r S4
    have h9:b'.length<=8:=by
     have:¬ ((8:Int) < _):=λz=>c9 (s_C z);rw[r_W] at this;omega
    rw[r_4,s_b];exact M.put (by omega) h9
def e_w (B:List (List Row)) (p:Int) (B':List (List Row)):Prop:=
 ((p < 0\/(B.length:Int)<=p+1)/\B'=B)\/∃(B₁:List (List Row)) (x y:List Row) (B₂:List (List Row)),p=B₁.length/\B=B₁++x::y::B₂/\B'=if x.length+y.length < 5 then B₁++(x++y)::B₂ else B
def m_f (C:Addr):Sp:=λvs H Q _=>∃(w:Bool) (o bl:Addr) (bas:List Addr) (B:List (List Row)) (p:Int),vs= [.ref o,.int p]/\OrdAt C w H o bl bas B/\(∀b∈B,b.length<=8)/\bas.length < 100000/\
 ∀(bas':List Addr) (B':List (List Row)) (H':Hp),OrdAt C w H' o bl bas' B'->Stp H H' (bl::bas) (bl::bas')->e_w B p B'->Q .non H'
theorem m_d:a_s ["self","place","joined"] ["self","place"] (a_m n_3):=⟨rfl,rfl,rfl,by decide+kernel,rfl,by decide+kernel,by decide+kernel⟩
theorem p_f {α:Type} {l:List α} {i:Nat} (h:i+1 < l.length):∃l₁ x y l₂,l=l₁++x::y::l₂/\l₁.length=i:=by
 obtain⟨l₁,l₂,e,e2⟩:=d_7 (r_X (show i < l.length by omega));cases l₂ with
 | nil=>rw[e] at h;simp at h;omega
 | cons y l₂=>exact⟨l₁,_,y,l₂,e,e2⟩
theorem n_E {f C:Addr} {fd:FuncData} (F:Fun K "join_if_few" "Order.join_if_few" n_3 f fd) (T:Txt K mg C):FnOk P w K mg base CX0 1 f fd ["self","place"] (m_f C):=by
 refine F.ok m_d (λvs H Q E h=> ?_) (λcdv A outer s H vs Q E hr h=> ?_)
 ·obtain⟨w,o,bl,bas,B,p,rfl,_⟩:=h
  rfl
 ·obtain⟨w,o,bl,bas,B,p,rfl,O,h8,N,fin⟩:=h
  obtain⟨⟨dx,ho⟩,d,J,R⟩:=id O;obtain⟨t5,h5⟩:=T.least;have q:bas.length=B.length:=Paired.length J
  refine⟨_,a_c (a_C (PW.pt (c_G (a_l e_Z (pv 1) a_g (a_q _)) (b_J (a_l j_o (a_u a_U (pv 1) a_g) (a_t a_x (by rfl) T.len s_F (a_a (a_E (pv 0) rfl) a_d)) (a_q _))))) (a_f k_n) a_p)
   (a_c (a_w (i:=2) m_d.nd rfl (Or.inl rfl) (a_u c_T (a_r a_P (a_E (pv 0) rfl) (pv 1) (λ_ _=>rfl)) (a_r a_P (a_E (pv 0) rfl) (a_u a_U (pv 1) a_g) (λ_ _=>rfl))))
   (a_f (a_C (a_l e_Z (a_t a_x (by rfl) T.len s_F (a_a (pv 2) a_d)) (p_F h5) (a_q _))
     (a_c (m_K (pv 2) (m_s (a_E (pv 0) rfl) (pv 1) h_P)) (a_f (a_z (b_y s_G PySem.F.slot_list_pop PySem.F.type_list_pop i_a (a_E (pv 0) rfl) (a_a (a_u a_U (pv 1) a_g) a_d))))) a_p))),?_⟩
  refine⟨_,rfl,_,_,rfl,rfl,_,rfl,?_⟩;refine a_y (λc=> ?_) (λc=> ?_)
  ·exact fin bas B H O (Stp.of_same (Same.refl _)) (.inl ⟨.inl (s_E c),rfl⟩)
  have W:0<=p:=by have:¬ p < 0:=λz=>c (s_C z);omega
  refine⟨_,rfl,_,_,rfl,rfl,_,rfl,o,C,dx,_,_,rfl,ho,T.cl,T.nB,a_A _ _,bl,_,rfl,.inl (SqL.of d),_,_,rfl,rfl,_,rfl,?_⟩;refine a_y (λc2=> ?_) (λc2=> ?_)
  ·refine fin bas B H O (Stp.of_same (Same.refl _)) (.inl ⟨.inr ?_, rfl⟩)
   have:=s_E c2;rw[r_W,q] at this;exact this
  have U:p+1 < B.length:=by
   have:¬ ((_:Int)<=p+1):=λz=>c2 (s_C z);rw[r_W,q] at this;omega
  obtain⟨B₁,x,y,B₂,rfl,eB⟩:=p_f (l:=B) (i:=p.toNat) (by omega);have ep:p=(B₁.length:Int):=by omega
  subst ep;obtain⟨l₁,ax,l₂',rfl,q1,M,q2⟩:=b_b J;cases q2 with
  | @cons ay _ l₂ _ S q2=>
  obtain⟨xs,hx,I⟩:=id M;obtain⟨ys,hy,G⟩:=id S;have g:l₁.length=B₁.length:=Paired.length q1;have lx:=I.len;have ly:=G.len;have x8:=h8 x (by simp);have y8:=h8 y (by simp);have gx:((l₁++ax::ay::l₂).map V.ref)[B₁.length]? =some (V.ref ax):=by rw[r_8,<-g,c_9];rfl
  have gy:((l₁++ax::ay::l₂).map V.ref)[B₁.length+1]? =some (V.ref ay):=by
   rw[r_8,<-g,show l₁++ax::ay::l₂=(l₁++ [ax])++ay::l₂ by simp,show l₁.length+1=(l₁++ [ax]).length by simp,c_9];rfl
  refine⟨_,rfl,o,C,dx,_,_,rfl,ho,T.cl,T.nB,a_A _ _,_,rfl,bl,_,_,_,rfl,rfl,SqL.of d,a_e gx,_,rfl,o,C,dx,_,_,rfl,ho,T.cl,T.nB,a_A _ _,_,rfl,_,_,rfl,rfl,bl,_,_,_,rfl,rfl,SqL.of d,(a_e (j:=B₁.length+1) gy),
   ax,ay,_,_,rfl,rfl,hx,hy,?_, λp1 f1=> ?_⟩
  ·rw[r_W,r_W]
   exact Nat.le_of_lt (a_F (by omega))
  rw[<-r_4];obtain⟨n1,n2,n3,n4,n5,n6⟩:=d_h R;have t:o≠p1:=a_h ho f1;have k:bl≠p1:=a_h d f1;have v:o≠bl:=f_Q ho d (by intro z;cases z);refine⟨_,rfl,p1,_,rfl,.inl (SqL.of a_b),_,_,rfl,rfl,_,rfl,?_⟩;refine a_y (λc5=> ?_) (λc5=> ?_)
  ·have r:x.length+y.length < 5:=by
    have:=s_E c5;rw[r_W,r_Y] at this;omega
   have eset:((l₁++ax::ay::l₂).map V.ref).set B₁.length (.ref p1)=(l₁++p1::ay::l₂).map V.ref:=by
    rw[<-g,r_4,s_b,r_4,s_b];have:=k_Q (l₁:=l₁.map V.ref) (l₂:=(ay::l₂).map V.ref) (a:=V.ref ax) (b:=V.ref p1);rw[r_W] at this;exact this
   refine⟨_,rfl,_,rfl,o,C,dx,_,_,rfl,(by rw[a_i t];exact ho),T.cl,T.nB,a_A _ _,_,rfl,bl,_,_,B₁.length,rfl,rfl,(by rw[a_i k];exact d),(by rw[r_W];exact k_l (by simp[g])),?_⟩;rw[eset]
   have ge:((l₁++p1::ay::l₂).map V.ref)[B₁.length+1]? =some (V.ref ay):=by
    rw[r_8,<-g,show l₁++p1::ay::l₂=(l₁++ [p1])++ay::l₂ by simp,show l₁.length+1=(l₁++ [p1]).length by simp,c_9];rfl
   have er:((l₁++p1::ay::l₂).map V.ref).eraseIdx (B₁.length+1)=(l₁++p1::l₂).map V.ref:=by
    rw[<-g,d_u,show l₁++p1::ay::l₂=(l₁++ [p1])++ay::l₂ by simp,show l₁.length+1=(l₁++ [p1]).length by simp,g_k];simp
   have X:B₁.length+1 < ((l₁++p1::ay::l₂).map V.ref).length:=by
    simp only[r_W,r_Y,r_2];omega
   have L:((B₁.length:Int)+1) < 2 ^ 63:=by
    have:B₁.length < 100000:=by simp only[r_Y,r_2] at N;omega
    omega
   refine⟨_,rfl,o,C,dx,_,_,rfl,(by rw[a_i v,a_i t];exact ho),T.cl,T.nB,a_A _ _,.inl ⟨rfl,_,SqL.of a_b⟩,_,rfl,_,_,rfl,rfl,bl,_,_,B₁.length+1,_,rfl,rfl,a_b,by omega,L,?_, ge,?_⟩
   ·rw[PySem.seqIndex_of (by omega) (by omega)]
    rfl
   rw[er];have nay:bl≠ay:=λe=>n3 (by simp[e]);have m:∀z∈l₁,z≠p1/\z≠bl:=λz hz=>⟨c_i q1 f1 z hz,λe=>n1 (e ▸ hz)⟩;have n:∀z∈l₂,z≠p1/\z≠bl:=λz hz=>⟨c_i q2 f1 z hz,λe=>n3 (by rw[<-e];simp[hz])⟩;have t1:NoTup H p1:=NoTup.none f1;have t2:NoTup (upd H p1 (.lst ((xs++ys).map V.ref))) bl:=NoTup.lst (ys:=(l₁++ax::ay::l₂).map V.ref) (by rw[a_i k];exact d);have t3:NoTup (upd (upd H p1 (.lst ((xs++ys).map V.ref))) bl (.lst ((l₁++p1::ay::l₂).map V.ref))) bl:=NoTup.lst a_b
   have nd':(bl::(l₁++l₂)).Nodup:=by
    have:=d_h (bl:=bl) (a:=ay) (l₁:=l₁) (l₂:=l₂) n6;exact this.2.2.2.2.2
   refine fin (l₁++p1::l₂) (B₁++(x++y)::B₂) _ ⟨⟨dx,?_⟩,a_b,?_, ?_⟩ ⟨λc u hc hn=> ?_, λc hc=> ?_⟩ (.inr ⟨B₁,x,y,B₂,rfl,rfl,by rw[if_pos r]⟩)
   ·rw[a_i v,a_i v,a_i t];exact ho
   ·refine a_D ?_ (.cons ⟨xs++ys,?_, ?_⟩ ?_)
    ·exact a_R t3 (a_R t2 (a_R t1 q1 λz hz=>(m z hz).1) λz hz=>(m z hz).2) λz hz=>(m z hz).2
    ·rw[a_i k.symm,a_i k.symm,a_b]
    ·exact (RowsAt.app I G).same λb zs h=>t3.keep _ _ (t2.keep _ _ (t1.keep _ _ h))
    ·exact a_R t3 (a_R t2 (a_R t1 q2 λz hz=>(n z hz).1) λz hz=>(n z hz).2) λz hz=>(n z hz).2
   ·exact k_L nd' k.symm (λz=>(m _ z).1 rfl) λz=>(n _ z).1 rfl
   ·have c1:c≠bl:=λe=>hn (by rw[e];exact r_0 ..)
    rw[a_i c1,a_i c1,a_i (a_h hc f1)];exact hc
   ·simp only[r_7,s_e] at hc ⊢
    rcases hc with e | e | e | e
    ·exact .inl (.inl e)
    ·exact .inl (.inr (.inl e))
    ·exact .inr (by rw[e];exact f1)
    ·exact .inl (.inr (.inr (.inr (.inr e))))
  ·have r:¬ (x.length+y.length < 5):=λz=>c5 (s_C (by rw[r_W,r_Y];omega))
   exact fin _ _ _ (O.same (Same.upd_new f1)) (Stp.of_same (Same.upd_new f1)) (.inr ⟨B₁,x,y,B₂,rfl,rfl,by rw[if_neg r]⟩)
end
theorem g_D {B₁ B₂ B':List (List Row)} {x y:List Row} (h:e_w (B₁++x::y::B₂) (B₁.length:Int) B'):B'=if x.length+y.length < 5 then B₁++(x++y)::B₂ else B₁++x::y::B₂:=by
 rcases h with⟨h,e⟩ | ⟨C₁,u,v,C₂,h1,h2,h3⟩
 ·simp only[r_Y,r_2] at h
  omega
 ·have hl:B₁.length=C₁.length:=by omega
  obtain⟨e1,e2⟩:=List.append_inj h2 hl;subst e1;injection e2 with e3 e4
  injection e4 with e5 e6
  subst e3 e5 e6;exact h3
theorem i_T {B₁ B':List (List Row)} {x:List Row} (h:e_w (B₁++ [x]) (B₁.length:Int) B'):B'=B₁++ [x]:=by
 rcases h with⟨h,e⟩ | ⟨C₁,u,v,C₂,h1,h2,h3⟩
 ·exact e
 ·have:=congrArg List.length h2
  simp only[r_Y,r_2,s_w] at this;omega
theorem i_x {B B':List (List Row)} {p:Int} (hp:p < 0) (h:e_w B p B'):B'=B:=by
 rcases h with⟨h,e⟩ | ⟨C₁,u,v,C₂,h1,h2,h3⟩
 ·exact e
 ·omega
theorem h_h {B B':List (List Row)} {p:Int} (g:Adj 8 (B.map List.length)) (h:e_w B p B'):B'=B:=by
 rcases h with⟨h,e⟩ | ⟨C₁,u,v,C₂,h1,h2,h3⟩
 ·exact e
 ·subst h2
  rw[r_4,s_b,s_b,Adj.app] at g;obtain⟨_,_,_,_,_,_,g,_⟩:=g;rw[if_neg (by omega)] at h3;exact h3
theorem l_K {B₁ B₂ By Bz:List (List Row)} {b b':List Row} (g:Adj 8 ((B₁++b::B₂).map List.length)) (hb:b.length=b'.length+1) (h1:1<=b'.length)
 (j1:e_w (B₁++b'::B₂) (B₁.length:Int) By) (j2:e_w By ((B₁.length:Int) - 1) Bz):Adj 8 (Bz.map List.length)/\Bz.flatten=(B₁++b'::B₂).flatten:=by
 rw[r_4,s_b,hb] at g
 -- where the block's right neighbour is not joined
 have right:By=B₁++b'::B₂->(∀c r,B₂.map List.length=c::r->5<=b'.length+c)->Adj 8 (Bz.map List.length)/\Bz.flatten=(B₁++b'::B₂).flatten:=by
  intro e hr;subst e;rcases List.eq_nil_or_concat B₁ with e | ⟨A,e0,e⟩
  ·subst e
   have z:=i_x (by simp) j2;subst z;exact⟨by simpa using Adj.less (l₁:= []) g h1 (by simp[f_I];omega) hr,rfl⟩
  ·rw[List.concat_eq_append] at e
   subst e;have ep:((A++ [e0]).length:Int) - 1=(A.length:Int):=by simp
   rw[ep,List.append_assoc] at j2;have z:=g_D (B₁:=A) (x:=e0) (y:=b') (B₂:=B₂) j2;by_cases c:e0.length+b'.length < 5
   ·rw[if_pos c] at z
    subst z;refine⟨?_, by simp⟩;rw[r_4,s_b,r_Y];rw[r_4,List.append_assoc] at g;exact Adj.less_join_l g c
   ·rw[if_neg c] at z
    subst z;refine⟨?_, by simp⟩;have q:=Adj.less (l₁:=(A++ [e0]).map List.length) g h1 (by rw[r_4];simp only[s_b,List.map_nil];rw[e_9];omega) hr;simpa using q
 cases B₂ with
 | nil=>exact right (i_T j1) (λc r h=>by cases h)
 | cons y R=>
   have z:=g_D j1;by_cases c:b'.length+y.length < 5
   ·rw[if_pos c] at z
    subst z
    have g':Adj 8 ((B₁++(b'++y)::R).map List.length):=by
     rw[r_4,s_b,r_Y];exact Adj.less_join g h1 c
    have z2:=h_h g' j2;subst z2;exact⟨g',by simp⟩
   ·rw[if_neg c] at z
    exact right z λd r h=>by
     injection h with h _
     omega
theorem i_d {α:Type} [DecidableEq α] {a:α}:∀{l:List α},a∈l->l.eraseIdx (l.idxOf a)=l.erase a
 | x::r,h=>by
   rw[List.idxOf_cons,List.erase_cons];cases e:x == a with
   | true=>simp
   | false=>
     have:a∈r:=by
      rcases r_7.mp h with q | q
      ·subst q;simp at e
      ·exact q
     simp only[cond_false,List.eraseIdx_cons_succ];rw[i_d this];simp
section
variable {P:Program} {w:World} {K:PySem.W.Frag} {mg:Str->Option Value} {base:Heap}
def p_c (C:Addr):Sp:=λvs H Q _=>∃(w:Bool) (o bl a:Addr) (bas:List Addr) (B:List (List Row)) (ρ:Row),vs= [.ref o,.ref a]/\OrdAt C w H o bl bas B/\RowAt H a ρ/\GoodB w B/\ρ∈B.flatten/\B.flatten.length < 10000/\
 ∀(bas':List Addr) (B':List (List Row)) (H':Hp),OrdAt C w H' o bl bas' B'->GoodB w B'->(ρ::B'.flatten).Perm B.flatten->Stp H H' (bl::bas) (bl::bas')->Q .non H'
theorem n_R:a_s ["self","row","place","block"] ["self","row"] (a_m q_o):=⟨rfl,rfl,rfl,by decide+kernel,rfl,by decide+kernel,by decide+kernel⟩
theorem p_H {f fK fBA fJ C:Addr} {fd fdK fdBA fdJ:FuncData} (F:Fun K "let_out" "Order.let_out" q_o f fd) (T:Txt K mg C) (gK:Gf K mg "key_of" fK fdK ["word","row"]) (GK:FnOk P w K mg base CX0 2 fK fdK ["word","row"] g_W)
 (mBA:Mf K C "blocks_ahead" fBA fdBA ["self","key"]) (GBA:FnOk P w K mg base CX0 3 fBA fdBA ["self","key"] (o_2 C)) (mJ:Mf K C "join_if_few" fJ fdJ ["self","place"]) (GJ:FnOk P w K mg base CX0 1 fJ fdJ ["self","place"] (m_f C)):
 FnOk P w K mg base CX0 4 f fd ["self","row"] (p_c C):=by
 refine F.ok n_R (λvs H Q E h=> ?_) (λcdv A outer s H vs Q E hr h=> ?_)
 ·obtain⟨w,o,bl,a,bas,B,ρ,rfl,_⟩:=h
  rfl
 ·obtain⟨w,o,bl,a,bas,B,ρ,rfl,O,ha,G,hm,ag,fin⟩:=h
  obtain⟨⟨dx,ho⟩,j,S,W⟩:=id O;have M:Room 1 _:=hr.mono (by decide);have a6:Room 2 _:=hr.mono (by decide);have ae:bas.length=B.length:=Paired.length S
  refine⟨_,a_c (a_w (i:=2) n_R.nd rfl (Or.inl rfl) (a_Q (pv 0) T.cl mBA.m GBA hr mBA.b .nil a_v (a_a (a_j GK a6 rfl gK.mg gK.kp gK.b .nil a_v (a_a (a_E (pv 0) rfl) (a_a (pv 1) a_d))) a_d)))
   (a_c (a_w (i:=3) n_R.nd rfl (Or.inl rfl) (a_r a_P (a_E (pv 0) rfl) (pv 2) (λ_ _=>rfl)))
   (a_c (a_z (b_y s_G PySem.F.slot_list_remove PySem.F.type_list_remove (j_q (e_Y hr)) (pv 3) (a_a (pv 1) a_d)))
   (a_f (a_C (a_l h_y (a_t a_x (by rfl) T.len s_F (a_a (pv 3) a_d)) a_g (a_q _))
     (a_c (a_z (a_Q (pv 0) T.cl mJ.m GJ M mJ.b .nil a_v (a_a (pv 2) a_d))) (a_f (a_z (a_Q (pv 0) T.cl mJ.m GJ M mJ.b .nil a_v (a_a (a_u b_T (pv 2) a_g) a_d)))))
     (a_f (a_z (b_y s_G PySem.F.slot_list_pop PySem.F.type_list_pop i_a (a_E (pv 0) rfl) (a_a (pv 2) a_d)))))))),?_⟩
  refine⟨_,rfl,o,dx,_,rfl,ho,a_Y _ _ (by decide+kernel) (by decide+kernel),_,rfl,o,C,dx,_,_,rfl,ho,T.cl,T.nW,b_O _ _,_,rfl,w,a,ρ,rfl,ha,λk hk=> ?_⟩;have s1:Same H (upd H k (.tup (a_H w ρ))):=Same.upd_new hk;refine⟨w,o,bl,k,bas,B,a_H w ρ,rfl,O.same s1,a_b,λρ'=>c_x w ρ' ρ,G.srt,G.ne,λB₁ B₂ H2 s2 eB a5 a9=> ?_⟩;have d:Same H H2:=s1.trans s2
  have I:∀y∈B₁.flatten,ltR w y ρ=true:=by
   have:=G.srt;rw[eB,s_j,Srt.app] at this;exact c_a (P:=λy=>ltR w y ρ) (b_W w (a_H w ρ)) this.1 λc hc=>c_B (a5 c hc)
  cases B₂ with
  | nil=>
    rw[s_t] at eB;subst eB;exact (p_z (b_M w) hm I).elim
  | cons b B₂=>
  subst eB;obtain⟨z,ez,pz⟩:=g_C (a9 b (r_0 ..)) (G.ne b (by simp));have hρb:ρ∈b:=h_I (b_M w) G.srt hm I ez pz;obtain⟨l₁,ab,l₂,rfl,R,a3,ac⟩:=b_b S;obtain⟨as,n,U⟩:=id a3;have Y:l₁.length=B₁.length:=Paired.length R;obtain⟨n1,n2,n3,n4,n5,n6⟩:=d_h W;have gb:((l₁++ab::l₂).map V.ref)[B₁.length]? =some (V.ref ab):=by rw[r_8,<-Y,c_9];rfl
  refine⟨_,rfl,o,C,dx,_,_,rfl,d _ _ ho,T.cl,T.nB,a_A _ _,_,rfl,bl,_,_,_,rfl,rfl,SqL.of (d _ _ j),a_e gb,?_⟩;refine⟨_,rfl,.inl ⟨rfl,_,SqL.of (d _ _ n)⟩,_,rfl,ab,as,a,b,ρ,rfl,rfl,d _ _ n,U.same (λb xs q=>d _ _ q),d _ _ ha,hρb,?_⟩;have l:=((U.eraseIdx (b.idxOf ρ)).same λb xs q=>d _ _ q).same (NoTup.keep (o:= .lst ((as.eraseIdx (b.idxOf ρ)).map V.ref)) (NoTup.lst (d _ _ n)));rw[i_d hρb] at l;have r:o≠ab:=f_Q ho n (by intro z;cases z);have aa:o≠bl:=f_Q ho j (by intro z;cases z);have t4:NoTup H2 ab:=NoTup.lst (d _ _ n)
  have N:b.length=(b.erase ρ).length+1:=by
   have:=List.length_erase_of_mem hρb;have:0 < b.length:=List.length_pos_of_mem hρb;omega
  have hE:=g_A G.srt hρb;generalize as.eraseIdx (b.idxOf ρ)=as' at l ⊢;generalize p:upd H2 ab (.lst (as'.map V.ref))=H4 at l ⊢;have e4:H4 ab=some (.lst (as'.map V.ref)):=by rw[<-p];exact a_b
  have k4:∀c u,c≠ab->H2 c=some u->H4 c=some u:=λc u hc q=>by rw[<-p,a_i hc];exact q
  have ah:=l.len
  have L:Paired (LstAt H4) l₁ B₁:=by
   rw[<-p];exact a_R t4 (Paired.mapP R λ_ _ q=>q.sameS d) λx hx e=>n4 (e ▸ hx)
  have t:Paired (LstAt H4) l₂ B₂:=by
   rw[<-p];exact a_R t4 (Paired.mapP ac λ_ _ q=>q.sameS d) λx hx e=>n5 (e ▸ hx)
  have O4:OrdAt C w H4 o bl (l₁++ab::l₂) (B₁++b.erase ρ::B₂):=⟨⟨dx,k4 _ _ r (d _ _ ho)⟩,k4 _ _ n2 (d _ _ j),a_D L (.cons ⟨as',e4,l⟩ t),W⟩;have S4:Stp H H4 (bl::(l₁++ab::l₂)) (bl::(l₁++ab::l₂)):=⟨λc u hc hn=>k4 c u (λe=>hn (by simp[e])) (d c u hc),λc hc=> .inl hc⟩;refine⟨_,rfl,ab,_,rfl,.inl (SqL.of e4),_,_,rfl,rfl,_,rfl,?_⟩;have J:∀c∈B₁++b::B₂,c.length<=8:=λc hc=>(f_w G.adj c.length (s_r.mpr ⟨c,hc,rfl⟩)).2;have Z:=G.len;refine a_y (λc0=> ?_) (λc0=> ?_)
  ·have h0:1≤(b.erase ρ).length:=by
    have:=s_E c0;rw[r_W] at this;omega
   have h8:∀c∈B₁++b.erase ρ::B₂,c.length<=8:=λc hc=>by
    simp only[s_e,r_7] at hc;rcases hc with q | q | q
    ·exact J c (by simp[q])
    ·have:=J b (by simp);subst q;omega
    ·exact J c (by simp[q])
   refine⟨_,rfl,o,dx,_,rfl,k4 _ _ r (d _ _ ho),a_Y _ _ (by decide+kernel) (by decide+kernel),_,rfl,w,o,bl,_,_,_,rfl,O4,h8,by omega,λa2 B5 H5 O5 S5 j5=> ?_⟩;obtain⟨⟨a7,a8⟩,ad,a0,_⟩:=id O5
   have X:(∀c∈B5,c.length<=8)/\B5.length<=(B₁++b.erase ρ::B₂).length:=by
    rcases j5 with⟨_,e⟩ | ⟨C₁,u,v,C₂,h1,h2,h3⟩
    ·subst e;exact⟨h8,r_5 _⟩
    ·by_cases q:u.length+v.length < 5
     ·rw[if_pos q] at h3
      subst h3;rw[h2] at h8 ⊢;refine⟨λc hc=> ?_, by simp⟩;simp only[s_e,r_7] at hc;rcases hc with z | z | z
      ·exact h8 c (by simp[z])
      ·subst z;rw[r_Y];omega
      ·exact h8 c (by simp[z])
     ·rw[if_neg q] at h3
      subst h3;exact⟨h8,r_5 _⟩
   have af:a2.length=B5.length:=Paired.length a0;refine⟨_,rfl,o,a7,_,rfl,a8,a_Y _ _ (by decide+kernel) (by decide+kernel),_,rfl,_,_,rfl,rfl,w,o,bl,_,_,_,rfl,O5,X.1,?_, λa1 B6 H6 O6 S6 j6=> ?_⟩
   ·have:=X.2
    simp only[r_Y,r_2] at this Z;omega
   ·have LG:=l_K G.adj N h0 j5 j6
    refine fin a1 B6 H6 O6 ⟨LG.1,?_⟩ ?_ ((S4.trans S5).trans S6)
    ·rw[LG.2];exact hE.1
    ·rw[LG.2];exact hE.2
  ·have h0:(b.erase ρ).length=0:=by
    have:¬ ((0:Int) < _):=λz=>c0 (s_C z);rw[r_W] at this;omega
   have he:b.erase ρ= []:=List.eq_nil_of_length_eq_zero h0
   have er:((l₁++ab::l₂).map V.ref).eraseIdx B₁.length=(l₁++l₂).map V.ref:=by
    rw[<-Y,d_u,g_k]
   have a4:(B₁.length:Int) < 2 ^ 63:=by
    simp only[r_Y,r_2] at Z;omega
   refine⟨_,rfl,o,C,dx,_,_,rfl,k4 _ _ r (d _ _ ho),T.cl,T.nB,a_A _ _,.inl ⟨rfl,_,SqL.of (k4 _ _ n2 (d _ _ j))⟩,_,rfl,bl,_,_,B₁.length,_,rfl,rfl,k4 _ _ n2 (d _ _ j),by omega,a4,?_, gb,?_⟩
   ·rw[PySem.seqIndex_of (by omega) (by simp;omega)]
    rfl
   rw[er];have t5:NoTup H4 bl:=NoTup.lst (k4 _ _ n2 (d _ _ j));refine fin (l₁++l₂) (B₁++B₂) _ ⟨⟨dx,by rw[a_i aa];exact k4 _ _ r (d _ _ ho)⟩,a_b,a_D (a_R t5 L λx hx e=>n1 (e ▸ hx)) (a_R t5 t λx hx e=>n3 (e ▸ hx)),n6⟩ ⟨?_, ?_⟩ ?_ ?_
   ·have g:=G.adj
    rw[r_4,s_b,N,h0] at g;rw[r_4];exact Adj.gone g
   ·have:=hE.1
    rw[he] at this;simpa using this
   ·have:=hE.2
    rw[he] at this;simpa using this
   ·refine⟨λc u hc hn=> ?_, λc hc=> .inl ?_⟩
    ·rw[a_i (λe=>hn (by simp[e]))]
     exact S4.keep c u hc hn
    ·simp only[r_7,s_e] at hc ⊢
     rcases hc with q | q | q
     ·exact .inl q
     ·exact .inr (.inl q)
     ·exact .inr (.inr (.inr q))
end
def r_I (K:PySem.W.Frag):List V->Hp->VK->Prop:=λxs H Q=>∃p ys,xs= [.ref p]/\(SqL K H p ys\/SqT K H p ys)/\Q (.int ys.length) H
theorem b_R {X:Cx} (K:PySem.W.Frag) (hK:X.K=K:=by rfl):c_W X (.builtin "len") (r_I K):=by subst hK;exact a_x
theorem b_f {X:Cx} (K:PySem.W.Frag) (hK:X.K=K:=by rfl):IxR X (q_6 K):=by subst hK;exact a_o
theorem l_Z {X:Cx} (K:PySem.W.Frag) (hK:X.K=K:=by rfl):IxR X (q_8 K):=by subst hK;exact a_P
section
variable {P:Program} {w:World} {K:PySem.W.Frag} {mg:Str->Option Value} {base:Heap}
theorem f_v {B:List (List Row)}:∀i,((B.take i).flatten).length<=B.flatten.length:=λi=>by
 have e:(B.take i++B.drop i).flatten=B.flatten:=by rw[s_z]
 rw[<-e,s_j,r_Y];omega
def j_4 (C:Addr):Sp:=λvs H Q _=>∃(w:Bool) (o bl a:Addr) (bas:List Addr) (B:List (List Row)) (ρ:Row),vs= [.ref o,.ref a]/\OrdAt C w H o bl bas B/\RowAt H a ρ/\GoodB w B/\B.flatten.length < 10000/\
 ∀(H':Hp),Same H H'->Q (.int ((B.flatten.filter λx=>ltR w x ρ).length:Nat)) H'
theorem e_e:a_s ["self","row","key","place","ahead"] ["self","row"] (a_m j_H):=⟨rfl,rfl,rfl,by decide+kernel,rfl,by decide+kernel,by decide+kernel⟩
theorem g_a (l:List Nat):(l.map λn:Nat=>(n:Int)).sum=((l.sum:Nat):Int):=by
 induction l with
 | nil=>rfl
 | cons a r ih=>simp only[s_b,List.sum_cons,ih];omega
theorem k_Y {f fK fBA fRA C:Addr} {fd fdK fdBA fdRA:FuncData} (F:Fun K "ahead_of" "Order.ahead_of" j_H f fd) (T:Txt K mg C) (gK:Gf K mg "key_of" fK fdK ["word","row"]) (GK:FnOk P w K mg base CX0 2 fK fdK ["word","row"] g_W)
 (mBA:Mf K C "blocks_ahead" fBA fdBA ["self","key"]) (GBA:FnOk P w K mg base CX0 3 fBA fdBA ["self","key"] (o_2 C)) (mRA:Mf K C "rows_ahead" fRA fdRA ["self","block","key"]) (GRA:FnOk P w K mg base CX0 3 fRA fdRA ["self","block","key"] (q_Y C)):
 FnOk P w K mg base CX0 4 f fd ["self","row"] (j_4 C):=by
 refine F.ok e_e (λvs H Q E h=> ?_) (λcdv A outer s H vs Q E hr h=> ?_)
 ·obtain⟨w,o,bl,a,bas,B,ρ,rfl,_⟩:=h
  rfl
 ·obtain⟨w,o,bl,a,bas,B,ρ,rfl,O,ha,G,Y,fin⟩:=h
  obtain⟨⟨dx,ho⟩,j,n,Z⟩:=id O;have M:Room 2 _:=hr.mono (by decide);have l:bas.length=B.length:=Paired.length n
  refine⟨_,a_c (a_w (i:=2) e_e.nd rfl (Or.inl rfl) (a_j GK M rfl gK.mg gK.kp gK.b .nil a_v (a_a (a_E (pv 0) rfl) (a_a (pv 1) a_d))))
   (a_c (a_w (i:=3) e_e.nd rfl (Or.inl rfl) (a_Q (pv 0) T.cl mBA.m GBA hr mBA.b .nil a_v (a_a (pv 2) a_d)))
   (a_c (a_w (i:=4) e_e.nd rfl (Or.inl rfl) (a_t (j_8 rfl) (by rfl) T.sum PyProof.Rows.boot_sum (a_a (c_w (x:="block") (fns:= []) (js:= []) rfl
     ⟨rfl,by decide+kernel,by decide+kernel,rfl,by decide+kernel,by simp,rfl,by simp,rfl,by decide+kernel⟩ (b_e (b_s e_x (a_E (pv 0) rfl) b_7 (b_G (pv 3)))) (λ_ _ _ _=>b_K)
     (λ_ _ _ _=>a_t (b_R K) (by rfl) T.len s_F (a_a (pv 0) a_d))) a_d)))
   (a_c (a_C (a_l e_Z (pv 3) (a_t a_x (by rfl) T.len s_F (a_a (a_E (pv 0) rfl) a_d)) (a_q _))
     (a_f (a_w (i:=4) e_e.nd rfl (Or.inl rfl) (a_u a_U (pv 4) (a_Q (pv 0) T.cl mRA.m GRA hr mRA.b .nil a_v (a_a (a_r a_P (a_E (pv 0) rfl) (pv 3) (λ_ _=>rfl)) (a_a (pv 2) a_d)))))) a_p)
   (a_f (a_n (pv 4)))))),?_⟩
  refine⟨_,rfl,o,C,dx,_,_,rfl,ho,T.cl,T.nW,b_O _ _,_,rfl,w,a,ρ,rfl,ha,λk hk=> ?_⟩;have s1:Same H (upd H k (.tup (a_H w ρ))):=Same.upd_new hk;refine⟨_,rfl,o,dx,_,rfl,s1 _ _ ho,a_Y _ _ (by decide+kernel) (by decide+kernel),_,rfl,w,o,bl,k,bas,B,a_H w ρ,rfl,O.same s1,a_b,λρ'=>c_x w ρ' ρ,G.srt,G.ne,λB₁ B₂ H2 s2 eB t U=> ?_⟩;have g:Same H H2:=s1.trans s2;have L:B₁.length<=bas.length:=by rw[l,eB,r_Y];omega
  refine⟨_,rfl,o,C,dx,_,_,rfl,g _ _ ho,T.cl,T.nB,a_A _ _,_,rfl,_,rfl,bl,_,rfl,SqL.of (g _ _ j),λc1 f1=> ?_⟩;rw[h_K (by rw[r_W];exact L),<-List.map_take];refine⟨c1,rfl,⟨_,SqL.of a_b⟩,λD fD=> ?_⟩;have q:c1≠D:=a_h a_b fD;have R:H2 D=none:=by rw[a_i q.symm] at fD;exact fD
  refine c_I (K:=K) (xs:=(bas.take B₁.length).map V.ref)
   (λi ys H3=>Same H2 H3/\H3 c1=some (.lst ((bas.take B₁.length).map V.ref))/\ys=((B.take i).map λb=>V.int b.length)) ?_ ?_ ?_ ?_
  ·refine⟨(Same.upd_new f1).trans (Same.upd_new fD),?_, by simp⟩
   rw[a_i q];exact a_b
  ·rintro i ys H3 _ _ ⟨_,h,_⟩
   exact SqL.of h
  ·rintro i v ys H3 hi hD ⟨s3,hc,rfl⟩
   rw[r_8] at hi;cases e:(bas.take B₁.length)[i]? with
   | none=>rw[e] at hi;cases hi
   | some ab=>
     rw[e] at hi;obtain rfl:V.ref ab=v:=r_3 hi;have S:=(s_a.mp e).1;rw[s_i] at S;have e0:bas[i]? =some ab:=by rw[List.getElem?_take_of_lt (by omega)] at e;exact e
     obtain⟨b,hb⟩:∃b,B[i]? =some b:=⟨_,r_X (by omega)⟩;obtain⟨ab',e',bs,J,y⟩:=a_T n hb;rw[e0] at e';obtain rfl:ab=ab':=r_3 e';have X:=y.len;refine⟨_,rfl,ab,_,rfl,.inl (SqL.of (s3 _ _ (g _ _ J))),hD,?_, λc u h=> ?_, ?_, ?_⟩
     ·have:=G.len
      rw[r_W,s_i];exact s_c (m:=10000) (by omega) (by decide)
     ·rw[a_i (a_h h R)]
      exact s3 _ _ h
     ·rw[a_i q]
      exact hc
     ·rw[s_n,hb,r_4,r_W,X]
      rfl
  ·rintro ys H3 hD ⟨s3,hc,rfl⟩
   have W:((bas.take B₁.length).map V.ref).length=B₁.length:=by rw[r_W,s_i];omega
   rw[W] at hD;have eT:B.take B₁.length=B₁:=by rw[eB];exact (g_d rfl).1
   rw[eT] at hD;have d:Same H H3:=g.trans s3;refine⟨D,B₁.map λb=>(b.length:Int),rfl,SqL.of (by rw[List.map_map];exact hD),?_⟩
   have esum:(B₁.map λb=>(b.length:Int)).sum=(((B₁.map List.length).sum:Nat):Int):=by
    rw[<-g_a,List.map_map];rfl
   rw[esum];refine⟨_,rfl,_,rfl,o,C,dx,_,_,rfl,d _ _ ho,T.cl,T.nB,a_A _ _,bl,_,rfl,.inl (SqL.of (d _ _ j)),_,_,rfl,rfl,_,rfl,?_⟩;have p:=G.srt;cases B₂ with
   | nil=>
     rw[s_t] at eB;subst eB;refine a_y (λc=> ?_) (λc=> ?_)
     ·have:=s_E c
      rw[r_W,l] at this;omega
     ·refine⟨_,rfl,?_⟩
      rw[<-d_T (P:=λx=>ltR w x ρ) (c_a (P:=λx=>ltR w x ρ) (b_W w (a_H w ρ)) p λc hc=>c_B (t c hc))];exact fin H3 d
   | cons b B₂=>
     subst eB;have z:=h_N p t (U b (r_0 ..)) (G.ne b (by simp));obtain⟨l₁,ab,l₂,rfl,N,r,a1⟩:=b_b n;obtain⟨as,a0,y⟩:=id r;have I:l₁.length=B₁.length:=Paired.length N;have gb:((l₁++ab::l₂).map V.ref)[B₁.length]? =some (V.ref ab):=by rw[r_8,<-I,c_9];rfl
     refine a_y (λc=> ?_) (λc=> ?_)
     ·refine⟨_,rfl,_,rfl,o,dx,_,rfl,d _ _ ho,a_Y _ _ (by decide+kernel) (by decide+kernel),_,rfl,o,C,dx,_,_,rfl,d _ _ ho,T.cl,T.nB,a_A _ _,_,rfl,bl,_,_,_,rfl,rfl,SqL.of (d _ _ j),a_e gb,_,rfl,w,o,bl,dx,ab,k,b,a_H w ρ,rfl,d _ _ ho,r.sameS d,s3 _ _ (s2 _ _ a_b),λρ'=>c_x w ρ' ρ,λH4 s4=> ?_⟩
      refine⟨_,_,rfl,rfl,_,rfl,?_⟩;have ec:=g_n (P:=λx=>ltR w x ρ) (b_W w (a_H w ρ)) p z.1 z.2;have:=fin H4 (d.trans s4);rw[ec] at this;exact this
     ·exact absurd (s_C (by rw[r_W];simp[I];omega)) c
def m_q (C:Addr):Sp:=λvs H Q _=>∃(w:Bool) (o bl:Addr) (bas:List Addr) (B:List (List Row)),vs= [.ref o]/\OrdAt C w H o bl bas B/\B.flatten.length < 10000/\∀(l:Addr) (H':Hp),H l=none->Same H H'->LstAt H' l B.flatten->Q (.ref l) H'
theorem j_U:a_s ["self","found","block"] ["self"] (a_m n_o):=⟨rfl,rfl,rfl,by decide+kernel,rfl,by decide+kernel,by decide+kernel⟩
theorem o_l {f C:Addr} {fd:FuncData} (F:Fun K "rows" "Order.rows" n_o f fd) (T:Txt K mg C):FnOk P w K mg base CX0 1 f fd ["self"] (m_q C):=by
 refine F.ok j_U (λvs H Q E h=> ?_) (λcdv A outer s H vs Q E hr h=> ?_)
 ·obtain⟨w,o,bl,bas,B,rfl,_⟩:=h
  rfl
 ·obtain⟨w,o,bl,bas,B,rfl,O,I,fin⟩:=h
  obtain⟨⟨dx,ho⟩,k,n,z⟩:=id O;have d:bas.length=B.length:=Paired.length n
  refine⟨_,a_c (a_w (i:=1) j_U.nd rfl (Or.inl rfl) (a_O a_d))
   (a_c (b_0 PassesOwn.never rfl (b_e (a_E (pv 0) rfl)) (a_9 (i:=2) j_U.nd rfl (Or.inl rfl))
     (a_f (a_z (b_y s_G PySem.F.slot_list_extend PySem.F.type_list_extend d_z (pv 1) (a_a (pv 2) a_d)))))
   (a_f (a_n (pv 1)))),?_⟩
  refine⟨by show 0<=sizeLine;decide,λl hl=> ?_⟩;have s1:Same H (upd H l (.lst [])):=Same.upd_new hl
  refine⟨_,rfl,o,C,dx,_,_,rfl,s1 _ _ ho,T.cl,T.nB,a_A _ _,bl,rfl,⟨_,SqL.of (s1 _ _ k)⟩,b_X (K:=K) (a:=bl) (xs:=bas.map V.ref)
   (λi σ H2=>∃v,σ= [some (.ref o),some (.ref l),v]/\Same H H2/\LstAt H2 l (B.take i).flatten) ⟨none,rfl,s1, [],a_b,.nil⟩ (λi σ H2 _ ⟨_,_,s2,_⟩=>SqL.of (s2 _ _ k)) ?_ ?_⟩
  ·rintro i x σ H2 hi ⟨v,rfl,s2,as,j,p⟩
   rw[r_8] at hi;cases e:bas[i]? with
   | none=>rw[e] at hi;cases hi
   | some ab=>
     rw[e] at hi;obtain rfl:V.ref ab=x:=r_3 hi;have t:i < B.length:=by rw[<-d];exact (s_a.mp e).1
     obtain⟨b,hb⟩:∃b,B[i]? =some b:=⟨_,r_X t⟩;obtain⟨ab',e',bs,g,r⟩:=a_T n hb;rw[e] at e';obtain rfl:ab=ab':=r_3 e';have G:l≠ab:=(a_h g hl).symm;have y:=p.len;have J:=r.len;have q1:=f_v (B:=B) (i+1);rw[s_n,hb,s_j] at q1;simp only[Option.toList_some,s_p,List.flatten_nil,s_t,r_Y] at q1;refine⟨_,rfl,.inl ⟨rfl,_,SqL.of j⟩,_,rfl,l,ab,_,_,rfl,rfl,j,s2 _ _ g,?_, ?_⟩
     ·rw[r_W,r_W]
      exact Nat.le_of_lt (s_c (m:=10001) (by omega) (by decide))
     ·refine⟨_,rfl,λc u hc=> ?_, as++bs,by rw[r_4];exact a_b,?_⟩
      ·rw[a_i (a_h hc hl)]
       exact s2 _ _ hc
      ·rw[s_n,hb,s_j]
       simp only[Option.toList_some,s_p,List.flatten_nil,s_t];exact (RowsAt.app p (r.same λb xs q=>s2 _ _ q)).same (NoTup.keep (NoTup.lst j))
  ·rintro σ H2 ⟨v,rfl,s2,h2⟩
   rw[r_W,d,s_g (r_5 _)] at h2;exact⟨_,rfl,fin l H2 hl s2 h2⟩
end
def btw (w:Bool) (lo hi:V) (x:Row):Bool:= !ltV (c_u w x) lo&& !ltV hi (c_u w x)
theorem o_Q {a b c:V} (h:ltV a b=true) (hbc:b_h b c=true) (h2:ltV c b=false):ltV a c=true:=by
 by_cases e:b=c
 ·rw[<-e];exact h
 ·have:b_h c b=true:=by
   cases b <;> cases c <;> first | rfl | cases hbc
  exact e_r h (g_1 this h2 (λq=>e q.symm))
theorem m_Q {w:Bool} {lo hi:V} {x:Row} {t:List Row} (hs:Srt (ltR w) (x::t)) (h:ltV hi (c_u w x)=true):(x::t).filter (btw w lo hi)= []:=by
 rw[List.filter_eq_nil_iff];intro y hy
 have:ltV hi (c_u w y)=true:=by
  rcases r_7.mp hy with e | e
  ·rw[e];exact h
  ·exact o_Q h (c_N w x y) (l_r ((s_A.mp hs).1 y e))
 simp[btw,this]
theorem n_z {w:Bool} {lo hi:V} {l:List Row} (h:∀x∈l,ltV (c_u w x) lo=true):l.filter (btw w lo hi)= []:=by
 rw[List.filter_eq_nil_iff];intro y hy;simp[btw,h y hy]
section
variable {P:Program} {w:World} {K:PySem.W.Frag} {mg:Str->Option Value} {base:Heap}
def k_j (C:Addr):Sp:=λvs H Q _=>∃(w:Bool) (o bl:Addr) (bas:List Addr) (B:List (List Row)) (lo hi:V),vs= [.ref o,lo,hi]/\OrdAt C w H o bl bas B/\(∀ρ,b_h (c_u w ρ) lo=true)/\(∀ρ,b_h (c_u w ρ) hi=true)/\GoodB w B/\B.flatten.length < 10000/\
 ∀(l:Addr) (H':Hp),H l=none->Same H H'->LstAt H' l (B.flatten.filter (btw w lo hi))->Q (.ref l) H'
theorem f_k:a_s ["self","low","high","found","place","row","lead"] ["self","low","high"] (a_m o_e):=⟨rfl,rfl,rfl,by decide+kernel,rfl,by decide+kernel,by decide+kernel⟩
theorem n_x {f fL fBA C:Addr} {fd fdL fdBA:FuncData} (F:Fun K "between" "Order.between" o_e f fd) (T:Txt K mg C) (gL:Gf K mg "lead_of" fL fdL ["word","row"]) (GL:FnOk P w K mg base CX0 1 fL fdL ["word","row"] j_B)
 (mBA:Mf K C "blocks_ahead" fBA fdBA ["self","key"]) (GBA:FnOk P w K mg base CX0 3 fBA fdBA ["self","key"] (o_2 C)):
 FnOk P w K mg base CX0 4 f fd ["self","low","high"] (k_j C):=by
 refine F.ok f_k (λvs H Q E h=> ?_) (λcdv A outer s H vs Q E hr h=> ?_)
 ·obtain⟨w,o,bl,bas,B,lo,hi,rfl,_⟩:=h
  rfl
 ·obtain⟨w,o,bl,bas,B,lo,hi,rfl,O,alo,ahi,G,a1,fin⟩:=h
  obtain⟨⟨dx,ho⟩,I,J,a3⟩:=id O;have W:Room 1 _:=hr.mono (by decide);have t:bas.length=B.length:=Paired.length J
  refine⟨_,a_c (a_w (i:=3) f_k.nd rfl (Or.inl rfl) (a_O a_d))
   (a_c (a_w (i:=4) f_k.nd rfl (Or.inl rfl) (a_Q (pv 0) T.cl mBA.m GBA hr mBA.b .nil a_v (a_a (a_G (a_a (pv 1) a_d)) a_d)))
   (a_c (d_x PassesOwn.never (a_l e_Z (pv 4) (a_t a_x (by rfl) T.len s_F (a_a (a_E (pv 0) rfl) a_d)) (a_q _))
     (a_c (b_0 PassesOwn.never rfl (b_e (a_r a_P (a_E (pv 0) rfl) (pv 4) (fun _ _=>rfl))) (a_9 (i:=5) f_k.nd rfl (Or.inl rfl))
       (a_c (a_w (i:=6) f_k.nd rfl (Or.inl rfl) (a_j GL W rfl gL.mg gL.kp gL.b .nil a_v (a_a (a_E (pv 0) rfl) (a_a (pv 5) a_d))))
       (a_c (a_C (a_l p_k (pv 6) (pv 2) (a_q _)) (a_f (a_n (pv 3))) a_p)
       (a_f (a_C (a_l o_C (pv 6) (pv 1) (a_q _)) (a_f (a_z (b_y s_G s_I s_H a_N (pv 3) (a_a (pv 5) a_d)))) a_p)))))
     (a_f (a_w (i:=4) f_k.nd rfl (Or.inl rfl) (a_u a_U (pv 4) a_g)))))
   (a_f (a_n (pv 3))))),?_⟩
  refine⟨by show 0<=sizeLine;decide,λl hl=> ?_⟩;have s1:Same H (upd H l (.lst [])):=Same.upd_new hl;refine⟨_,rfl,o,dx,_,rfl,s1 _ _ ho,a_Y _ _ (by decide+kernel) (by decide+kernel),_,rfl,by show 1<=sizeLine;decide,λk hk=> ?_⟩;have a4:l≠k:=a_h a_b hk;have s2:Same (upd H l (.lst [])) (upd (upd H l (.lst [])) k (.tup [lo])):=Same.upd_new hk;refine⟨w,o,bl,k,bas,B, [lo],rfl,(O.same s1).same s2,a_b,λρ=>⟨alo ρ,trivial⟩,G.srt,G.ne,λB₁ B₂ H2 s3 eB U a2=> ?_⟩;have X:Same H H2:=(s1.trans s2).trans s3;have a0:H2 l=some (.lst []):=s3 _ _ (s2 _ _ a_b)
  refine⟨λm σ H3=>∃(i:Nat) (v1 v2:Option V),σ= [some (.ref o),some lo,some hi,some (.ref l),some (.int i),v1,v2]/\Same H H3/\i<=B.length/\m=B.length - i/\LstAt H3 l ((B.take i).flatten.filter (btw w lo hi)),
   ⟨_,B₁.length,none,none,rfl,X,by rw[eB,r_Y];omega,rfl, [],a0,?_⟩,?_⟩
  ·have:B.take B₁.length=B₁:=by rw[eB];exact (g_d rfl).1
   rw[this];have hs:=G.srt;rw[eB,s_j,Srt.app] at hs;have ha:=c_a (P:=λy=>b_a (a_H w y) [lo]) (b_W w [lo]) hs.1 λc hc=>c_B (U c hc);rw[n_z λx hx=>by rw[<-l_0];exact ha x hx];exact .nil
  rintro m σ H3 ⟨i,v1,v2,rfl,s3,a5,rfl,hL⟩;refine⟨_,rfl,_,rfl,o,C,dx,_,_,rfl,s3 _ _ ho,T.cl,T.nB,a_A _ _,bl,_,rfl,.inl (SqL.of (s3 _ _ I)),_,_,rfl,rfl,_,rfl,?_⟩;refine a_y (λc=> ?_) (λc=> ?_)
  ·have n:i < B.length:=by
    have:=s_E c;rw[r_W,t] at this;omega
   obtain⟨b,hb⟩:∃b,B[i]? =some b:=⟨_,r_X n⟩;obtain⟨ab,e,bs,N,L⟩:=a_T J hb;obtain⟨C₁,C₂,eC,lC⟩:=d_7 hb;have gb:(bas.map V.ref)[i]? =some (V.ref ab):=by rw[r_8,e];rfl
   have eT:B.take i=C₁:=by rw[eC,<-lC];exact (g_d rfl).1
   have M:(B.take (i+1)).flatten=C₁.flatten++b:=by rw[s_n,hb,eT];simp
   refine⟨λσ' H'=>∃(v1 v2:Option V),σ'= [some (.ref o),some lo,some hi,some (.ref l),some (.int (i+1:Nat)),v1,v2]/\Same H H'/\LstAt H' l ((B.take (i+1)).flatten.filter (btw w lo hi)),?_, ?_⟩
   ·rintro σ' H' ⟨v1,v2,h1,h2,h3⟩
    exact⟨B.length - (i+1),by omega,i+1,v1,v2,h1,h2,n,rfl,h3⟩
   rw[eT] at hL;have v:=f_v (B:=B) (i+1);rw[M,r_Y] at v
   refine⟨_,rfl,o,C,dx,_,_,rfl,s3 _ _ ho,T.cl,T.nB,a_A _ _,_,rfl,bl,_,_,_,rfl,rfl,SqL.of (s3 _ _ I),a_e gb,ab,rfl,⟨_,SqL.of (s3 _ _ N)⟩,b_X (K:=K) (a:=ab) (xs:=bs.map V.ref)
    (λj σ H4=>∃(v1 v2:Option V),σ= [some (.ref o),some lo,some hi,some (.ref l),some (.int i),v1,v2]/\Same H H4/\LstAt H4 l ((C₁.flatten++b.take j).filter (btw w lo hi))) ⟨v1,v2,rfl,s3,by simpa using hL⟩ (λj σ H4 _ ⟨_,_,_,s4,_⟩=>SqL.of (s4 _ _ N)) ?_ ?_⟩
   ·rintro j x σ H4 hj ⟨u1,u2,rfl,s4,as,g,p⟩
    rw[r_8] at hj;cases ej:bs[j]? with
    | none=>rw[ej] at hj;cases hj
    | some r=>
      rw[ej] at hj;obtain rfl:V.ref r=x:=r_3 hj;obtain⟨ρ,hρ,R⟩:=L.get' ej;have Y:=p.len;refine⟨_,rfl,o,C,dx,_,_,rfl,s4 _ _ ho,T.cl,T.nW,b_O _ _,_,rfl,w,r,ρ,rfl,s4 _ _ R,?_⟩;refine⟨_,rfl,_,rfl,ahi ρ,_,rfl,?_⟩;refine a_y (λc1=> ?_) (λc1=> ?_)
      ·-- behind the last
       refine⟨_,rfl,fin l H4 hl s4 ⟨as,g,?_⟩⟩;have hs:=G.srt;obtain⟨b₁,b₂,eb,lb⟩:=d_7 hρ;have etb:b.take j=b₁:=by rw[eb,<-lb];exact (g_d rfl).1
       have eall:B.flatten=(C₁.flatten++b₁)++(ρ::(b₂++C₂.flatten)):=by rw[eC,eb];simp
       rw[eall,Srt.app] at hs;rw[eall,List.filter_append,m_Q hs.2.1 c1,s_t,<-etb];exact p
      ·refine⟨_,rfl,_,rfl,alo ρ,_,rfl,?_⟩
       have S:ltV hi (c_u w ρ)=false:=by simpa using c1
       have etb:b.take (j+1)=b.take j++ [ρ]:=by rw[s_n,hρ];rfl
       refine a_y (λc2=> ?_) (λc2=> ?_)
       ·refine⟨_,rfl,.inl ⟨rfl,_,SqL.of g⟩,_,rfl,l,_,_,rfl,rfl,g,?_, ?_⟩
        ·rw[r_W,Y]
         refine s_B (s_x _ _) ?_;rw[r_Y,s_i];exact s_c (m:=10000) (by omega) (by decide)
        ·refine⟨_,_,rfl,λd u hd=> ?_, as++ [r],by rw[r_4];exact a_b,?_⟩
         ·rw[a_i (a_h hd hl)]
          exact s4 _ _ hd
         ·have q:ltV (c_u w ρ) lo=false:=by simpa using c2
          rw[etb,<-List.append_assoc,List.filter_append,s_l];have:btw w lo hi ρ=true:=by simp[btw,S,q]
          rw[if_pos this];exact (RowsAt.app p (.cons (s4 _ _ R) .nil)).same (NoTup.keep (NoTup.lst g))
       ·refine⟨_,_,rfl,s4,as,g,?_⟩
        have q:ltV (c_u w ρ) lo=true:=by simpa using c2
        rw[etb,<-List.append_assoc,List.filter_append,s_l];have:¬ btw w lo hi ρ=true:=by simp[btw,q]
        rw[if_neg this];simpa using p
   ·rintro σ H4 ⟨u1,u2,rfl,s4,h4⟩
    have Z:=L.len;rw[r_W,Z,s_g (r_5 _)] at h4;refine⟨_,rfl,_,_,rfl,rfl,_,_,rfl,s4,?_⟩;rw[M];exact h4
  ·have n:i=B.length:=by
    have:¬ ((i:Int) < _):=λz=>c (s_C z);rw[r_W,t] at this;omega
   refine⟨_,rfl,fin l H3 hl s3 ?_⟩;rw[n,s_g (r_5 _)] at hL;exact hL
def m_o (C:Addr):Sp:=λvs H Q _=>∃(w:Bool) (p dx:Addr),vs= [.ref p,.str (e_n w)]/\H p=some (.ins C dx [])/\∀(bl:Addr) (H':Hp),H bl=none->OrdAt C w H' p bl [] []->(∀b u,H b=some u->b≠p->H' b=some u)->Q .non H'
theorem p_y:a_s ["self","word"] ["self","word"] (a_m m_8):=⟨rfl,rfl,rfl,by decide+kernel,rfl,by decide+kernel,by decide+kernel⟩
theorem m_U {f fCW C:Addr} {fd fdCW:FuncData} (F:Fun K "__init__" "Order.__init__" m_8 f fd) (T:Txt K mg C) (gCW:Gf K mg "check_word" fCW fdCW ["word"]) (GCW:FnOk P w K mg base CX0 1 fCW fdCW ["word"] r_j):FnOk P w K mg base CX0 2 f fd ["self","word"] (m_o C):=by
 refine F.ok p_y (λvs H Q E h=> ?_) (λcdv A outer s H vs Q E hr h=> ?_)
 ·obtain⟨w,p,dx,rfl,_⟩:=h
  rfl
 ·obtain⟨w,p,dx,rfl,hp,fin⟩:=h
  refine⟨_,a_c (a_z (a_j GCW hr rfl gCW.mg gCW.kp gCW.b .nil a_v (a_a (pv 1) a_d)))
   (a_c (d_p (pv 0) (pv 1) rfl) (a_f (d_p (pv 0) (a_O a_d) rfl))),?_⟩
  refine⟨_,rfl,w,rfl,?_⟩;refine⟨_,rfl,_,rfl,p,C,dx,_,rfl,hp,T.cl,T.nW,(by show 0 < 1000;decide),?_⟩;refine⟨by show 0<=sizeLine;decide,λbl a=> ?_⟩;have n1:p≠bl:=a_h a_b a;have c:H bl=none:=by rw[a_i n1.symm] at a;exact a
  refine⟨_,rfl,p,C,dx,_,rfl,(by rw[a_i n1];exact a_b),T.cl,T.nB,(by show 1 < 1000;decide),?_⟩;refine fin bl _ c ⟨⟨dx,a_b⟩,by rw[a_i n1.symm];exact a_b,.nil,by simp⟩ λb u hb hn=> ?_;rw[a_i hn,a_i (a_h hb c),a_i hn];exact hb
end
end K1
namespace TO
open PySem L2
inductive D where
 | int (i:Int)
 | str (x:Str)
 | lst (ds:List D)
 | tup (ds:List D)
mutual
inductive Bears (H:Hp):D->V->Prop
 | int (i:Int):Bears H (.int i) (.int i)
 | str (x:Str):Bears H (.str x) (.str x)
 | lst {a:Addr} {ds:List D} {vs:List V}:H a=some (.lst vs)->BearsL H ds vs->Bears H (.lst ds) (.ref a)
 | tup {a:Addr} {ds:List D} {vs:List V}:H a=some (.tup vs)->BearsL H ds vs->Bears H (.tup ds) (.ref a)
inductive BearsL (H:Hp):List D->List V->Prop
 | nil:BearsL H [] []
 | cons {d:D} {v:V} {ds:List D} {vs:List V}:Bears H d v->BearsL H ds vs->BearsL H (d::ds) (v::vs)
end
mutual
def D.wt:D->Nat
 | .int _=>1
 | .str _=>1
 | .lst ds=>1+D.wts ds
 | .tup ds=>1+D.wts ds
def D.wts:List D->Nat
 | []=>0
 | d::r=>D.wt d+D.wts r
end
theorem D.wt_pos:∀d:D,1<=d.wt
 | .int _=>r_5 _
 | .str _=>r_5 _
 | .lst ds=>by simp only[D.wt];omega
 | .tup ds=>by simp only[D.wt];omega
theorem D.wts_app:∀a b:List D,D.wts (a++b)=D.wts a+D.wts b
 | [],b=>by simp[D.wts]
 | d::r,b=>by simp only[List.cons_append,D.wts,D.wts_app r b];omega
theorem D.wts_len:∀a:List D,a.length<=D.wts a
 | []=>s_o _
 | d::r=>by
   have h1:=D.wt_pos d;have h2:=D.wts_len r;simp only[r_2,D.wts];omega
theorem BearsL.len {H:Hp}:∀{ds:List D} {vs:List V},BearsL H ds vs->ds.length=vs.length
 | _,_,.nil=>rfl
 | _,_,.cons _ t=>by simp[BearsL.len t]
theorem BearsL.app {H:Hp}:∀{ds es:List D} {vs us:List V},BearsL H ds vs->BearsL H es us->BearsL H (ds++es) (vs++us)
 | _,_,_,_,.nil,h=>h
 | _,_,_,_,.cons a t,h=> .cons a (BearsL.app t h)
theorem BearsL.snoc {H:Hp}:∀{ds:List D} {d:D} {vs:List V},BearsL H (ds++ [d]) vs->∃us v,vs=us++ [v]/\BearsL H ds us/\Bears H d v
 | [],d,_,.cons h .nil=>⟨[],_,rfl,.nil,h⟩
 | e::ds,d,_,.cons h t=>by
   obtain⟨us,v,rfl,h1,h2⟩:=BearsL.snoc (ds:=ds) t;exact⟨_::us,v,rfl,.cons h h1,h2⟩
def j_i (ρ:Row):D:= .tup [.int ρ.n,.int ρ.r,.str ρ.t]
theorem RowAt.bears {H:Hp} {a:Addr} {ρ:Row} (h:RowAt H a ρ):Bears H (j_i ρ) (.ref a):= .tup h (.cons (.int _) (.cons (.int _) (.cons (.str _) .nil)))
theorem RowsAt.bears {H:Hp}:∀{as:List Addr} {ρs:List Row},RowsAt H as ρs->BearsL H (ρs.map j_i) (as.map .ref)
 | _,_,.nil=> .nil
 | _,_,.cons h t=> .cons (RowAt.bears h) (RowsAt.bears t)
theorem LstAt.bears {H:Hp} {l:Addr} {ρs:List Row} (h:LstAt H l ρs):Bears H (.lst (ρs.map j_i)) (.ref l):=by
 obtain⟨as,h1,h2⟩:=h;exact .lst h1 (RowsAt.bears h2)
theorem j_p:∀ρs:List Row,D.wts (ρs.map j_i)=4 * ρs.length
 | []=>rfl
 | ρ::r=>by simp only[s_b,D.wts,j_p r,j_i,D.wt,r_2];omega
end TO
namespace K1
open PySem L2 TO
structure Bt (mg:Str->Option Value):Prop where
 len:mg "len"=none
 min:mg "min"=none
 isi:mg "isinstance"=none
 int:mg "int"=none
 bool:mg "bool"=none
 list:mg "list"=none
 tuple:mg "tuple"=none
 str:mg "str"=none
 sorted:mg "sorted"=none
 range:mg "range"=none
theorem b_I {X:Cx} {x:Str} {n:String} {pos:Pos} (hm:X.mg x=none) (hv:bootBuiltins x=some (.type n)) (hg:Gl X x:=by rfl) (hn:x≠"__name__":=by decide) (hd:(x == ("__debug__":Str))=false:=by decide):PE X (.Name x pos) (tC (.ty n)):=o_p hg hm hv rfl hn hd
theorem g_J:bootBuiltins "int"=some (.type "int"):=by decide+kernel
theorem p_u:bootBuiltins "bool"=some (.type "bool"):=by decide+kernel
theorem e_v:bootBuiltins "list"=some (.type "list"):=by decide+kernel
theorem e_y:bootBuiltins "tuple"=some (.type "tuple"):=by decide+kernel
theorem m_Z:bootBuiltins "str"=some (.type "str"):=by decide+kernel
theorem d_a:bootBuiltins "isinstance"=some (.builtin "isinstance"):=by decide+kernel
section
variable {P:Program} {w:World} {K:PySem.W.Frag} {mg:Str->Option Value} {base:Heap}
def h_q:Sp:=λvs H Q _=>∃i,vs= [.int i]/\Q (.bl true) H
theorem o_f:a_s ["_law_found"] ["_law_found"] (a_m k_i):=⟨rfl,rfl,rfl,by decide+kernel,rfl,by decide+kernel,by decide+kernel⟩
theorem l_J {f:Addr} {fd:FuncData} (F:Fun K "_law_whole" "_law_whole" k_i f fd) (B:Bt mg):FnOk P w K mg base CX0 1 f fd ["_law_found"] h_q:=by
 refine F.ok o_f (λvs H Q E h=> ?_) (λcdv A outer s H vs Q E hr h=> ?_)
 ·obtain⟨i,rfl,_⟩:=h
  rfl
 ·obtain⟨i,rfl,k⟩:=h
  refine⟨_,a_f (a_n (k_R (a_t b_k (by rfl) B.isi d_a (a_a (pv 0) (a_a (b_I B.int g_J) a_d))) (k_h (o_7 (a_t b_k (by rfl) B.isi d_a (a_a (pv 0) (a_a (b_I B.bool p_u) a_d))))))),?_⟩;refine⟨_,rfl,_,_,_,_,rfl,.int i,rfl,_,rfl,?_⟩;exact⟨_,rfl,_,_,_,_,rfl,.int i,rfl,_,rfl,k⟩
theorem r_K:a_s ["_law_script","_law_k"] ["_law_script","_law_k"] (a_m sAt):=⟨rfl,rfl,rfl,by decide+kernel,rfl,by decide+kernel,by decide+kernel⟩
theorem k_G {α:Type} (us:List α) (v:α):(us++ [v])[(us++ [v]).length - 1]? =some v:=by simp
def m_u:Sp:=λvs H Q _=>∃(t:D) (f d:V),vs= [f,d]/\Bears H t f/\Bears H t d/\t.wt < 100000/\∀H',Same H H'->Q (.bl true) H'
theorem g_q:a_s ["_law_found","_law_due","_law_left","_law_right","_law_one","_law_two"] ["_law_found","_law_due"] (a_m n_2):=⟨rfl,rfl,rfl,by decide+kernel,rfl,by decide+kernel,by decide+kernel⟩
theorem m_W {f fW:Addr} {fd fdW:FuncData} (F:Fun K "_law_same" "_law_same" n_2 f fd) (B:Bt mg) (gW:Gf K mg "_law_whole" fW fdW ["_law_found"]) (GW:FnOk P w K mg base CX0 1 fW fdW ["_law_found"] h_q):
 FnOk P w K mg base CX0 2 f fd ["_law_found","_law_due"] m_u:=by
 refine F.ok g_q (λvs H Q E h=> ?_) (λcdv A outer s H vs Q E hr h=> ?_)
 ·obtain⟨t,f,d,rfl,_⟩:=h
  rfl
 ·obtain⟨t,x,y,rfl,hx,hy,hw,fin⟩:=h
  refine⟨_,a_c (a_w (i:=2) g_q.nd rfl (Or.inl rfl) (a_O (a_a (pv 0) a_d)))
   (a_c (a_w (i:=3) g_q.nd rfl (Or.inl rfl) (a_O (a_a (pv 1) a_d)))
   (a_c (d_x PassesOwn.never (a_l (l_S hr.units0) (pv 3) (a_O a_d) (a_q _))
     (a_c (a_w (i:=4) g_q.nd rfl (Or.inl rfl) (e_u s_G PySem.F.slot_list_pop PySem.F.type_list_pop g_e (pv 2)))
     (a_c (a_w (i:=5) g_q.nd rfl (Or.inl rfl) (e_u s_G PySem.F.slot_list_pop PySem.F.type_list_pop g_e (pv 3)))
     (a_f (a_C (b_r (a_t k_a (by rfl) B.isi d_a (a_a (pv 5) (a_a (a_G (a_a (b_I B.list e_v) (a_a (b_I B.tuple e_y) a_d))) a_d))))
       (a_c (a_C (a_l d_e (a_t b_k (by rfl) B.isi d_a (a_a (pv 4) (a_a (b_I B.list e_v) a_d))) (a_t b_k (by rfl) B.isi d_a (a_a (pv 5) (a_a (b_I B.list e_v) a_d))) (a_q _)) (a_f (a_n d_m)) a_p)
       (a_c (a_C (PW.pt (c_G (a_l d_e (a_t b_k (by rfl) B.isi d_a (a_a (pv 4) (a_a (b_I B.tuple e_y) a_d))) (a_t b_k (by rfl) B.isi d_a (a_a (pv 5) (a_a (b_I B.tuple e_y) a_d))) (a_q _))
         (b_J (a_l d_e (a_t a_x (by rfl) B.len s_F (a_a (pv 4) a_d)) (a_t a_x (by rfl) B.len s_F (a_a (pv 5) a_d)) (a_q _))))) (a_f (a_n d_m)) a_p)
       (a_c (a_z (b_y s_G PySem.F.slot_list_extend PySem.F.type_list_extend (MtR.or d_z f_h) (pv 2) (a_a (pv 4) a_d)))
       (a_f (a_z (b_y s_G PySem.F.slot_list_extend PySem.F.type_list_extend (MtR.or d_z f_h) (pv 3) (a_a (pv 5) a_d)))))))
       (a_f (a_C (b_r (a_t b_k (by rfl) B.isi d_a (a_a (pv 5) (a_a (b_I B.str m_Z) a_d))))
         (a_f (a_C (PW.pt (c_G (b_Y (b_r (a_t b_k (by rfl) B.isi d_a (a_a (pv 4) (a_a (b_I B.str m_Z) a_d))))) (b_J (a_l d_e (pv 4) (pv 5) (a_q _))))) (a_f (a_n d_m)) a_p))
         (a_f (a_C (PW.pt (c_G (b_Y (b_r (a_j GW hr rfl gW.mg gW.kp gW.b .nil a_v (a_a (pv 4) a_d)))) (b_J (a_l d_e (pv 4) (pv 5) (a_q _))))) (a_f (a_n d_m)) a_p)))))))))
   (a_f (a_n d_m)))),?_⟩
  refine⟨_,rfl,by show 1<=sizeLine;decide,λl hl=> ?_⟩;refine⟨_,rfl,by show 1<=sizeLine;decide,λr M=> ?_⟩;have o:l≠r:=a_h a_b M;have G:H r=none:=by rw[a_i o.symm] at M;exact M
  refine⟨λm σ H2=>∃(ts:List D) (ls rs:List V) (v1 v2:Option V),σ= [some x,some y,some (.ref l),some (.ref r),v1,v2]/\Same H H2/\H2 l=some (.lst ls)/\H2 r=some (.lst rs)/\BearsL H ts ls/\BearsL H ts rs/\m=D.wts ts/\D.wts ts < 100000,
   ⟨_, [t], [x], [y],none,none,rfl,(Same.upd_new hl).trans (Same.upd_new M),by rw[a_i o];exact a_b,a_b,.cons hx .nil,.cons hy .nil,rfl,by simp only[D.wts];omega⟩,?_⟩
  rintro m σ H2 ⟨ts,ls,rs,v1,v2,rfl,s2,S,J,b1,b2,rfl,T⟩;refine⟨_,rfl,by show 0<=sizeLine;decide,λn hn=> ?_⟩;have s3:Same H2 (upd H2 n (.lst [])):=Same.upd_new hn;refine⟨r,n,rs,rfl,rfl,SqL.of (s3 _ _ J),a_b,_,rfl,?_⟩;rcases List.eq_nil_or_concat ts with e | ⟨ts',t',e⟩
  ·subst e
   cases b2;exact fin _ (s2.trans s3)
  ·rw[List.concat_eq_append] at e
   subst e;obtain⟨ls',one,rfl,c1,c2⟩:=b1.snoc;obtain⟨rs',two,rfl,d1,d2⟩:=b2.snoc;have X:(!(rs'++ [two]).isEmpty)=true:=by simp
   rw[show (if true=true then !(rs'++ [two]).isEmpty else (rs'++ [two]).isEmpty)=true from X];refine k_X ?_;have a3:l≠n:=a_h S hn;have a6:r≠n:=a_h J hn;rw[D.wts_app] at T;have v:D.wts [t']=t'.wt:=by simp[D.wts]
   rw[v] at T;have a4:=t'.wt_pos
   -- what a turn has to reach
   refine⟨λσ' H'=>∃(ts:List D) (ls rs:List V) (v1 v2:Option V),σ'= [some x,some y,some (.ref l),some (.ref r),v1,v2]/\Same H H'/\H' l=some (.lst ls)/\H' r=some (.lst rs)/\BearsL H ts ls/\BearsL H ts rs/\D.wts ts < D.wts (ts'++ [t']),?_, ?_⟩
   ·rintro σ' H' ⟨us,ls,rs,v1,v2,e1,e2,e3,e4,e5,e6,e7⟩
    have:=e7;rw[D.wts_app,v] at this;exact⟨D.wts us,e7,us,ls,rs,v1,v2,e1,e2,e3,e4,e5,e6,rfl,by omega⟩
   refine⟨_,rfl,.inl ⟨rfl,_,SqL.of (s3 _ _ S)⟩,l,_,_,rfl,rfl,s3 _ _ S,k_G _ _,?_⟩;rw[List.dropLast_concat];refine⟨_,rfl,.inl ⟨rfl,_,SqL.of (by rw[a_i o.symm];exact s3 _ _ J)⟩,r,_,_,rfl,rfl,(by rw[a_i o.symm];exact s3 _ _ J),k_G _ _,?_⟩;rw[List.dropLast_concat];generalize R:upd (upd (upd H2 n (.lst [])) l (.lst ls')) r (.lst rs')=H4
   have s4:Same H H4:=λb u hb=>by
    rw[<-R,a_i (a_h hb G),a_i (a_h hb hl)];exact s3 _ _ (s2 _ _ hb)
   have U:H4 l=some (.lst ls'):=by rw[<-R,a_i o];exact a_b
   have Z:H4 r=some (.lst rs'):=by rw[<-R];exact a_b
   have a5:ls'.length < 100000:=by have:=D.wts_len ts';rw[<-c1.len];omega
   have a0:rs'.length < 100000:=by have:=D.wts_len ts';rw[<-d1.len];omega
   refine⟨_,rfl,by show 2<=sizeLine;decide,λk hk=> ?_⟩;have s5:Same H4 (upd H4 k (.tup [.ty "list",.ty "tuple"])):=Same.upd_new hk;generalize W:upd H4 k (.tup [.ty "list",.ty "tuple"])=H5 at s5;have N:H5 k=some (.tup [.ty "list",.ty "tuple"]):=by rw[<-W];exact a_b
   have g:Same H H5:=s4.trans s5;have q:=s5 _ _ U;have L:=s5 _ _ Z;cases c2 with
   | int i=>
     cases d2;refine⟨_,k, ["list","tuple"],"int",false,rfl,.int i,.inl rfl,N,rfl,_,rfl,?_⟩;refine⟨_,rfl,_,_,_,_,rfl,.int i,rfl,_,rfl,?_⟩;refine⟨_,rfl,i,rfl,_,rfl,?_⟩;refine⟨_,rfl,_,rfl,rfl,_,rfl,?_⟩;refine a_y (λc=>absurd c (by simp)) (λc=> ?_);exact⟨ts',ls',rs',_,_,rfl,g,q,L,c1,d1,by rw[D.wts_app,v];omega⟩
   | str z=>
     cases d2;refine⟨_,k, ["list","tuple"],"str",false,rfl,.str z,.inr (.inl rfl),N,rfl,_,rfl,?_⟩;refine⟨_,rfl,_,_,_,_,rfl,.str z,rfl,_,rfl,?_⟩;refine⟨_,rfl,_,_,_,_,rfl,.str z,rfl,_,rfl,?_⟩;refine⟨_,rfl,_,rfl,rfl,_,rfl,?_⟩;refine a_y (λc=>absurd c (by simp)) (λc=> ?_);exact⟨ts',ls',rs',_,_,rfl,g,q,L,c1,d1,by rw[D.wts_app,v];omega⟩
   | @lst a1 ds vs1 ha1 hv1=>
     cases d2 with
     | @lst a2 _ p j C=>
     have e1:=hv1.len;have e2:=C.len;have O:(D.lst ds).wt=1+D.wts ds:=rfl;have Y:=D.wts_len ds;have n1:a1≠l:=a_h ha1 hl;have n2:a2≠l:=a_h j hl;have n3:a1≠r:=a_h ha1 G;refine⟨_,k, ["list","tuple"],"list",true,rfl,.lst (g _ _ j),.inr (.inr (.inl rfl)),N,rfl,_,rfl,?_⟩;refine⟨_,rfl,_,_,_,_,rfl,.lst (g _ _ ha1),rfl,_,rfl,_,_,_,_,rfl,.lst (g _ _ j),rfl,rfl,_,rfl,?_⟩;refine a_y (λc=>absurd c (by simp)) (λ_=> ?_);refine⟨_,rfl,_,_,_,_,rfl,.lst (g _ _ ha1),rfl,_,rfl,_,_,_,_,rfl,.lst (g _ _ j),rfl,rfl,_,rfl,?_⟩;refine a_y (λc=>absurd c (by simp)) (λ_=> ?_);refine⟨_,rfl,a1,_,rfl,.inl (SqL.of (g _ _ ha1)),_,rfl,a2,_,rfl,.inl (SqL.of (g _ _ j)),rfl,_,rfl,?_⟩;refine a_y (λc=>absurd c (by simp[<-e1,<-e2])) (λ_=> ?_);have z1:ls'.length+vs1.length<=sizeLine:=s_h (m:=200000) (by omega) (by decide);have z2:rs'.length+p.length<=sizeLine:=s_h (m:=200000) (by omega) (by decide);refine⟨_,rfl,.inl ⟨rfl,_,SqL.of q⟩,_,rfl,.inl ⟨l,a1,ls',vs1,rfl,rfl,q,g _ _ ha1,z1,?_⟩⟩;have I:(upd H5 l (.lst (ls'++vs1))) r=some (.lst rs'):=by rw[a_i o.symm];exact L
     refine⟨_,rfl,.inl ⟨rfl,_,SqL.of I⟩,_,rfl,.inl ⟨r,a2,rs',p,rfl,rfl,I,by rw[a_i n2];exact g _ _ j,z2,?_⟩⟩;refine⟨ts'++ds,ls'++vs1,rs'++p,_,_,rfl,λb u hb=> ?_, by rw[a_i o];exact a_b,a_b,c1.app hv1,d1.app C,?_⟩
     ·rw[a_i (a_h hb G),a_i (a_h hb hl)]
      exact g _ _ hb
     ·rw[D.wts_app,D.wts_app,v,O]
      omega
   | @tup a1 ds vs1 ha1 hv1=>
     cases d2 with
     | @tup a2 _ p j C=>
     have e1:=hv1.len;have e2:=C.len;have O:(D.tup ds).wt=1+D.wts ds:=rfl;have Y:=D.wts_len ds;have n1:a1≠l:=a_h ha1 hl;have n2:a2≠l:=a_h j hl;have n3:a1≠r:=a_h ha1 G;refine⟨_,k, ["list","tuple"],"tuple",true,rfl,.tup (g _ _ j),.inr (.inr (.inr rfl)),N,rfl,_,rfl,?_⟩;refine⟨_,rfl,_,_,_,_,rfl,.tup (g _ _ ha1),rfl,_,rfl,_,_,_,_,rfl,.tup (g _ _ j),rfl,rfl,_,rfl,?_⟩;refine a_y (λc=>absurd c (by simp)) (λ_=> ?_);refine⟨_,rfl,_,_,_,_,rfl,.tup (g _ _ ha1),rfl,_,rfl,_,_,_,_,rfl,.tup (g _ _ j),rfl,rfl,_,rfl,?_⟩;refine a_y (λc=>absurd c (by simp)) (λ_=> ?_);refine⟨_,rfl,a1,_,rfl,.inr (SqT.of (g _ _ ha1)),_,rfl,a2,_,rfl,.inr (SqT.of (g _ _ j)),rfl,_,rfl,?_⟩;refine a_y (λc=>absurd c (by simp[<-e1,<-e2])) (λ_=> ?_);have z1:ls'.length+vs1.length<=sizeLine:=s_h (m:=200000) (by omega) (by decide);have z2:rs'.length+p.length<=sizeLine:=s_h (m:=200000) (by omega) (by decide);refine⟨_,rfl,.inl ⟨rfl,_,SqL.of q⟩,_,rfl,.inr ⟨l,a1,ls',vs1,rfl,rfl,q,g _ _ ha1,z1,?_⟩⟩;have I:(upd H5 l (.lst (ls'++vs1))) r=some (.lst rs'):=by rw[a_i o.symm];exact L
     refine⟨_,rfl,.inl ⟨rfl,_,SqL.of I⟩,_,rfl,.inr ⟨r,a2,rs',p,rfl,rfl,I,by rw[a_i n2];exact g _ _ j,z2,?_⟩⟩;refine⟨ts'++ds,ls'++vs1,rs'++p,_,_,rfl,λb u hb=> ?_, by rw[a_i o];exact a_b,a_b,c1.app hv1,d1.app C,?_⟩
     ·rw[a_i (a_h hb G),a_i (a_h hb hl)]
      exact g _ _ hb
     ·rw[D.wts_app,D.wts_app,v,O]
      omega
end
def o_t:List Str:= ["","a","ab","b","B","~"]
theorem k_T:∀{i:Nat} {t:Str},o_t[i]? =some t->t.length<=2
 | 0,t,h=>by obtain rfl:=r_3 h;decide
 | 1,t,h=>by obtain rfl:=r_3 h;decide
 | 2,t,h=>by obtain rfl:=r_3 h;decide
 | 3,t,h=>by obtain rfl:=r_3 h;decide
 | 4,t,h=>by obtain rfl:=r_3 h;decide
 | 5,t,h=>by obtain rfl:=r_3 h;decide
 | n+6,t,h=>by simp[o_t] at h
theorem h_9 (z:Int):∃t:Str,atI (o_t.map V.str) (z % 6)=some (.str t)/\t.length<=2:=by
 have h1:=Int.emod_nonneg z (show (6:Int)≠0 by decide);have h2:=Int.emod_lt_of_pos z (show (0:Int) < 6 by decide);obtain⟨j,hj⟩:∃j:Nat,z % 6=(j:Int):=⟨(z % 6).toNat,by omega⟩;have a:j < o_t.length:=by show _ < 6;omega
 refine⟨o_t[j],?_, k_T (r_X a)⟩;rw[hj];refine a_e ?_;rw[r_8,r_X a];rfl
def i1 (b:Bool):Int:=if b=true then 1 else 0
theorem h_Y (b:Bool): -(2 ^ 64) < i1 b/\i1 b < 2 ^ 64:=by cases b <;> decide
def far (n:Int):Int:=if n=25 then 10 ^ 20 else if n=24 then 0 - 10 ^ 20 else n
def e_6 (s:Int):Int:=1000 * (s / 7 % 10 ^ 27) * i1 (decide (V.int (s % 3)=V.int 1))
def b_x (n s:Int):Int:=n+e_6 s * i1 (decide (9 < n))
theorem p_P (n:Int):atI [V.int n,V.int (10 ^ (20:Int).toNat),V.int (0 - 10 ^ (20:Int).toNat)] (i1 (decide (V.int n=V.int 25))+2 * i1 (decide (V.int n=V.int 24)))=some (V.int (far n)):=by
 unfold far;by_cases h1:n=25
 ·subst h1
  exact a_e (j:=1) rfl
 ·by_cases h2:n=24
  ·subst h2
   exact a_e (j:=2) rfl
  ·have e1:decide (V.int n=V.int 25)=false:=s_D λq=>h1 (by injection q)
   have e2:decide (V.int n=V.int 24)=false:=s_D λq=>h2 (by injection q);rw[e1,e2,if_neg h1,if_neg h2];exact a_e (j:=0) rfl
section
variable {P:Program} {w:World} {K:PySem.W.Frag} {mg:Str->Option Value} {base:Heap}
def h_z:Sp:=λvs H Q _=>vs= []/\∀(l:Addr) (H':Hp),H l=none->Same H H'->H' l=some (.lst (o_t.map V.str))->Q (.ref l) H'
theorem n_7:a_s [] [] (a_m j_m):=⟨rfl,rfl,rfl,by decide+kernel,rfl,by decide+kernel,by decide+kernel⟩
theorem k_Z {f:Addr} {fd:FuncData} (F:Fun K "_law_texts" "_law_texts" j_m f fd):FnOk P w K mg base CX0 1 f fd [] h_z:=by
 refine F.ok n_7 (λvs H Q E h=> ?_) (λcdv A outer s H vs Q E hr h=> ?_)
 ·obtain⟨rfl,_⟩:=h
  rfl
 ·obtain⟨rfl,k⟩:=h
  refine⟨_,a_f (a_n (a_O (a_a a_k (a_a a_k (a_a a_k (a_a a_k (a_a a_k (a_a a_k a_d)))))))),?_⟩;exact⟨by show 6<=sizeLine;decide,λl hl=>k l _ hl (Same.upd_new hl) a_b⟩
def g_5:Sp:=λvs H Q _=>∃(n c:Int),vs= [.int n,.int c]/\∀(a:Addr) (ρ:Row) (H':Hp),H a=none->Same H H'->RowAt H' a ρ->ρ.n=n->ρ.t.length<=2->Q (.ref a) H'
theorem g_6:a_s ["_law_number","_law_cell","_law_rank"] ["_law_number","_law_cell"] (a_m k_d):=⟨rfl,rfl,rfl,by decide+kernel,rfl,by decide+kernel,by decide+kernel⟩
theorem l_f {f fT:Addr} {fd fdT:FuncData} (F:Fun K "_law_drawn_row" "_law_drawn_row" k_d f fd) (gT:Gf K mg "_law_texts" fT fdT []) (GT:FnOk P w K mg base CX0 1 fT fdT [] h_z):FnOk P w K mg base CX0 2 f fd ["_law_number","_law_cell"] g_5:=by
 refine F.ok g_6 (λvs H Q E h=> ?_) (λcdv A outer s H vs Q E hr h=> ?_)
 ·obtain⟨n,c,rfl,_⟩:=h
  rfl
 ·obtain⟨n,c,rfl,k⟩:=h
  refine⟨_,a_c (a_w (i:=2) g_6.nd rfl (Or.inl rfl) (a_u b_T (a_u a_S (pv 1) a_g) a_g))
   (a_c (a_C (a_l a_I (pv 2) a_g (a_q _)) (a_f (a_w (i:=2) g_6.nd rfl (Or.inl rfl) a_g)) a_p)
   (a_f (a_n (a_G (a_a (pv 0) (a_a (pv 2) (a_a (a_r a_P (d_o GT hr rfl gT.mg gT.kp gT.b .nil a_v) (a_u a_S (a_u a_1 (pv 1) a_g) a_g) (λ_ _=>rfl)) a_d))))))),?_⟩
  obtain⟨t,ht,e⟩:=h_9 (c / 8);refine⟨_,rfl,_,_,rfl,rfl,(show (0:Int) < 8 by decide),_,_,rfl,rfl,_,rfl,rfl,_,rfl,?_⟩;refine a_y (λq=> ?_) (λq=> ?_)
  ·refine⟨_,rfl,_,rfl,rfl,λl H1 hl s1 d=>⟨_,rfl,_,_,rfl,rfl,⟨by decide,by decide⟩,_,_,rfl,rfl,(show (0:Int) < 6 by decide),l,_,_,_,rfl,rfl,SqL.of d,ht,by show 3<=sizeLine;decide,λa ha=> ?_⟩⟩
   exact k a ⟨n,1000000000000,t⟩ _ (s1.free ha) (s1.trans (Same.upd_new ha)) a_b rfl e
  ·refine⟨_,rfl,_,rfl,rfl,λl H1 hl s1 d=>⟨_,rfl,_,_,rfl,rfl,⟨by decide,by decide⟩,_,_,rfl,rfl,(show (0:Int) < 6 by decide),l,_,_,_,rfl,rfl,SqL.of d,ht,by show 3<=sizeLine;decide,λa ha=> ?_⟩⟩
   exact k a ⟨n,c % 8 - 3,t⟩ _ (s1.free ha) (s1.trans (Same.upd_new ha)) a_b rfl e
def j_T:Sp:=λvs H Q _=>∃n,vs= [.int n]/\∀H',Same H H'->Q (.int (far n)) H'
theorem q_g:a_s ["_law_number"] ["_law_number"] (a_m p_1):=⟨rfl,rfl,rfl,by decide+kernel,rfl,by decide+kernel,by decide+kernel⟩
theorem p_A {f:Addr} {fd:FuncData} (F:Fun K "_law_far" "_law_far" p_1 f fd) (B:Bt mg):FnOk P w K mg base CX0 1 f fd ["_law_number"] j_T:=by
 refine F.ok q_g (λvs H Q E h=> ?_) (λcdv A outer s H vs Q E hr h=> ?_)
 ·obtain⟨n,rfl,_⟩:=h
  rfl
 ·obtain⟨n,rfl,k⟩:=h
  refine⟨_,a_f (a_n (a_r a_P (a_O (a_a (pv 0) (a_a (a_u h_J a_g a_g) (a_a (a_u b_T a_g (a_u h_J a_g a_g)) a_d))))
   (a_u a_U (b_F b_S (by rfl) B.int g_J (a_a (c_n a_I (pv 0) a_g (a_q _)) a_d)) (a_u b_H a_g (b_F b_S (by rfl) B.int g_J (a_a (c_n a_I (pv 0) a_g (a_q _)) a_d)))) (λ_ _=>rfl))),?_⟩
  refine⟨_,rfl,_,_,rfl,rfl,⟨by decide,by decide,by decide⟩,_,_,rfl,rfl,⟨by decide,by decide,by decide⟩,_,_,rfl,rfl,by show 3<=sizeLine;decide,λl hl=> ?_⟩;refine⟨_,rfl,rfl,.inr ⟨_,rfl,_,rfl,rfl,.inr ⟨_,rfl,_,_,rfl,rfl,.inr (h_Y _),_,_,rfl,rfl,l,_,_,_,rfl,rfl,SqL.of a_b,p_P n,k _ (Same.upd_new hl)⟩⟩⟩
def j_M:Sp:=λvs H Q _=>∃n,vs= [.int n]/\Q (.int (e_6 n)) H
theorem o_W:a_s ["_law_seed"] ["_law_seed"] (a_m n_I):=⟨rfl,rfl,rfl,by decide+kernel,rfl,by decide+kernel,by decide+kernel⟩
theorem n_U {f:Addr} {fd:FuncData} (F:Fun K "_law_step_by" "_law_step_by" n_I f fd) (B:Bt mg):FnOk P w K mg base CX0 1 f fd ["_law_seed"] j_M:=by
 refine F.ok o_W (λvs H Q E h=> ?_) (λcdv A outer s H vs Q E hr h=> ?_)
 ·obtain⟨n,rfl,_⟩:=h
  rfl
 ·obtain⟨n,rfl,k⟩:=h
  refine⟨_,a_f (a_n (a_u b_H (a_u b_H a_g (a_u a_S (a_u a_1 (pv 0) a_g) (a_u h_J a_g a_g))) (b_F b_S (by rfl) B.int g_J (a_a (c_n a_I (a_u a_S (pv 0) a_g) a_g (a_q _)) a_d)))),?_⟩;refine⟨_,rfl,_,_,rfl,rfl,⟨by decide,by decide⟩,_,_,rfl,rfl,⟨by decide,by decide,by decide⟩,_,_,rfl,rfl,(show (0:Int) < 10 ^ 27 by decide),_,_,rfl,rfl,.inl ⟨by decide,by decide⟩,?_⟩;exact⟨_,rfl,_,_,rfl,rfl,(show (0:Int) < 3 by decide),rfl,.inr ⟨_,rfl,_,_,rfl,rfl,.inr (h_Y _),k⟩⟩
def d_4:Sp:=λvs H Q _=>∃n s,vs= [.int n,.int s]/\Q (.int (b_x n s)) H
theorem l_q:a_s ["_law_number","_law_seed"] ["_law_number","_law_seed"] (a_m h_w):=⟨rfl,rfl,rfl,by decide+kernel,rfl,by decide+kernel,by decide+kernel⟩
theorem i_3 {f fS:Addr} {fd fdS:FuncData} (F:Fun K "_law_raised" "_law_raised" h_w f fd) (B:Bt mg) (gS:Gf K mg "_law_step_by" fS fdS ["_law_seed"]) (GS:FnOk P w K mg base CX0 1 fS fdS ["_law_seed"] j_M):FnOk P w K mg base CX0 2 f fd ["_law_number","_law_seed"] d_4:=by
 refine F.ok l_q (λvs H Q E h=> ?_) (λcdv A outer s H vs Q E hr h=> ?_)
 ·obtain⟨n,s,rfl,_⟩:=h
  rfl
 ·obtain⟨n,sd,rfl,k⟩:=h
  refine⟨_,a_f (a_n (a_u a_U (pv 0) (a_u b_H (a_j GS hr rfl gS.mg gS.kp gS.b .nil a_v (a_a (pv 1) a_d)) (b_F b_S (by rfl) B.int g_J (a_a (c_n h_y (pv 0) a_g (a_q _)) a_d))))),?_⟩;exact⟨_,rfl,_,rfl,_,rfl,_,rfl,_,_,rfl,rfl,.inr ⟨_,rfl,_,_,rfl,rfl,.inr (h_Y _),_,_,rfl,rfl,k⟩⟩
def d_0:Sp:=λvs H Q _=>∃n s,vs= [.int n,.int s]/\∀r,Q (.int r) H
theorem l_M:a_s ["_law_rank","_law_seed"] ["_law_rank","_law_seed"] (a_m h_i):=⟨rfl,rfl,rfl,by decide+kernel,rfl,by decide+kernel,by decide+kernel⟩
theorem j_Z {f fS:Addr} {fd fdS:FuncData} (F:Fun K "_law_ranked" "_law_ranked" h_i f fd) (B:Bt mg) (gS:Gf K mg "_law_step_by" fS fdS ["_law_seed"]) (GS:FnOk P w K mg base CX0 1 fS fdS ["_law_seed"] j_M):FnOk P w K mg base CX0 2 f fd ["_law_rank","_law_seed"] d_0:=by
 refine F.ok l_M (λvs H Q E h=> ?_) (λcdv A outer s H vs Q E hr h=> ?_)
 ·obtain⟨n,s,rfl,_⟩:=h
  rfl
 ·obtain⟨n,sd,rfl,k⟩:=h
  refine⟨_,a_f (a_n (a_u a_U (pv 0) (a_u b_H (a_j GS hr rfl gS.mg gS.kp gS.b .nil a_v (a_a (a_u a_1 (pv 1) a_g) a_d)) (b_F b_S (by rfl) B.int g_J (a_a (c_n h_y (pv 0) a_g (a_q _)) a_d))))),?_⟩;exact⟨_,rfl,_,rfl,_,_,rfl,rfl,⟨by decide,by decide⟩,_,rfl,_,rfl,_,_,rfl,rfl,.inr ⟨_,rfl,_,_,rfl,rfl,.inr (h_Y _),_,_,rfl,rfl,k _⟩⟩
end
end K1
namespace L2
open PySem PySem.Spec PyProof.Rows
section
variable {X:Cx}
theorem tk {α:Type} {M:Model} {A:Around} {t:Sem α} {Q:α->Shared->Prop} {E:Value->Shared->Prop} {s:Shared} (h:wpAny M A t Q E s):wpAny M A t (λa s'=>s.toks<=s'.toks/\Q a s') E s:=wpAny_mono (wpAny_toks h) (λ_ _ x=>x) λ_ _ x=>x.2
def p_V (X:Cx) (st:List Stmt) (t:TS):Prop:=∀(pins:List (Addr×Obj)) (s:Shared) (σ:St) (H:Hp) (D:i_A),Inv X pins σ H s->0 < s.toks->t D σ H->wpAny (model X.prog X.w) X.A (execs st X.env) (SP X pins D) X.xe s
def PS1 (X:Cx) (st:Stmt) (t:TS):Prop:=∀(pins:List (Addr×Obj)) (s:Shared) (σ:St) (H:Hp) (D:i_A),Inv X pins σ H s->0 < s.toks->t D σ H->wpAny (model X.prog X.w) X.A (exec st X.env) (SP X pins D) X.xe s
def PE1 (X:Cx) (e:Expr) (t:TE):Prop:=∀(pins:List (Addr×Obj)) (s:Shared) (σ:St) (H:Hp) (Q:VK),Inv X pins σ H s->0 < s.toks->t σ H Q->wpAny (model X.prog X.w) X.A (eval e X.env) (EP X pins σ Q) X.xe s
def h_T (n:Nat) (u:Value):Prop:=∀x t,u= .str x t->n<=t
def PEF (X:Cx) (e:Expr) (t:TE):Prop:=∀(pins:List (Addr×Obj)) (s:Shared) (σ:St) (H:Hp) (Q:VK),Inv X pins σ H s->t σ H Q->wpAny (model X.prog X.w) X.A (eval e X.env) (λu s'=>h_T s.toks u/\EP X pins σ Q u s') X.xe s
theorem PSs.one {st:List Stmt} {t:TS} (h:PSs X st t):p_V X st t:=λpins s σ H D I _ q=>h pins s σ H D I q
theorem g_S {st:Stmt} {e_G:List Stmt} {t u:TS} (h1:PS1 X st t) (h2:p_V X e_G u):p_V X (st::e_G) (p_3 t u):=by
 intro pins s σ H D I h0 h;refine wpAny_execs_cons (thn (tk (h1 pins s σ H { D with nx:=u D } I h0 h)) λf s1 ⟨le,q⟩=> ?_);cases f with
 | next=>
   obtain⟨σ',H',I',q⟩:=q;exact h2 pins s1 σ' H' D I' (s_c h0 le) q
 | ret v=>exact q
 | brk=>exact q
 | cont=>exact q
theorem i_5 {i:Nat} {x c:Str} {k:Nat} {pos pos' pc:Pos} {e_G:List Stmt} {u:TS} (hN:X.N.Nodup) (hi:X.N[i]? =some x) (hx:Loc X.env.scope x) (h2:p_V X e_G u)
 (hs:swapsWith (.Constant (.str c) k pc) (some (.Name x pos')) pos.line X.env=pure false:=by rfl) (hf:X.fn x=true\/X.env.scope.names.lookup x=some .local:=by first | exact .inl rfl | exact .inr rfl | assumption):
 PSs X (.Assign [.Name x pos'] (.Constant (.str c) k pc) pos::e_G) (p_3 (p_R (tC (.str c)) (l_C i)) u):=by
 intro pins s σ H D I h;refine wpAny_execs_cons (wpAny_Assign_Name (Calls.Constant_str ?_) hs);refine thn (tk (d_1 (v:= .str c) (Q:=λ_ s'=>∃σ' H',Inv X pins σ' H' s'/\u D σ' H') (I.tok (s.toks+1)) hN hi hx ⟨_,rfl⟩ (λs2 I2=>⟨_,H,I2,h⟩) hf)) λ_ s2 ⟨le,σ',H',I',q⟩=> ?_;exact h2 pins s2 σ' H' D I' (s_c (Nat.succ_pos _) le) q
theorem j_e {i:Nat} {x:Str} {e:Expr} {te:TE} {pos pos':Pos} (hN:X.N.Nodup) (hi:X.N[i]? =some x) (hx:Loc X.env.scope x) (he:PE1 X e te) (hs:swapsWith e (some (.Name x pos')) pos.line X.env=pure false:=by rfl) (hf:X.fn x=true\/X.env.scope.names.lookup x=some .local:=by first | exact .inl rfl | exact .inr rfl | assumption):
 PS1 X (.Assign [.Name x pos'] e pos) (p_R te (l_C i)):=by
 intro pins s σ H D I h0 h;refine wpAny_Assign_Name (thn (he pins s σ H _ I h0 h) λv s1 ⟨y,H1,I1,r1,q1⟩=> ?_) hs;exact d_1 I1 hN hi hx r1 (λs2 I2=>⟨_,H1,I2,q1⟩) hf
theorem o_a {a b:Expr} {ta tb:TE} {pos:Pos} (ha:PE X a ta) (hb:PE X b tb) (hs:h_m b):PEF X (.Subscript a b pos) (tOp r_D ta tb):=by
 intro pins s σ H Q I h;refine Subscript_ (thn (tk (ha pins s σ H _ I h)) λv s1 ⟨l1,x,H1,I1,r1,q1⟩=>thn (tk (hb pins s1 σ H1 _ I1 q1)) λu s2 ⟨l2,y,H2,I2,r2,q2⟩=> ?_);obtain⟨z,i,c,rfl,rfl,hz,he,q⟩:=q2;obtain⟨t,rfl⟩:=r1;obtain⟨t',rfl⟩:=r2;obtain⟨j,h1,h2,h3,h4,h5⟩:=h_v he;have hl:z.cps.toList.length=z.length:=by simp[Str.length]
 rw[hl] at h1 h4 h5;have hn:=e_P
 exact tail_any (typeIs_str s2 z t) slot_str_getitem.lookup (getItem_str (c:=c) (by
  have e1:decide (i < -(2 ^ 63:Int))=false:=s_D (by omega);have e2:decide (i ≥ 2 ^ 63)=false:=s_D (by omega);rw[e1,e2,Bool.or_false]) (by rw[h1];simpa using h2) ⟨λx t e=>by cases e;omega,.str ⟨#[c]⟩,H2,I2.tok _,⟨_,rfl⟩,q⟩) (hs _ _)
theorem k_z (x:Str):∀(n:Nat) (acc:Array Nat),((List.replicate n x.cps).foldl (·++·) acc).size=acc.size+x.length * n
 | 0,acc=>by simp
 | n+1,acc=>by
   rw[List.replicate_succ,List.foldl_cons,k_z x n];have e:x.length=x.cps.size:=rfl;simp only[Array.size_append,Nat.mul_succ];omega
def q_R:R2:=λx y H Q=>∃z n,x= .str z/\y= .int n/\1<=n/\n<=1000/\z.length<=1000/\∀z':Str,z'.length<=z.length * n.toNat->Q (.str z') H
theorem n_q {a b:Expr} {ta tb:TE} {pos:Pos} (ha:PEF X a ta) (hb:PE X b tb):PEF X (.BinOp a .Mult b pos) (tOp q_R ta tb):=by
 intro pins s σ H Q I h;refine wpAny_BinOp (thn (tk (ha pins s σ H _ I h)) λv s1 ⟨l1,n1,x,H1,I1,r1,q1⟩=>thn (tk (hb pins s1 σ H1 _ I1 q1)) λu s2 ⟨l2,y,H2,I2,r2,q2⟩=> ?_);obtain⟨z,n,rfl,rfl,d,f,hz,q⟩:=q2;obtain⟨t,rfl⟩:=r1;obtain⟨t',rfl⟩:=r2;have hm:z.length * n.toNat<=1000 * 1000:=Nat.mul_le_mul hz (by omega);refine PySem.P.mul_str ?_ (λ_ _=> ?_) (λ_ _=> ?_) ?_
 ·have e1:decide (n < -(2 ^ 63:Int))=false:=s_D (by omega)
  have e2:decide (n ≥ 2 ^ 63)=false:=s_D (by omega);rw[e1,e2,Bool.or_false]
 ·intro c
  have h1:(z.length:Int) * n < 2 ^ 63 - 1:=by
   have:((z.length * n.toNat:Nat):Int)<=1000 * 1000:=by exact_mod_cast hm
   rw[Int.natCast_mul] at this;have e:((n.toNat:Nat):Int)=n:=by omega
   rw[e] at this;omega
  have h2:(z.length:Int)<=(2 ^ 63 - 1) / n:=(Int.le_ediv_iff_mul_le (by omega)).mpr (by omega);omega
 ·unfold PySem.Builtin.Str.tooLong
  refine s_D ?_;have:(1000 * 1000:Nat) < sizeLine:=by decide
  omega
 ·rw[if_neg (by omega)]
  by_cases c:(n == 1||z.length == 0)=true
  ·rw[if_pos c]
   refine⟨λx t e=>by cases e;exact n1 _ _ rfl,.str z,H2,I2,⟨_,rfl⟩,q z ?_⟩;exact Nat.le_mul_of_pos_right _ (by omega)
  ·rw[if_neg c]
   have hl:(⟨(List.replicate n.toNat z.cps).foldl (·++·) #[]⟩:Str).length=z.length * n.toNat:=by
    show ((List.replicate n.toNat z.cps).foldl (·++·) #[]).size=_;rw[k_z];simp
   refine⟨?_, λx t e=>by cases e;omega,.str _,H2,I2.tok _,⟨_,rfl⟩,q _ (Nat.le_of_eq hl)⟩;rw[hl];exact s_h hm (by decide)
def p_h (z1 z2 z3:Str) (tb:TE):TE:=λσ H Q=>tb σ H λy H1=>∃i,y= .int i/\0<=i/\i < 3/\Q (.str z1) H1/\Q (.str z2) H1/\Q (.str z3) H1
theorem k_K {z1 z2 z3:Str} {k1 k2 k3:Nat} {p1 p2 p3 pl pos:Pos} {b:Expr} {tb:TE} (hb:PE X b tb) (hs:h_m b):
 PEF X (.Subscript (.List [.Constant (.str z1) k1 p1,.Constant (.str z2) k2 p2,.Constant (.str z3) k3 p3] pl) b pos) (p_h z1 z2 z3 tb):=by
 intro pins s σ H Q I h;refine Subscript_ (wpAny_List_spliced ?_);refine Calls.spliced_cons (Calls.Constant_str (k:=k1) (pos:=p1) (Calls.spliced_cons (Calls.Constant_str (k:=k2) (pos:=p2) (Calls.spliced_cons (Calls.Constant_str (k:=k3) (pos:=p3) (Calls.spliced_nil ⟨by show 3<=sizeLine;decide,?_⟩))))));let o:Obj:={ cls:= .type "list",data:= .seq [Value.str z1 s.toks,Value.str z2 (s.toks+1),Value.str z3 (s.toks+1+1)].toArray };have I1:Inv X pins σ H { s with heap:=s.heap.push o,toks:=s.toks+1+1+1 }:=I.kept λb u e=>Heap.get?_push_of_some _ e;have hg:(s.heap.push o).get? s.heap.objs.size=some o:=Heap.get?_push_size _ rfl
 have I2:Inv X (pins++ [(s.heap.objs.size,o)]) σ H { s with heap:=s.heap.push o,toks:=s.toks+1+1+1 }:=I1.pins_of λp hp=>(s_e.mp hp).elim (λz=>I1.pin p (r_9 _ z)) λz=>by
  obtain rfl:p=(s.heap.objs.size,o):=by simpa using z
  exact⟨hg,I.hok.fresh (r_5 _),Nat.ne_of_gt I.lt,I.nofs (r_5 _),λv e=>nomatch e⟩
 refine thn (hb _ _ σ H _ I2 h) λu s2 ⟨y,H2,I3,r2,q2⟩=> ?_;obtain⟨i,rfl,h0,h3,qa,qb,qc⟩:=q2;obtain⟨t',rfl⟩:=r2;have pO:=(I3.pin (s.heap.objs.size,o) (by simp)).1;have hL:s2.heap.IsList s.heap.objs.size [Value.str z1 s.toks,Value.str z2 (s.toks+1),Value.str z3 (s.toks+1+1)].toArray:=⟨o,pO,rfl,_,rfl⟩;have I4:=I3.unpinned;rcases (show i=0\/i=1\/i=2 by omega) with rfl | rfl | rfl
 ·exact item_listR (Q:=λu s'=>h_T s.toks u/\EP X pins σ Q u s') hL (by decide) (by decide) rfl ⟨λx t e=>by cases e;omega,.str z1,H2,I4,⟨_,rfl⟩,qa⟩ (hs _ _)
 ·exact item_listR (Q:=λu s'=>h_T s.toks u/\EP X pins σ Q u s') hL (by decide) (by decide) rfl ⟨λx t e=>by cases e;omega,.str z2,H2,I4,⟨_,rfl⟩,qb⟩ (hs _ _)
 ·exact item_listR (Q:=λu s'=>h_T s.toks u/\EP X pins σ Q u s') hL (by decide) (by decide) rfl ⟨λx t e=>by cases e;omega,.str z3,H2,I4,⟨_,rfl⟩,qc⟩ (hs _ _)
def q_i (m:Nat) (to te:TE):TE:=λσ H Q=>to σ H λx H1=>∃xs,x= .str xs/\te σ H1 λz H2=>∃zs,z= .str zs/\xs.length+(xs.length+1) * zs.length<=m/\m<=16777216/\∀r:Str,r.length<=m->Q (.str r) H2
theorem l_o {x y z:Str} {m:Nat} (h:x.length+(x.length+1) * z.length<=m):(Txt.replace x y z).length<=m:=by
 unfold Txt.replace;split
 ·omega
 ·have h1:=StrLaws.occ_length_le x y 0 x.length (x.length+1)
  have hy:(Builtin.Str.glued y (Builtin.Str.partsBetween x (Builtin.Str.occurrences x y 0 x.length (x.length+1)) y.length)).length=x.length:=by rw[StrLaws.glued_between_self]
  rw[size_glued,length_partsBetween,Nat.add_sub_cancel] at hy;rw[size_glued,length_partsBetween,Nat.add_sub_cancel];have h2:(Builtin.Str.occurrences x y 0 x.length (x.length+1)).length * z.length<=(x.length+1) * z.length:=Nat.mul_le_mul_right _ h1;omega
theorem e_F {m:Nat} {o e:Expr} {to te:TE} {c:Str} {k:Nat} {apos cpos pc:Pos} (nb:PySem.W.nsIn X.K cStatics sharingNotToldKey=some none) (ho:PE X o to) (he:PEF X e te)
 (hbase:attributeBase o "replace" X.env (eval o X.env)=eval o X.env:=by rfl)
 (hfew:((backTo cpos (starEach [.Constant (.str c) k pc,e] X.env)).all (fun x=> !x.1)&&(backToKw cpos (keywordEach [] X.env)).all (fun x=>x.1.isSome)
   &&decide (([.Constant (.str c) k pc,e]:List Expr).length+([]:List Keyword).length+(if ([]:List Keyword).isEmpty then 0 else 1) < 30))=true:=by rfl)
 (hline:(apos.endLine == cpos.line)=true:=by rfl) (hs:starEach [.Constant (.str c) k pc,e] X.env= [(false,eval (.Constant (.str c) k pc) X.env),(false,eval e X.env)]:=by rfl):
 PE1 X (.Call (.Attribute o "replace" apos) [.Constant (.str c) k pc,e] [] cpos) (q_i m to te):=by
 intro pins s σ H Q I h0 h;refine wpAny_Call_method_late hbase hfew hline rfl (thn (tk (ho pins s σ H _ I h)) λv s1 ⟨l1,x,H1,I1,r1,xs,ex,q1⟩=> ?_);subst ex;obtain⟨t,rfl⟩:=r1;refine⟨"str",_,F.plainAttrs_str,F.slot_str_replace,F.type_str_replace,typeIs_str _ _ _,(λ_ e=>nomatch e),?_⟩;rw[hs];refine Calls.callWith_builtin rfl (Calls.evalArgs_plain (Calls.spliced_cons (Calls.Constant_str (k:=k) (pos:=pc) (Calls.spliced_cons ?_))));refine thn (he pins _ σ H1 _ (I1.tok _) q1) λu s2 ⟨n2,z,H2,I2,r2,zs,ez,hb,hm,q2⟩=> ?_;subst ez;obtain⟨t2,rfl⟩:=r2;have hn:=n2 _ _ rfl;refine Calls.spliced_nil ?_
 have NB:NoneBooked s2.heap:=by
  obtain⟨mc,h1,_⟩:=I2.nolimit;exact⟨mc,h1,PySem.W.ns_none_of I2.kIn h1 nb⟩
 have a1:0 < s1.toks:=s_c h0 l1;have a2:s1.toks < t2:=hn;exact SC.replaceA (Nat.ne_of_gt a1) (Nat.ne_of_gt (Nat.lt_trans a1 a2)) (s_k a2) (s_h hb hm) (λt' k=>⟨.str _,H2,I2.tok _,⟨_,rfl⟩,q2 _ (l_o hb)⟩) NB
def r_q:V->Option Int->Option Int->Hp->VK->Prop:=λx lo hi H Q=>∃z j,x= .str z/\lo=none/\hi=some j/\z.length<=sizeLine/\∀r:Str,r.length<=z.length->Q (.str r) H
theorem m_n:SlR X r_q:=by
 intro pins s σ H x v vl vu lo hi sl Q I rx hs pl pu h;obtain⟨z,j,rfl,rfl,rfl,hz,q⟩:=h;obtain⟨t,rfl⟩:=rx;cases pl;cases pu with
 | int _ u=>
   obtain⟨o,ho,h1,h2⟩:=hs;refine⟨"str",_,F.slot_str_getitem.lookup,typeIs_str _ _ _,wpAny_getItem_str_slice (l:=none) (u:=some (j,u)) (st:=none) ⟨o,ho,h1,h2⟩ rfl (post_val_or_str ⟨s_h (Txt.slice_le z _ _) hz,λt' k=> ?_⟩)⟩;exact⟨.str _,H,I.tok _,⟨_,rfl⟩,q _ (Txt.slice_le z _ _)⟩
end
end L2
namespace K1
open PySem L2 TO
theorem n_4 (z:Str) (h:0 < z.length) (i:Int):∃c,atI z.cps.toList (i % (z.length:Int))=some c:=by
 have h1:=Int.emod_nonneg i (show (z.length:Int)≠0 by omega);have h2:=Int.emod_lt_of_pos i (show (0:Int) < (z.length:Int) by omega);obtain⟨j,hj⟩:∃j:Nat,i % (z.length:Int)=(j:Int):=⟨(i % (z.length:Int)).toNat,by omega⟩;have hl:z.cps.toList.length=z.length:=by simp[Str.length]
 rw[hj];exact⟨_,a_e (r_X (by omega))⟩
section
variable {P:Program} {w:World} {K:PySem.W.Frag} {mg:Str->Option Value} {base:Heap}
def d_3:Sp:=λvs H Q _=>∃(t:Str) (s:Int),vs= [.str t,.int s]/\t.length<=2/\∀(t':Str) (H':Hp),Same H H'->Q (.str t') H'
theorem d_X:a_s ["_law_letters","_law_seed","_law_signs","_law_made"] ["_law_letters","_law_seed"] (a_m h_C):=⟨rfl,rfl,rfl,by decide+kernel,rfl,by decide+kernel,by decide+kernel⟩
theorem j_X {f:Addr} {fd:FuncData} (F:Fun K "_law_signed" "_law_signed" h_C f fd) (B:Bt mg) (nb:PySem.W.nsIn K cStatics sharingNotToldKey=some none):FnOk P w K mg base CX0 1 f fd ["_law_letters","_law_seed"] d_3:=by
 refine F.ok d_X (λvs H Q E h=> ?_) (λcdv A outer s H vs Q E hr h=> ?_)
 ·obtain⟨t,s,rfl,_⟩:=h
  rfl
 ·obtain⟨t,sd,rfl,ht,k⟩:=h
  refine⟨_,i_5 (i:=2) d_X.nd rfl (Or.inl rfl)
   (g_S (j_e (i:=3) d_X.nd rfl (Or.inl rfl) (e_F (m:=29) nb (pv 0) (n_q (o_a (pv 2) (a_u a_S (pv 1) (a_t g_M (by rfl) B.len s_F (a_a (pv 2) a_d))) (λ_ _=>rfl)) (a_u a_U a_g (a_u a_S (a_u a_1 (pv 1) a_g) a_g)))))
   (g_S (j_e (i:=3) d_X.nd rfl (Or.inl rfl) (e_F (m:=119) nb (pv 3) (k_K (a_u a_S (a_u a_1 (pv 1) a_g) a_g) (λ_ _=>rfl))))
   (PSs.one (a_c (a_C (PW.pt (c_G (a_l a_I (pv 3) a_k (a_q _)) (b_J (a_l a_I (a_u a_S (a_u a_1 (pv 1) a_g) a_g) a_g (a_q _))))) (a_f (a_n (pv 3))) a_p)
   (a_f (a_n (a_u f_c (a_u f_c (b_s m_n a_k b_7 (b_G (a_u a_S (a_u a_1 (pv 1) a_g) a_g))) (pv 3)) (b_s m_n a_k b_7 (b_G (a_u a_S (a_u a_1 (pv 1) a_g) a_g)))))))))),?_⟩
  have e9:=Int.emod_nonneg (sd / 100) (show (9:Int)≠0 by decide);have l9:=Int.emod_lt_of_pos (sd / 100) (show (0:Int) < 9 by decide);have e3:=Int.emod_nonneg (sd / 900) (show (3:Int)≠0 by decide);have l3:=Int.emod_lt_of_pos (sd / 900) (show (0:Int) < 3 by decide);refine⟨_,rfl,t,rfl,_,rfl,_,rfl,_,rfl,_,rfl,by decide+kernel,_,_,rfl,rfl,(by show (0:Int) < _;decide+kernel),?_⟩;refine⟨_,_,_,rfl,rfl,by decide+kernel,Classical.choose_spec (n_4 _ (by decide+kernel) sd),_,rfl,_,_,rfl,rfl,⟨by decide,by decide⟩,_,_,rfl,rfl,(show (0:Int) < 9 by decide),_,_,rfl,rfl,_,_,rfl,rfl,by omega,by omega,(show 1<=1000 by decide),λz' c=>⟨z',rfl,?_, by decide,λr j=> ?_⟩⟩
  ·have d:z'.length≤9:=by
    have:z'.length<=1 * (1+sd / 100 % 9).toNat:=c;omega
   have:(t.length+1) * z'.length<=3 * 9:=Nat.mul_le_mul (by omega) d;omega
  have a:∀z3:Str,z3.length<=3->r.length+(r.length+1) * z3.length<=119:=λz3 h3=>by
   have:(r.length+1) * z3.length<=30 * 3:=Nat.mul_le_mul (by omega) h3;omega
  have hm:∀m:Str,m.length<=119->m.length<=119:=λ_ h=>h;refine⟨_,rfl,r,rfl,_,rfl,_,_,rfl,rfl,⟨by decide,by decide⟩,_,_,rfl,rfl,(show (0:Int) < 3 by decide),_,rfl,e3,l3,⟨_,rfl,a _ (by decide+kernel),by decide,?_⟩,⟨_,rfl,a _ (by decide+kernel),by decide,?_⟩,⟨_,rfl,a _ (by decide+kernel),by decide,?_⟩⟩
  all_goals
   intro m hm;refine⟨_,rfl,rfl,_,rfl,?_⟩;refine a_y (λq=>⟨_,rfl,k m H (Same.refl H)⟩) (λq=> ?_);refine⟨_,rfl,_,_,rfl,rfl,⟨by decide,by decide⟩,_,_,rfl,rfl,(show (0:Int) < 2 by decide),rfl,_,rfl,?_⟩;refine a_y (λq=>⟨_,rfl,k m H (Same.refl H)⟩) (λq=> ?_);refine⟨_,rfl,_,_,rfl,rfl,⟨by decide,by decide⟩,_,_,rfl,rfl,(show (0:Int) < 5 by decide),_,rfl,_,_,rfl,rfl,rfl,by decide+kernel,λr1 h1=> ?_⟩;have e:r1.length<=1000:=s_h h1 (by decide+kernel);refine⟨_,rfl,_,_,rfl,rfl,s_h (Nat.add_le_add e hm) (by decide),?_⟩;refine⟨_,rfl,_,_,rfl,rfl,⟨by decide,by decide⟩,_,_,rfl,rfl,(show (0:Int) < 4 by decide),_,rfl,_,_,rfl,rfl,rfl,by decide+kernel,λr2 h2=>⟨_,_,rfl,rfl,?_, k _ H (Same.refl H)⟩⟩;have g:r2.length<=1000:=s_h h2 (by decide+kernel)
   have b:(r1++m).length=r1.length+m.length:=by
    show (r1.cps++m.cps).size=_;rw[Array.size_append];rfl
   rw[b];have:(1000+119+1000:Nat)<=sizeLine:=by decide
   omega
def h_j:Sp:=λvs H Q _=>∃(a:Addr) (ρ:Row) (s:Int),vs= [.ref a,.int s]/\RowAt H a ρ/\ρ.t.length<=2/\∀(b:Addr) (ρ':Row) (H':Hp),H b=none->Same H H'->RowAt H' b ρ'->ρ'.n=b_x ρ.n s->Q (.ref b) H'
theorem k_B:a_s ["_law_row","_law_seed","_law_number"] ["_law_row","_law_seed"] (a_m j_I):=⟨rfl,rfl,rfl,by decide+kernel,rfl,by decide+kernel,by decide+kernel⟩
theorem k_2 {f fR fK fS:Addr} {fd fdR fdK fdS:FuncData} (F:Fun K "_law_row_moved" "_law_row_moved" j_I f fd) (gR:Gf K mg "_law_raised" fR fdR ["_law_number","_law_seed"]) (GR:FnOk P w K mg base CX0 2 fR fdR ["_law_number","_law_seed"] d_4)
 (gK:Gf K mg "_law_ranked" fK fdK ["_law_rank","_law_seed"]) (GK:FnOk P w K mg base CX0 2 fK fdK ["_law_rank","_law_seed"] d_0) (gS:Gf K mg "_law_signed" fS fdS ["_law_letters","_law_seed"]) (GS:FnOk P w K mg base CX0 1 fS fdS ["_law_letters","_law_seed"] d_3):
 FnOk P w K mg base CX0 3 f fd ["_law_row","_law_seed"] h_j:=by
 refine F.ok k_B (λvs H Q E h=> ?_) (λcdv A outer s H vs Q E hr h=> ?_)
 ·obtain⟨a,ρ,s,rfl,_⟩:=h
  rfl
 ·obtain⟨a,ρ,sd,rfl,ha,ht,k⟩:=h
  have c:Room 1 _:=hr.mono (by decide)
  refine⟨_,a_c (a_w (i:=2) k_B.nd rfl (Or.inl rfl) (a_j GR hr rfl gR.mg gR.kp gR.b .nil a_v (a_a (a_r a_o (pv 0) a_g (λ_ _=>rfl)) (a_a (pv 1) a_d))))
   (a_f (a_n (a_G (a_a (pv 2) (a_a (a_j GK hr rfl gK.mg gK.kp gK.b .nil a_v (a_a (a_r a_o (pv 0) a_g (fun _ _=>rfl)) (a_a (pv 1) a_d)))
     (a_a (a_j GS c rfl gS.mg gS.kp gS.b .nil a_v (a_a (a_r a_o (pv 0) a_g (λ_ _=>rfl)) (a_a (pv 1) a_d))) a_d)))))),?_⟩
  refine⟨_,rfl,a,_,_,_,rfl,rfl,SqT.of ha,a_e (j:=0) rfl,_,rfl,_,_,rfl,?_⟩;refine⟨_,rfl,_,rfl,a,_,_,_,rfl,rfl,SqT.of ha,a_e (j:=1) rfl,_,rfl,_,_,rfl,λrk=> ?_⟩;refine⟨_,rfl,a,_,_,_,rfl,rfl,SqT.of ha,a_e (j:=2) rfl,_,rfl,_,_,rfl,ht,λt' H1 s1=> ?_⟩;refine⟨by show 3<=sizeLine;decide,λb hb=> ?_⟩;exact k b ⟨b_x ρ.n sd,rk,t'⟩ _ (s1.free hb) (s1.trans (Same.upd_new hb)) a_b rfl
end
structure Mov (H H':Hp) (f:List Addr):Prop where
 keep:∀b u,H b=some u->b∉f->H' b=some u
 lst:∀b∈f,∀u,H b=some u->∃xs,u= .lst xs
theorem Mov.upd {H:Hp} {a:Addr} {xs ys:List V} (h:H a=some (.lst xs)):Mov H (upd H a (.lst ys)) [a]:=⟨λb u hb hn=>by
 rw[a_i (λe=>hn (by rw[e];exact r_1.mpr rfl))];exact hb,λb hb u hu=>by
 rw[r_1.mp hb,h] at hu;exact⟨xs,(r_3 hu).symm⟩⟩
section
variable {H H' H0:Hp} {f:List Addr}
theorem Mov.tup (m:Mov H H' f) {b:Addr} {xs:List V} (h:H b=some (.tup xs)):H' b=some (.tup xs):=m.keep b _ h λhb=>by
 obtain⟨ys,e⟩:=m.lst b hb _ h;cases e
theorem Mov.same (m:Mov H H' f) (s:Same H0 H) (hf:∀b∈f,H0 b=none):Same H0 H':=λb u hb=>m.keep b u (s b u hb) λhm=>by
 rw[hf b hm] at hb;cases hb
end
section
variable {C:Addr} {w:Bool} {H0 H H':Hp} {o bl o2 bl2 th hf ol ke:Addr} {bas bas2 ls ks:List Addr} {B B2:List (List Row)} {ρs κs:List Row}
end
end K1
namespace TO
open PySem L2
inductive Chg where
 | bring (ρ:Row)
 | alter (ρ:Row)
 | cut (n:Int)
inductive Deed where
 | chg (c:Chg)
 | all (cs:List Chg)
 | begin
 | keep
 | brk
 | row (n:Int)
 | within (w:Str) (lo hi:V)
 | both (lo hi:Int) (t:Str)
 | from (w:Str) (k m:Int)
 | spot (w:Str) (n:Int)
def b_v (l:List Row) (n:Int):Bool:=l.any λx=>decide (x.n=n)
def c_7 (l:List Row) (n:Int):Option Row:=l.find? λx=>decide (x.n=n)
def c_o (l:List Row) (ρ:Row):List Row:=if b_v l ρ.n=true then l.map λx=>if x.n=ρ.n then ρ else x else l++ [ρ]
def a_8 (l:List Row) (n:Int):List Row:=l.filter λx=>decide (x.n≠n)
def b_j (room:Int) (l:List Row):Chg->List Row×Str
 | .bring ρ=>if b_v l ρ.n=true then (l,"taken") else if room<=(l.length:Int) then (l,"full") else (c_o l ρ,"done")
 | .alter ρ=>if b_v l ρ.n=true then (c_o l ρ,"done") else (l,"missing")
 | .cut n=>if b_v l n=true then (a_8 l n,"done") else (l,"missing")
def d_W (room:Int) (l0:List Row):Nat->List Row->List Chg->List Row×D
 | _,l, []=>(l,.str "done")
 | i,l,c::r=>let p:=b_j room l c;if p.2="done" then d_W room l0 (i+1) p.1 r else (l0,.tup [.int (i:Int),.str p.2])
def m_X (w:Bool) (ρ:Row):List Row->List Row
 | []=> [ρ]
 | x::r=>if ltR w x ρ=true then x::m_X w ρ r else ρ::x::r
def a_V (w:Bool):List Row->List Row
 | []=> []
 | x::r=>m_X w x (a_V w r)
theorem e_T (w:Bool) (ρ:Row):∀l,(m_X w ρ l).Perm (ρ::l)
 | []=> .refl _
 | x::r=>by
   unfold m_X;split
   ·exact ((e_T w ρ r).cons x).trans (.swap ρ x r)
   ·exact .refl _
theorem a_4 (w:Bool):∀l,(a_V w l).Perm l
 | []=> .refl _
 | x::r=>(e_T w x _).trans ((a_4 w r).cons x)
theorem h_Z (w:Bool) (ρ:Row):∀{l:List Row},Srt (ltR w) l->(∀x∈l,x.n≠ρ.n)->Srt (ltR w) (m_X w ρ l)
 | [],_,_=>by simp[m_X]
 | x::r,h,hn=>by
   have h':=s_A.mp h;unfold m_X;split
   ·rename_i c
    refine s_A.mpr ⟨λy hy=> ?_, h_Z w ρ h'.2 λy hy=>hn y (r_Z _ hy)⟩;rcases r_7.mp ((e_T w ρ r).mem_iff.mp hy) with e | e
    ·rw[e];exact c
    ·exact h'.1 y e
   ·rename_i c
    have c':ltR w ρ x=true:=by
     rcases h_a (w:=w) (hn x (r_0 ..)) with q | q
     ·exact absurd q c
     ·exact q
    refine s_A.mpr ⟨λy hy=> ?_, h⟩;rcases r_7.mp hy with e | e
    ·rw[e];exact c'
    ·exact c_D w _ _ _ c' (h'.1 y e)
theorem c_A (w:Bool):∀{l:List Row},(l.map (·.n)).Nodup->Srt (ltR w) (a_V w l)
 | [],_=> .nil
 | x::r,h=>by
   rw[s_b,s_q] at h;refine h_Z w x (c_A w h.2) λy hy e=>h.1 ?_;rw[<-e];exact s_r.mpr ⟨y,(a_4 w r).mem_iff.mp hy,rfl⟩
theorem d_5 {w:Bool} {l s:List Row} (hn:(l.map (·.n)).Nodup) (hs:Srt (ltR w) s) (hp:s.Perm l):s=a_V w l:=
 Srt.one (b_M w) (c_D w) hs (c_A w hn) (hp.trans (a_4 w l).symm)
def c_f (x:Str):Option Bool:=if x="rank" then some false else if x="text" then some true else none
def i_L (w:Bool) (lo hi:V) (x:Row):Bool:= !ltV (c_u w x) lo&& !ltV hi (c_u w x)
def e_j (l:List Row):D:= .lst (l.map j_i)
def b_V (l:List Row):Deed->D
 | .row n=>match c_7 l n with
   | some ρ=>j_i ρ
   | none=> .str "missing"
 | .both lo hi t=>e_j (((a_V false l).filter λx=>decide (x.t=t)).filter (i_L false (.int lo) (.int hi)))
 | .within x lo hi=>match c_f x with
   | some w=>e_j ((a_V w l).filter (i_L w lo hi))
   | none=> .str "no order"
 | .from x k m=>match c_f x with
   | some w=>e_j ((a_V w l).zipIdx.filterMap λp=>if k<=(p.2:Int)/\(p.2:Int)<=k+m - 1 then some p.1 else none)
   | none=> .str "no order"
 | .spot x n=>match c_f x with
   | some w=>(match c_7 l n with
     | some ρ=> .int ((l.filter λy=>ltR w y ρ).length:Nat)
     | none=> .str "missing")
   | none=> .str "no order"
 | _=> .str "nothing"
structure Sto where
 kept:List Row
 marks:List (List Row)
def Sto.step (room:Int) (s:Sto):Deed->Sto×D
 | .chg c=>({ s with kept:=(b_j room s.kept c).1 },.str (b_j room s.kept c).2)
 | .all cs=>({ s with kept:=(d_W room s.kept 0 s.kept cs).1 },(d_W room s.kept 0 s.kept cs).2)
 | .begin=>({ s with marks:=s.kept::s.marks },.str "done")
 | .keep=>match s.marks with
   | []=>(s,.str "not begun")
   | _::r=>({ s with marks:=r },.str "done")
 | .brk=>match s.marks with
   | []=>(s,.str "not begun")
   | m::r=>(⟨m,r⟩,.str "done")
 | d=>(s,b_V s.kept d)
def Sto.run (room:Int) (s:Sto):List Deed->Sto×List D
 | []=>(s, [])
 | d::r=>let p:=s.step room d;let q:=p.1.run room r;(q.1,p.2::q.2)
theorem b_z {l:List Row} {n:Int}:b_v l n=true↔∃x∈l,x.n=n:=by simp[b_v]
theorem g_i {l:List Row} {ρ:Row} (h:(l.map (·.n)).Nodup):((c_o l ρ).map (·.n)).Nodup:=by
 unfold c_o;split
 ·have e:(l.map fun x=>if x.n=ρ.n then ρ else x).map (·.n)=l.map (·.n):=by
   rw[List.map_map];apply List.map_congr_left;intro x _;show (if x.n=ρ.n then ρ else x).n=x.n;split
   ·rename_i c;exact c.symm
   ·rfl
  rw[e];exact h
 ·rename_i c
  rw[r_4,List.nodup_append];refine⟨h,by simp,λa ha b hb e=>c ?_⟩;simp at hb;obtain⟨x,hx,ex⟩:=s_r.mp ha;exact b_z.mpr ⟨x,hx,ex.trans (e.trans hb)⟩
theorem e_4 {l:List Row} {n:Int} (h:(l.map (·.n)).Nodup):((a_8 l n).map (·.n)).Nodup:=((List.filter_sublist.map _).nodup h)
theorem g_O {room:Int} {l:List Row} {c:Chg} (h:(l.map (·.n)).Nodup):((b_j room l c).1.map (·.n)).Nodup:=by
 cases c <;> unfold b_j <;> (repeat' split) <;> first | exact h | exact g_i h | exact e_4 h
def ChgAt (H:Hp) (a:Addr):Chg->Prop
 | .bring ρ=>∃r,H a=some (.tup [.str "bring",.ref r])/\RowAt H r ρ
 | .alter ρ=>∃r,H a=some (.tup [.str "alter",.ref r])/\RowAt H r ρ
 | .cut n=>H a=some (.tup [.str "cut",.int n])
def DeedAt (H:Hp) (a:Addr):Deed->Prop
 | .chg c=>ChgAt H a c
 | .all cs=>∃l,∃as:List Addr,H a=some (.tup [.str "all",.ref l])/\H l=some (.lst (as.map V.ref))/\Paired (ChgAt H) as cs
 | .begin=>H a=some (.tup [.str "begin"])
 | .keep=>H a=some (.tup [.str "keep"])
 | .brk=>H a=some (.tup [.str "break"])
 | .row n=>H a=some (.tup [.str "row",.int n])
 | .within x lo hi=>H a=some (.tup [.str "within",.str x,lo,hi])
 | .both lo hi t=>H a=some (.tup [.str "both",.int lo,.int hi,.str t])
 | .from x k m=>H a=some (.tup [.str "from",.str x,.int k,.int m])
 | .spot x n=>H a=some (.tup [.str "spot",.str x,.int n])
abbrev k_W (n:Int):Prop:=n.natAbs.log2 < 1920
abbrev Sm (n:Int):Prop:= -10000000000000000000000000<=n/\n<=10000000000000000000000000
theorem n_N {n:Int} (h1: -100000000000000000000000000000000<=n) (h2:n<=100000000000000000000000000000000):k_W n:=by
 have h:n.natAbs < 2 ^ 1920:=s_B (show n.natAbs<=100000000000000000000000000000000 by omega) (by decide+kernel);by_cases e:n.natAbs=0
 ·show n.natAbs.log2 < 1920
  rw[e];decide
 ·exact (Nat.log2_lt e).mpr h
def c_s (x:Str):Prop:=x="rank"\/x="text"\/x="ranks"
def BL:List Int:=(List.range 27).map (λi:Nat=>K1.far ((i:Int) - 1))++(List.range 13).map λi:Nat=>100+(i:Int)
def ML (sd:Int):List Int:=BL.map λb=>K1.b_x b sd
theorem h_L {n:Int} (h1: -1<=n) (h2:n<=25):K1.far n∈BL:=by
 refine s_v _ (s_r.mpr ⟨(n+1).toNat,List.mem_range.mpr (by omega),?_⟩);congr 1;omega
theorem f_1 (n:Int):K1.far n=n\/K1.far n=10 ^ 20\/K1.far n=0 - 10 ^ 20:=by
 unfold K1.far
 repeat' split
 all_goals simp
theorem q_U {n:Int} (h:n∈BL):Sm n:=by
 rcases s_e.mp h with q | q
 ·obtain⟨i,hi,e⟩:=s_r.mp q
  have:=List.mem_range.mp hi
  rcases f_1 ((i:Int) - 1) with z | z | z <;> rw[z] at e <;> constructor <;> omega
 ·obtain⟨i,hi,e⟩:=s_r.mp q
  have:=List.mem_range.mp hi
  constructor <;> omega
theorem i_f {n:Int} (h1: -1000<=n) (h2:n<=1000):Sm (K1.far n):=by
 rcases f_1 n with z | z | z <;> rw[z] <;> constructor <;> omega
theorem c_Z {n sd:Int} (h:Sm n):k_W (K1.b_x n sd):=by
 obtain⟨h1,h2⟩:=h
 have hs:0<=K1.e_6 sd/\K1.e_6 sd<=1000000000000000000000000000000:=by
  unfold K1.e_6 K1.i1
  split <;> omega
 obtain⟨h3,h4⟩:=hs
 have:K1.b_x n sd=n\/K1.b_x n sd=n+K1.e_6 sd:=by
  unfold K1.b_x K1.i1;split
  ·right;omega
  ·left;omega
 rcases this with e | e <;> rw[e] <;> exact n_N (by omega) (by omega)
theorem h_c {n sd:Int} (h:n∈ML sd):k_W n:=by
 obtain⟨b,hb,e⟩:=s_r.mp h;rw[<-e];exact c_Z (q_U hb)
theorem i_N {b sd:Int} (h:b∈BL):K1.b_x b sd∈ML sd:=s_r.mpr ⟨b,h,rfl⟩
theorem p_t (sd:Int):(ML sd).length=40:=by simp[ML,BL]
def Chg.short:Chg->Prop
 | .bring ρ=>ρ.t.length<=2/\ρ.n∈BL
 | .alter ρ=>ρ.t.length<=2/\ρ.n∈BL
 | .cut n=>n∈BL
def Chg.tell (sd:Int):Chg->Prop
 | .bring ρ=>ρ.n∈ML sd
 | .alter ρ=>ρ.n∈ML sd
 | .cut n=>n∈ML sd
def Deed.tell (sd:Int):Deed->Prop
 | .chg c=>c.tell sd
 | .all cs=>∀c∈cs,c.tell sd
 | .row n=>k_W n
 | .spot _ n=>k_W n
 | _=>True
def b_w (x:Str) (lo hi:V):Prop:=if x="text" then ∃s t,lo= .str s/\hi= .str t else ∃i j,lo= .int i/\hi= .int j
def Deed.form:Deed->Prop
 | .all cs=>cs.length<=24
 | .within x lo hi=>b_w x lo hi/\c_s x
 | .from x _ m=>c_s x/\0<=m
 | .spot x _=>c_s x
 | _=>True
def Deed.plain:Deed->Prop
 | .chg _=>True
 | .begin=>True
 | .keep=>True
 | .brk=>True
 | _=>False
def Deed.asks:Deed->Prop
 | .row _=>True
 | .within .. =>True
 | .both .. =>True
 | .from .. =>True
 | .spot .. =>True
 | _=>False
def Deed.short:Deed->Prop
 | .chg c=>c.short
 | .all cs=>∀c∈cs,c.short
 | .within _ lo hi=>(∀s,lo= .str s->s.length<=2)/\∀s,hi= .str s->s.length<=2
 | .both _ _ t=>t.length<=2
 | .row n=>Sm n
 | .spot _ n=>Sm n
 | _=>True
theorem ChgAt.mono {H H':Hp} (s:∀b xs,H b=some (.tup xs)->H' b=some (.tup xs)) {a:Addr} {c:Chg} (h:ChgAt H a c):ChgAt H' a c:=by
 cases c with
 | bring ρ=>obtain⟨r,h1,h2⟩:=h;exact⟨r,s _ _ h1,s _ _ h2⟩
 | alter ρ=>obtain⟨r,h1,h2⟩:=h;exact⟨r,s _ _ h1,s _ _ h2⟩
 | cut n=>exact s _ _ h
theorem b_c {H H':Hp} (s:∀b xs,H b=some (.tup xs)->H' b=some (.tup xs)):∀{as:List Addr} {cs:List Chg},Paired (ChgAt H) as cs->Paired (ChgAt H') as cs
 | _,_,.nil=> .nil
 | _,_,.cons h t=> .cons (h.mono s) (b_c s t)
theorem DeedAt.same {H H':Hp} (s:Same H H') {a:Addr} {d:Deed} (h:DeedAt H a d):DeedAt H' a d:=by
 cases d with
 | chg c=>exact ChgAt.mono (H:=H) (H':=H') (λb xs q=>s _ _ q) h
 | all cs=>obtain⟨l,as,h1,h2,h3⟩:=h;exact⟨l,as,s _ _ h1,s _ _ h2,b_c (λb xs q=>s _ _ q) h3⟩
 | _=>exact s _ _ h
theorem a_J {H H':Hp} (s:Same H H'):∀{as:List Addr} {ds:List Deed},Paired (DeedAt H) as ds->Paired (DeedAt H') as ds
 | _,_,.nil=> .nil
 | _,_,.cons h t=> .cons (DeedAt.same s h) (a_J s t)
theorem DeedAt.mov {H H':Hp} {f:List Addr} (m:K1.Mov H H' f) {a:Addr} {d:Deed} (h:DeedAt H a d) (hl:∀l,H a=some (.tup [.str "all",.ref l])->l∉f):DeedAt H' a d:=by
 cases d with
 | chg c=>exact ChgAt.mono (H:=H) (H':=H') (λb xs q=>m.tup q) h
 | all cs=>obtain⟨l,as,h1,h2,h3⟩:=h;exact⟨l,as,m.tup h1,m.keep _ _ h2 (hl l h1),b_c (λb xs q=>m.tup q) h3⟩
 | _=>exact m.tup h
def n_9 (H:Hp) (l:Addr) (ds:List Deed):Prop:=∃as:List Addr,H l=some (.lst (as.map V.ref))/\Paired (DeedAt H) as ds
def DeedBy (l:Addr) (H:Hp) (a:Addr) (d:Deed):Prop:=DeedAt H a d/\∀l',H a=some (.tup [.str "all",.ref l'])->l'≠l
theorem DeedAt.head {H:Hp} {a:Addr} {d:Deed} (h:DeedAt H a d):∃xs,H a=some (.tup xs):=by
 cases d with
 | chg c=>cases c with
   | bring ρ=>obtain⟨r,h1,_⟩:=h;exact⟨_,h1⟩
   | alter ρ=>obtain⟨r,h1,_⟩:=h;exact⟨_,h1⟩
   | cut n=>exact⟨_,h⟩
 | all cs=>obtain⟨l,as,h1,_⟩:=h;exact⟨_,h1⟩
 | _=>exact⟨_,h⟩
theorem DeedBy.same {l:Addr} {H H':Hp} (s:Same H H') {a:Addr} {d:Deed} (h:DeedBy l H a d):DeedBy l H' a d:=by
 obtain⟨xs,e⟩:=h.1.head;exact⟨DeedAt.same s h.1,λl' e'=>h.2 l' (by rw[s _ _ e] at e';rw[e];exact e')⟩
theorem DeedBy.upd {l:Addr} {H:Hp} {xs ys:List V} (hl:H l=some (.lst xs)) {a:Addr} {d:Deed} (h:DeedBy l H a d):DeedBy l (upd H l (.lst ys)) a d:=by
 obtain⟨zs,e⟩:=h.1.head;have m:K1.Mov H (L2.upd H l (.lst ys)) [l]:=K1.Mov.upd hl;exact⟨DeedAt.mov m h.1 λl' e' q=>h.2 l' e' (r_1.mp q),λl' e'=>h.2 l' (by rw[m.tup e] at e';rw[e];exact e')⟩
theorem d_b {l:Addr} {H H':Hp} (s:Same H H'):∀{as:List Addr} {ds:List Deed},Paired (DeedBy l H) as ds->Paired (DeedBy l H') as ds
 | _,_,.nil=> .nil
 | _,_,.cons h t=> .cons (h.same s) (d_b s t)
theorem j_g {l:Addr} {H:Hp} {xs ys:List V} (hl:H l=some (.lst xs)):∀{as:List Addr} {ds:List Deed},Paired (DeedBy l H) as ds->Paired (DeedBy l (L2.upd H l (.lst ys))) as ds
 | _,_,.nil=> .nil
 | _,_,.cons h t=> .cons (h.upd hl) (j_g hl t)
theorem f_t {l:Addr} {H:Hp}:∀{as:List Addr} {ds:List Deed},Paired (DeedBy l H) as ds->Paired (DeedAt H) as ds
 | _,_,.nil=> .nil
 | _,_,.cons h t=> .cons h.1 (f_t t)
def a_L:List Addr->List Row->List (Key×V)
 | r::rs,ρ::l=>(Sum.inl ρ.n,V.ref r)::a_L rs l
 | _,_=> []
def KeptAt (H:Hp) (d:Addr) (l:List Row):Prop:=∃rs:List Addr,H d=some (.dK (a_L rs l))/\RowsAt H rs l
theorem c_V {H:Hp}:∀{rs:List Addr} {l:List Row},RowsAt H rs l->(a_L rs l).length=l.length
 | _,_,.nil=>rfl
 | _,_,.cons _ t=>by simp only[a_L,r_2,c_V t]
theorem b_6 {H:Hp} {n:Int}:∀{rs:List Addr} {l:List Row},RowsAt H rs l->(d_J (a_L rs l) (Sum.inl n)).isSome=b_v l n/\(b_v l n=true->∃r ρ,d_J (a_L rs l) (Sum.inl n)=some (V.ref r)/\c_7 l n=some ρ/\RowAt H r ρ/\r∈rs)
 | _,_,.nil=>⟨rfl,λh=>by cases h⟩
 | r::rs,ρ::l,.cons h t=>by
   obtain⟨i1,i2⟩:=b_6 (n:=n) t;by_cases e:ρ.n=n
   ·have ek:((Sum.inl ρ.n,V.ref r):Key×V).1=Sum.inl n:=by rw[e]
    refine⟨?_, λ_=>⟨r,ρ,?_, ?_, h,r_0 ..⟩⟩
    ·simp only[a_L];rw[b_1 ek];simp[b_v,e]
    ·simp only[a_L];rw[b_1 ek]
    ·simp[c_7,e]
   ·have ek:¬ ((Sum.inl ρ.n,V.ref r):Key×V).1=Sum.inl n:=λq=>e (by injection q)
    have eh:b_v (ρ::l) n=b_v l n:=by simp[b_v,e]
    refine⟨?_, λq=> ?_⟩
    ·simp only[a_L];rw[b_t ek,i1,eh]
    ·rw[eh] at q
     obtain⟨r',ρ',h1,h2,h3,h4⟩:=i2 q;refine⟨r',ρ',?_, ?_, h3,r_Z _ h4⟩
     ·simp only[a_L];rw[b_t ek];exact h1
     ·simp only[c_7,List.find?_cons,s_D e];exact h2
theorem g_9 {H:Hp} {r:Addr} {ρ:Row} (hr:RowAt H r ρ) {rs:List Addr} {l:List Row} (h:RowsAt H rs l):∃rs',d_q (a_L rs l) (Sum.inl ρ.n) (V.ref r)=a_L rs' (c_o l ρ)/\RowsAt H rs' (c_o l ρ):=by
 have hv:=(b_6 (n:=ρ.n) h).1;unfold c_o;by_cases c:b_v l ρ.n=true
 ·rw[if_pos c]
  have a:((a_L rs l).any λkv=>decide (kv.1=Sum.inl ρ.n))=true:=by rw[d_Z,hv,c]
  have aux:∀{rs:List Addr} {l:List Row},RowsAt H rs l->∃rs',((a_L rs l).map λkv=>if kv.1=Sum.inl ρ.n then (kv.1,V.ref r) else kv)=a_L rs' (l.map λx=>if x.n=ρ.n then ρ else x)/\RowsAt H rs' (l.map λx=>if x.n=ρ.n then ρ else x):=by
   intro rs l h;induction h with
   | nil=>exact⟨[],rfl,.nil⟩
   | cons h t ih=>
     rename_i r0 ρ0 rs l;obtain⟨rs',e1,e2⟩:=ih;by_cases e:ρ0.n=ρ.n
     ·refine⟨r::rs',?_, ?_⟩
      ·simp only[a_L,s_b,e,if_true,e1]
      ·simp only[s_b,e,if_true];exact .cons hr e2
     ·have ek:¬ ((Sum.inl ρ0.n:Key)=Sum.inl ρ.n):=λq=>e (by injection q)
      refine⟨r0::rs',?_, ?_⟩
      ·simp only[a_L,s_b,if_neg ek,if_neg e,e1]
      ·simp only[s_b,if_neg e];exact .cons h e2
  obtain⟨rs',e1,e2⟩:=aux h;refine⟨rs',?_, e2⟩;unfold d_q;rw[if_pos a];exact e1
 ·rw[if_neg c]
  have hn:d_J (a_L rs l) (Sum.inl ρ.n)=none:=by
   cases e:d_J (a_L rs l) (Sum.inl ρ.n) with
   | none=>rfl
   | some u=>rw[e] at hv;exact absurd hv.symm c
  have aux:∀{rs:List Addr} {l:List Row},RowsAt H rs l->a_L rs l++ [(Sum.inl ρ.n,V.ref r)]=a_L (rs++ [r]) (l++ [ρ]):=by
   intro rs l h;induction h with
   | nil=>rfl
   | cons h t ih=>simp only[a_L,List.cons_append,ih]
  exact⟨rs++ [r],(d_8 _ hn).trans (aux h),RowsAt.app h (.cons hr .nil)⟩
theorem f_q {H:Hp} {n:Int}:∀{rs:List Addr} {l:List Row},RowsAt H rs l->∃rs',d_M (a_L rs l) (Sum.inl n)=a_L rs' (a_8 l n)/\RowsAt H rs' (a_8 l n)
 | _,_,.nil=>⟨[],rfl,.nil⟩
 | r::rs,ρ::l,.cons h t=>by
   obtain⟨rs',e1,e2⟩:=f_q (n:=n) t;by_cases e:ρ.n=n
   ·refine⟨rs',?_, ?_⟩
    ·simp only[a_L,d_M,a_8,s_l,e] at e1 ⊢;simpa using e1
    ·simp only[a_8,s_l,e] at e2 ⊢;simpa using e2
   ·have ek:¬ ((Sum.inl ρ.n:Key)=Sum.inl n):=λq=>e (by injection q)
    refine⟨r::rs',?_, ?_⟩
    ·simp only[a_L,d_M,a_8,s_l] at e1 ⊢
     simp only[ek,e,ne_eq,not_false_eq_true,decide_true,if_true,a_L,e1]
    ·simp only[a_8,s_l,e,ne_eq,not_false_eq_true,decide_true,if_true] at e2 ⊢
     exact .cons h e2
theorem _root_.K1.KeptAt.same {H H':Hp} {d:Addr} {l:List Row} (h:KeptAt H d l) (s:Same H H'):KeptAt H' d l:=by
 obtain⟨rs,h1,h2⟩:=h;exact⟨rs,s _ _ h1,h2.same λb xs q=>s _ _ q⟩
theorem _root_.K1.KeptAt.but {H H':Hp} {d kd:Addr} {l:List Row} {kvs:List (Key×V)} (h:KeptAt H d l) (hk:H kd=some (.dK kvs)) (hn:d≠kd) (s:∀b u,H b=some u->b≠kd->H' b=some u):KeptAt H' d l:=by
 obtain⟨rs,h1,h2⟩:=h;exact⟨rs,s _ _ h1 hn,h2.same λb xs q=>s _ _ q λe=>by rw[e,hk] at q;cases q⟩
abbrev a_Z:=Option Row×Option Row
def b_C (l:List Row):Option Row->List Row
 | some ρ=>a_8 l ρ.n
 | none=>l
def q_Z (l:List Row):Option Row->List Row
 | some ρ=>c_o l ρ
 | none=>l
def e_h (l:List Row) (p:a_Z):List Row:=q_Z (b_C l p.1) p.2
structure StepOk (l:List Row) (p:a_Z):Prop where
 out:∀ρ,p.1=some ρ->ρ∈l
 inn:∀ρ,p.2=some ρ->b_v (b_C l p.1) ρ.n=false
abbrev b_9 (l:List Row):Prop:=(l.map (·.n)).Nodup
theorem b_N {l:List Row} {n:Int}:b_v l n=false↔∀x∈l,x.n≠n:=by
 constructor
 ·intro h x hx e
  have:b_v l n=true:=b_z.mpr ⟨x,hx,e⟩;rw[h] at this;cases this
 ·intro h
  cases e:b_v l n with
  | false=>rfl
  | true=>
    obtain⟨x,hx,ex⟩:=b_z.mp e;exact absurd ex (h x hx)
theorem b_D {l l':List Row} (p:l.Perm l') (n:Int):b_v l n=b_v l' n:=by
 cases e:b_v l' n with
 | true=>obtain⟨x,hx,ex⟩:=b_z.mp e;exact b_z.mpr ⟨x,p.mem_iff.mpr hx,ex⟩
 | false=>exact b_N.mpr λx hx=>b_N.mp e x (p.mem_iff.mp hx)
theorem b_2 {l:List Row} {ρ:Row} (h:b_v l ρ.n=false):c_o l ρ=l++ [ρ]:=by
 unfold c_o;rw[if_neg (by rw[h];simp)]
theorem f_b {l l':List Row} (p:l.Perm l') (n:Int):(a_8 l n).Perm (a_8 l' n):=p.filter _
theorem f_l {l l':List Row} (p:l.Perm l') (o:Option Row):(b_C l o).Perm (b_C l' o):=by
 cases o with
 | none=>exact p
 | some ρ=>exact f_b p _
theorem i_2 {l l':List Row} {p:a_Z} (h:StepOk l p) (q:l.Perm l'):(e_h l p).Perm (e_h l' p):=by
 have q1:=f_l q p.1;unfold e_h;cases e:p.2 with
 | none=>exact q1
 | some ρ=>
   have h1:=h.inn ρ e;have h2:=h1;rw[b_D q1] at h2;show (c_o _ ρ).Perm (c_o _ ρ);rw[b_2 h1,b_2 h2];exact q1.append_right _
theorem StepOk.perm {l l':List Row} {p:a_Z} (h:StepOk l p) (q:l.Perm l'):StepOk l' p:=
 ⟨λρ e=>q.mem_iff.mp (h.out ρ e),λρ e=>by rw[<-b_D (f_l q p.1)];exact h.inn ρ e⟩
theorem b_U {l l':List Row} (q:l.Perm l') (h:b_9 l):b_9 l':=(q.map _).nodup_iff.mp h
theorem c_J {l:List Row} (h:b_9 l) (o:Option Row):b_9 (b_C l o):=by
 cases o with
 | none=>exact h
 | some ρ=>exact e_4 h
theorem g_g {l:List Row} (h:b_9 l) (p:a_Z):b_9 (e_h l p):=by
 unfold e_h q_Z;cases p.2 with
 | none=>exact c_J h _
 | some ρ=>exact g_i (c_J h _)
theorem i_7 {l:List Row} (h:b_9 l) {x y:Row} (hx:x∈l) (hy:y∈l) (e:x.n=y.n):x=y:=by
 induction l with
 | nil=>cases hx
 | cons a r ih=>
   rw[b_9,s_b,s_q] at h
   rcases r_7.mp hx with ex | ex <;> rcases r_7.mp hy with ey | ey
   ·rw[ex,ey]
   ·exact absurd (s_r.mpr ⟨y,ey,by rw[<-e,ex]⟩) h.1
   ·exact absurd (s_r.mpr ⟨x,ex,by rw[e,ey]⟩) h.1
   ·exact ih h.2 ex ey
theorem d_F {l:List Row} (h:b_9 l) {ρ:Row} (hm:ρ∈l):l.Perm (ρ::a_8 l ρ.n):=by
 induction l with
 | nil=>cases hm
 | cons a r ih=>
   rw[b_9,s_b,s_q] at h;by_cases e:a.n=ρ.n
   ·have ea:a=ρ:=i_7 (l:=a::r) (by rw[b_9,s_b,s_q];exact h) (r_0 ..) hm e
    subst ea
    have:a_8 (a::r) a.n=r:=by
     unfold a_8;rw[s_l,if_neg (by simp)];exact List.filter_eq_self.mpr λx hx=>s_C λq=>h.1 (s_r.mpr ⟨x,hx,q⟩)
    rw[this]
   ·have b:ρ∈r:=by
     rcases r_7.mp hm with q | q
     ·exact absurd (by rw[q]) e
     ·exact q
    have:a_8 (a::r) ρ.n=a::a_8 r ρ.n:=by
     unfold a_8;rw[s_l,if_pos (s_C e)]
    rw[this];exact ((ih h.2 b).cons a).trans (.swap ρ a _)
theorem l_b {l:List Row} {n:Int} (h:b_v l n=false):a_8 l n=l:=List.filter_eq_self.mpr λx hx=>s_C (b_N.mp h x hx)
theorem e_V (l:List Row) (n:Int):b_v (a_8 l n) n=false:=b_N.mpr λx hx=>by
 have:=(List.mem_filter.mp hx).2;exact s_E this
theorem i_1 {l:List Row} {p:a_Z} (h:b_9 l) (k:StepOk l p):StepOk (e_h l p) (p.2,p.1)/\(e_h (e_h l p) (p.2,p.1)).Perm l:=by
 obtain⟨a,b⟩:=p;have h1:b_9 (b_C l a):=c_J h a;have hb:∀ρ,b=some ρ->b_v (b_C l a) ρ.n=false:=k.inn
 have e1:(b_C (e_h l (a,b)) b).Perm (b_C l a):=by
  unfold e_h;cases b with
  | none=>exact .refl _
  | some ρ=>
    have q:=hb ρ rfl;show (a_8 (c_o (b_C l a) ρ) ρ.n).Perm _;rw[b_2 q]
    have:a_8 (b_C l a++ [ρ]) ρ.n=a_8 (b_C l a) ρ.n:=by
     unfold a_8;rw[List.filter_append];simp
    rw[this,l_b q]
 have e2:∀ρ,a=some ρ->b_v (b_C (e_h l (a,b)) b) ρ.n=false:=λρ e=>by
  rw[b_D e1];subst e;exact e_V _ _
 refine⟨⟨λρ e=> ?_, e2⟩,?_⟩
 ·have e':b=some ρ:=e
  subst e';unfold e_h;show ρ∈c_o (b_C l a) ρ;rw[b_2 (hb ρ rfl)];simp
 ·show (q_Z (b_C (e_h l (a,b)) b) a).Perm l
  cases a with
  | none=>exact e1
  | some ρ=>
    show (c_o _ ρ).Perm l;rw[b_2 (e2 ρ rfl)];refine (e1.append_right [ρ]).trans ?_;refine (List.perm_append_singleton ρ _).trans ?_;exact (d_F h (k.out ρ rfl)).symm
theorem h_0 (l:List Row) (o:Option Row):(b_C l o).length<=l.length:=by
 cases o with
 | none=>exact r_5 _
 | some ρ=>exact s_x _ _
theorem o_n {l:List Row} {p:a_Z} (k:StepOk l p):(e_h l p).length<=l.length+1:=by
 have h:=h_0 l p.1;unfold e_h;cases e:p.2 with
 | none=>exact s_h h (Nat.le_succ _)
 | some ρ=>
   show (c_o _ ρ).length<=_;rw[b_2 (k.inn ρ e),r_Y];simp only[r_2,s_w];omega
inductive Hs (N:Nat):List Row->List a_Z->List Nat->List (List Row)->Prop
 | nil {l:List Row}:l.length<=N->b_9 l->Hs N l [] [] []
 | mark {l k:List Row} {st:List a_Z} {ms:List Nat} {ks:List (List Row)}:k.Perm l->Hs N l st ms ks->Hs N l st (st.length::ms) (k::ks)
 | step {l l':List Row} {p:a_Z} {st:List a_Z} {ms:List Nat} {ks:List (List Row)}:ms≠ []->StepOk l p->l'.Perm (e_h l p)->l'.length<=N->Hs N l st ms ks->Hs N l' (p::st) ms ks
theorem Hs.nums {N:Nat} {l:List Row} {st:List a_Z} {ms:List Nat} {ks:List (List Row)} (h:Hs N l st ms ks):b_9 l:=by
 induction h with
 | nil _ q=>exact q
 | mark _ _ ih=>exact ih
 | step _ k q _ _ ih=>exact b_U q.symm (g_g ih _)
theorem Hs.le {N:Nat} {l:List Row} {st:List a_Z} {ms:List Nat} {ks:List (List Row)} (h:Hs N l st ms ks):l.length<=N:=by
 induction h with
 | nil q _=>exact q
 | mark _ _ ih=>exact ih
 | step _ _ _ q _ _=>exact q
theorem Hs.mono {N M:Nat} (hM:N<=M) {l:List Row} {st:List a_Z} {ms:List Nat} {ks:List (List Row)} (h:Hs N l st ms ks):Hs M l st ms ks:=by
 induction h with
 | nil q n=>exact .nil (s_h q hM) n
 | mark p _ ih=>exact .mark p ih
 | step a b c d _ ih=>exact .step a b c (s_h d hM) ih
theorem Hs.perm {N:Nat} {l l':List Row} {st:List a_Z} {ms:List Nat} {ks:List (List Row)} (h:Hs N l st ms ks) (q:l.Perm l'):Hs N l' st ms ks:=by
 induction h generalizing l' with
 | nil a n=>exact .nil (by rw[<-q.length_eq];exact a) (b_U q n)
 | mark p _ ih=>exact .mark (p.trans q) (ih q)
 | step a b c d e _=>exact .step a b (q.symm.trans c) (by rw[<-q.length_eq];exact d) e
theorem Hs.lens {N:Nat} {l:List Row} {st:List a_Z} {ms:List Nat} {ks:List (List Row)} (h:Hs N l st ms ks):ms.length=ks.length:=by
 induction h with
 | nil _ _=>rfl
 | mark _ _ ih=>simp[ih]
 | step _ _ _ _ _ ih=>exact ih
theorem Hs.none {N:Nat} {l:List Row} {st:List a_Z} {ks:List (List Row)} (h:Hs N l st [] ks):st= []/\ks= []:=by
 cases h with
 | nil _ _=>exact⟨rfl,rfl⟩
 | step a _ _ _ _=>exact absurd rfl a
theorem Hs.mle {N:Nat}:∀{l:List Row} {st:List a_Z} {ms:List Nat} {ks:List (List Row)},Hs N l st ms ks->∀m∈ms,m<=st.length
 | _,_,_,_,.nil _ _,m,hm=>by cases hm
 | _,_,_,_,.mark _ h,m,hm=>by
   rcases r_7.mp hm with e | e
   ·rw[e];exact r_5 _
   ·exact h.mle m e
 | _,_,_,_,.step _ _ _ _ h,m,hm=>Nat.le_succ_of_le (h.mle m hm)
theorem Hs.keep {N:Nat} {m:Nat} {k:List Row} {ms:List Nat} {ks:List (List Row)} (hn:ms≠ []):∀{l:List Row} {st:List a_Z},Hs N l st (m::ms) (k::ks)->Hs N l st ms ks
 | _,_,.mark _ h=>h
 | _,_,.step a b c d h=> .step hn b c d (Hs.keep hn h)
theorem Hs.back {N:Nat} {m:Nat} {k l:List Row} {p:a_Z} {st:List a_Z} {ms:List Nat} {ks:List (List Row)} (h:Hs N l (p::st) (m::ms) (k::ks)) (hm:m<=st.length):
 StepOk l (p.2,p.1)/\Hs N (e_h l (p.2,p.1)) st (m::ms) (k::ks):=by
 cases h with
 | mark p2 h2=>exact absurd hm (by simp)
 | step a b c d h2=>
   obtain⟨q1,q2⟩:=i_1 h2.nums b;have q3:=q1.perm c.symm;exact⟨q3,h2.perm (q2.symm.trans (i_2 q1 c.symm))⟩
theorem Hs.at {N:Nat} {m:Nat} {k l:List Row} {st:List a_Z} {ms:List Nat} {ks:List (List Row)} (h:Hs N l st (m::ms) (k::ks)) (hm:st.length<=m):k.Perm l/\Hs N l st ms ks:=by
 cases h with
 | mark p h2=>exact⟨p,h2⟩
 | step a b c d h2=>
   have:=h2.mle m (r_0 ..);simp only[r_2] at hm;omega
theorem c_M {l:List Row} {n:Int} (h:b_v l n=true):∃ρ,c_7 l n=some ρ/\ρ∈l/\ρ.n=n:=by
 unfold c_7;cases e:l.find? λx=>decide (x.n=n) with
 | none=>
   obtain⟨x,hx,ex⟩:=b_z.mp h;exact absurd (List.find?_eq_none.mp e x hx) (by simp[ex])
 | some ρ=>
   have h1:=List.find?_some e;exact⟨ρ,rfl,List.mem_of_find?_eq_some e,by simpa using h1⟩
theorem b_P {l:List Row} {n:Int} (h:b_v l n=false):c_7 l n=none:=by
 unfold c_7;exact List.find?_eq_none.mpr λx hx=>by simpa using b_N.mp h x hx
theorem i_g {l:List Row} (hl:b_9 l) {ρ:Row} (hm:ρ∈l):c_7 l ρ.n=some ρ:=by
 obtain⟨x,h1,h2,h3⟩:=c_M (b_z.mpr ⟨ρ,hm,rfl⟩);rw[h1,i_7 hl h2 hm h3]
theorem e_3 {l l':List Row} (hl:b_9 l) (p:l.Perm l') (n:Int):c_7 l n=c_7 l' n:=by
 cases e:b_v l n with
 | true=>
   obtain⟨x,h1,h2,h3⟩:=c_M e;rw[h1,<-h3];exact (i_g (b_U p hl) (p.mem_iff.mp h2)).symm
 | false=>
   rw[b_P e,b_P (by rw[<-b_D p];exact e)]
theorem l_n {l:List Row} {ρ:Row} (h:b_v l ρ.n=false):StepOk l (none,some ρ):=⟨λ_ e=>(by cases e),λx e=>(by cases e;exact h)⟩
theorem l_h {l:List Row} {ρ κ:Row} (h:κ∈l) (e:κ.n=ρ.n):StepOk l (some κ,some ρ):=⟨λ_ q=>(by cases q;exact h),λx q=>by cases q;show b_v (a_8 l κ.n) ρ.n=false;rw[<-e];exact e_V _ _⟩
theorem o_P {l:List Row} {κ:Row} (h:κ∈l):StepOk l (some κ,none):=⟨λ_ q=>(by cases q;exact h),λx q=>by cases q⟩
theorem l_2 {l:List Row} (hl:b_9 l) {ρ κ:Row} (h:κ∈l) (e:κ.n=ρ.n):(e_h l (some κ,some ρ)).Perm (c_o l ρ):=by
 show (c_o (a_8 l κ.n) ρ).Perm _;rw[b_2 (by rw[<-e];exact e_V _ _)];refine (List.perm_append_singleton ρ _).trans ?_;have hh:b_v l ρ.n=true:=b_z.mpr ⟨κ,h,e⟩;unfold c_o;rw[if_pos hh,e];clear hh;induction l with
 | nil=>cases h
 | cons a r ih=>
   have b:=hl;rw[b_9,s_b,s_q] at hl;by_cases q:a.n=ρ.n
   ·have hr:∀x∈r,x.n≠ρ.n:=λx hx z=>hl.1 (s_r.mpr ⟨x,hx,z.trans q.symm⟩)
    have e1:a_8 (a::r) ρ.n=r:=by
     unfold a_8;rw[s_l,if_neg (by simp[q])];exact List.filter_eq_self.mpr λx hx=>s_C (hr x hx)
    have e2:(r.map λx=>if x.n=ρ.n then ρ else x)=r:=by
     conv=>rhs;rw[<-List.map_id r]
     exact List.map_congr_left λx hx=>by rw[if_neg (hr x hx)];rfl
    rw[e1,s_b,if_pos q,e2]
   ·have hm:κ∈r:=by
     rcases r_7.mp h with z | z
     ·exact absurd (by rw[<-z];exact e) q
     ·exact z
    have e1:a_8 (a::r) ρ.n=a::a_8 r ρ.n:=by
     unfold a_8;rw[s_l,if_pos (s_C q)]
    rw[e1,s_b,if_neg q];exact (List.Perm.swap a ρ _).trans ((ih hl.2 hm).cons a)
theorem f_6 {l l':List Row} (p:l.Perm l') (ρ:Row):(c_o l ρ).Perm (c_o l' ρ):=by
 unfold c_o;rw[b_D p];split
 ·exact p.map _
 ·exact p.append_right _
end TO
namespace K1
open PySem L2 TO
theorem j_J {X:Cx} {st:Stmt} {t t':TS} (h:PS X st t) (hw:∀D σ H,t' D σ H->t D σ H):PS X st t':=λpins s σ H D I q=>h pins s σ H D I (hw D σ H q)
theorem l_I {X:Cx} {st:List Stmt} {t t':TS} (h:PSs X st t) (hw:∀D σ H,t' D σ H->t D σ H):PSs X st t':=λpins s σ H D I q=>h pins s σ H D I (hw D σ H q)
def c_e (room:Int) (nb o1 o2 sl ml:Addr):List (Str×V):= [("room",.int room),("by_number",.ref nb),("by_rank",.ref o1),("by_text",.ref o2),("steps",.ref sl),("marks",.ref ml)]
theorem f_i {k:Str} {v:V} {r:List (Str×V)}:((k,v)::r).lookup k=some v:=by simp[List.lookup]
theorem a_2 {m k:Str} {v:V} {r:List (Str×V)} (h:¬ m=k):((k,v)::r).lookup m=r.lookup m:=by
 simp only[List.lookup,beq_eq_false_iff_ne.mpr h]
section
variable {room:Int} {nb o1 o2 sl ml:Addr}
theorem n_b:(c_e room nb o1 o2 sl ml).lookup ("room":Str)=some (.int room):=f_i
theorem e_2:(c_e room nb o1 o2 sl ml).lookup ("by_number":Str)=some (.ref nb):=(a_2 (by decide+kernel)).trans f_i
theorem f_M:(c_e room nb o1 o2 sl ml).lookup ("by_rank":Str)=some (.ref o1):=(a_2 (by decide+kernel)).trans ((a_2 (by decide+kernel)).trans f_i)
theorem e_I:(c_e room nb o1 o2 sl ml).lookup ("by_text":Str)=some (.ref o2):=(a_2 (by decide+kernel)).trans ((a_2 (by decide+kernel)).trans ((a_2 (by decide+kernel)).trans f_i))
theorem d_2:(c_e room nb o1 o2 sl ml).lookup ("steps":Str)=some (.ref sl):=(a_2 (by decide+kernel)).trans ((a_2 (by decide+kernel)).trans ((a_2 (by decide+kernel)).trans ((a_2 (by decide+kernel)).trans f_i)))
theorem d_n:(c_e room nb o1 o2 sl ml).lookup ("marks":Str)=some (.ref ml):=(a_2 (by decide+kernel)).trans ((a_2 (by decide+kernel)).trans ((a_2 (by decide+kernel)).trans ((a_2 (by decide+kernel)).trans ((a_2 (by decide+kernel)).trans f_i))))
theorem d_H {m:Str} (h1:¬ m="room") (h2:¬ m="by_number") (h3:¬ m="by_rank") (h4:¬ m="by_text") (h5:¬ m="steps") (h6:¬ m="marks"):(c_e room nb o1 o2 sl ml).lookup m=none:=
 (a_2 h1).trans ((a_2 h2).trans ((a_2 h3).trans ((a_2 h4).trans ((a_2 h5).trans (a_2 h6)))))
theorem a_5 {f g:Str} {v x:V} {r:List (Str×V)} (h:¬ g=f):d_C f v ((g,x)::r)=(g,x)::d_C f v r:=if_neg h
theorem n_F {f:Str} {v x:V} {r:List (Str×V)}:d_C f v ((f,x)::r)=(f,v)::r:=if_pos rfl
theorem o_x (sl':Addr):d_C ("steps":Str) (.ref sl') (c_e room nb o1 o2 sl ml)=c_e room nb o1 o2 sl' ml:=by
 unfold c_e;rw[a_5 (by decide+kernel),a_5 (by decide+kernel),a_5 (by decide+kernel),a_5 (by decide+kernel),n_F]
end
structure Ads where
 o:Addr
 dx:Addr
 nb:Addr
 o1:Addr
 o2:Addr
 sl:Addr
 ml:Addr
 bl1:Addr
 bl2:Addr
 bas1:List Addr
 bas2:List Addr
 sas:List Addr
def Ads.ls (A:Ads):List Addr:=A.sl::A.ml::(A.bl1::A.bas1++A.bl2::A.bas2)
def Ads.fp (A:Ads):List Addr:=A.o::A.nb::A.ls
def OptAt (H:Hp) (v:V):Option Row->Prop
 | none=>v= .non
 | some ρ=>∃r,v= .ref r/\RowAt H r ρ
def StepAt (H:Hp) (a:Addr) (p:a_Z):Prop:=∃u v,H a=some (.tup [u,v])/\OptAt H u p.1/\OptAt H v p.2
abbrev a_M (H H':Hp):Prop:=∀b xs,H b=some (.tup xs)->H' b=some (.tup xs)
theorem OptAt.tk {H H':Hp} (t:a_M H H') {v:V} {o:Option Row} (h:OptAt H v o):OptAt H' v o:=by
 cases o with
 | none=>exact h
 | some ρ=>obtain⟨r,h1,h2⟩:=h;exact⟨r,h1,t _ _ h2⟩
theorem StepAt.tk {H H':Hp} (t:a_M H H') {a:Addr} {p:a_Z} (h:StepAt H a p):StepAt H' a p:=by
 obtain⟨u,v,h1,h2,h3⟩:=h;exact⟨u,v,t _ _ h1,h2.tk t,h3.tk t⟩
theorem c_p {H H':Hp} (t:a_M H H'):∀{as:List Addr} {ps:List a_Z},Paired (StepAt H) as ps->Paired (StepAt H') as ps
 | _,_,.nil=> .nil
 | _,_,.cons h r=> .cons (h.tk t) (c_p t r)
structure StrC (CS CO:Addr) (H:Hp) (A:Ads) (room:Int) (ln l1 l2:List Row) (st:List a_Z) (ms:List Nat):Prop where
 ob:H A.o=some (.ins CS A.dx (c_e room A.nb A.o1 A.o2 A.sl A.ml))
 nb:KeptAt H A.nb ln
 O1:∃B,OrdAt CO false H A.o1 A.bl1 A.bas1 B/\GoodB false B/\B.flatten.Perm l1
 O2:∃B,OrdAt CO true H A.o2 A.bl2 A.bas2 B/\GoodB true B/\B.flatten.Perm l2
 sls:H A.sl=some (.lst (A.sas.map V.ref))
 sts:Paired (StepAt H) A.sas st.reverse
 mls:H A.ml=some (.lst (ms.reverse.map λm:Nat=>V.int m))
 nd:A.ls.Nodup
structure Mvd (H H':Hp) (f:List Addr):Prop where
 keep:∀b u,H b=some u->b∉f->H' b=some u
 kind:∀b∈f,∀u,H b=some u->(∃xs,u= .lst xs)\/∃kvs,u= .dK kvs
section
variable {H H':Hp} {f:List Addr}
theorem Mvd.tup (m:Mvd H H' f):a_M H H':=λb xs h=>m.keep b _ h λhb=>by
 rcases m.kind b hb _ h with⟨ys,e⟩ | ⟨ys,e⟩ <;> cases e
theorem Mvd.ins (m:Mvd H H' f) {b C d:Addr} {fl:List (Str×V)} (h:H b=some (.ins C d fl)):H' b=some (.ins C d fl):=m.keep b _ h λhb=>by
 rcases m.kind b hb _ h with⟨ys,e⟩ | ⟨ys,e⟩ <;> cases e
theorem Mvd.lstAt (m:Mvd H H' f) {l:Addr} {ρs:List Row} (h:LstAt H l ρs) (hl:l∉f):LstAt H' l ρs:=by
 obtain⟨as,h1,h2⟩:=h;exact⟨as,m.keep l _ h1 hl,h2.same m.tup⟩
theorem Mvd.lsts (m:Mvd H H' f):∀{bas:List Addr} {B:List (List Row)},Paired (LstAt H) bas B->(∀b∈bas,b∉f)->Paired (LstAt H') bas B
 | _,_,.nil,_=> .nil
 | _,_,.cons h t,hn=> .cons (m.lstAt h (hn _ (r_0 ..))) (m.lsts t λb hb=>hn b (r_Z _ hb))
theorem Mvd.ord (m:Mvd H H' f) {C:Addr} {w:Bool} {o bl:Addr} {bas:List Addr} {B:List (List Row)} (h:OrdAt C w H o bl bas B) (hn:∀b∈bl::bas,b∉f):OrdAt C w H' o bl bas B:=by
 obtain⟨⟨dx,h1⟩,h2,h3,h4⟩:=h;exact⟨⟨dx,m.ins h1⟩,m.keep _ _ h2 (hn _ (r_0 ..)),m.lsts h3 λb hb=>hn b (r_Z _ hb),h4⟩
theorem Mvd.kept (m:Mvd H H' f) {d:Addr} {l:List Row} (h:KeptAt H d l) (hd:d∉f):KeptAt H' d l:=by
 obtain⟨rs,h1,h2⟩:=h;exact⟨rs,m.keep _ _ h1 hd,h2.same m.tup⟩
theorem Stp.refl (f:List Addr):Stp H H f f:=⟨λ_ _ h _=>h,λ_ h=> .inl h⟩
theorem Stp.wide {g g' f f':List Addr} (s:Stp H H' g g') (h1:∀b∈g,b∈f) (h2:∀b∈f',b∈f\/b∈g'):Stp H H' f f':=⟨λb u h hn=>s.keep b u h λq=>hn (h1 b q),λb hb=>by
 rcases h2 b hb with q | q
 ·exact .inl q
 ·rcases s.new b q with z | z
  ·exact .inl (h1 b z)
  ·exact .inr z⟩
end
section
variable {CS CO:Addr} {H H':Hp} {A:Ads} {room:Int} {ln l1 l2:List Row} {st:List a_Z} {ms:List Nat}
theorem StrC.list (h:StrC CS CO H A room ln l1 l2 st ms):∀b∈A.ls,∃xs,H b=some (.lst xs):=λb hb=>by
 obtain⟨B1,O1,_⟩:=h.O1;obtain⟨B2,O2,_⟩:=h.O2
 have hl:∀{w:Bool} {o bl:Addr} {bas:List Addr} {B:List (List Row)},OrdAt CO w H o bl bas B->∀b∈bl::bas,∃xs,H b=some (.lst xs):=λO b hb=>by
  rcases r_7.mp hb with e | e
  ·rw[e];exact⟨_,O.ls⟩
  ·exact e_m O.bs b e
 simp only[Ads.ls,r_7] at hb;rcases hb with e | e | e
 ·rw[e];exact⟨_,h.sls⟩
 ·rw[e];exact⟨_,h.mls⟩
 ·rcases s_e.mp e with q | q
  ·exact hl O1 b q
  ·exact hl O2 b q
theorem StrC.nbls (h:StrC CS CO H A room ln l1 l2 st ms):A.nb∉A.ls:=λhb=>by
 obtain⟨xs,e⟩:=h.list _ hb;obtain⟨rs,e2,_⟩:=h.nb;rw[e] at e2;cases e2
theorem StrC.mvd (h:StrC CS CO H A room ln l1 l2 st ms) {f:List Addr} (m:Mvd H H' f) (hf:∀b∈f,b∉A.fp):StrC CS CO H' A room ln l1 l2 st ms:=by
 have hx:∀b∈A.nb::A.ls,b∉f:=λb hb hc=>hf b hc (r_Z _ hb);have hl:∀b∈A.ls,b∉f:=λb hb=>hx b (r_Z _ hb);obtain⟨B1,O1,g1⟩:=h.O1;obtain⟨B2,O2,g2⟩:=h.O2
 exact⟨m.ins h.ob,m.kept h.nb (hx _ (r_0 ..)),⟨B1,m.ord O1 λb hb=>hl b (by unfold Ads.ls;simp only[r_7,s_e] at hb ⊢;grind),g1⟩,⟨B2,m.ord O2 λb hb=>hl b (by unfold Ads.ls;simp only[r_7,s_e] at hb ⊢;grind),g2⟩,
  m.keep _ _ h.sls (hl _ (by simp[Ads.ls])),c_p m.tup h.sts,m.keep _ _ h.mls (hl _ (by simp[Ads.ls])),h.nd⟩
theorem StrC.same (h:StrC CS CO H A room ln l1 l2 st ms) (s:Same H H'):StrC CS CO H' A room ln l1 l2 st ms:=h.mvd (f:= []) ⟨λb u q _=>s b u q,λb hb=>by cases hb⟩ λb hb=>by cases hb
theorem StrC.setNb (h:StrC CS CO H A room ln l1 l2 st ms) {ln':List Row} (k:KeptAt H' A.nb ln') (kp:∀b u,H b=some u->b≠A.nb->H' b=some u):StrC CS CO H' A room ln' l1 l2 st ms:=by
 have m:Mvd H H' [A.nb]:=⟨λb u q hn=>kp b u q λe=>hn (by rw[e];exact r_1.mpr rfl),λb hb u hu=>by
  obtain⟨rs,e,_⟩:=h.nb;rw[r_1.mp hb,e] at hu;exact .inr ⟨_,(r_3 hu).symm⟩⟩
 have hl:∀b∈A.ls,b∉ [A.nb]:=λb hb hc=>h.nbls (by rw[<-r_1.mp hc];exact hb);obtain⟨B1,O1,g1⟩:=h.O1;obtain⟨B2,O2,g2⟩:=h.O2
 exact⟨m.ins h.ob,k,⟨B1,m.ord O1 λb hb=>hl b (by unfold Ads.ls;simp only[r_7,s_e] at hb ⊢;grind),g1⟩,⟨B2,m.ord O2 λb hb=>hl b (by unfold Ads.ls;simp only[r_7,s_e] at hb ⊢;grind),g2⟩,
  m.keep _ _ h.sls (hl _ (by simp[Ads.ls])),c_p m.tup h.sts,m.keep _ _ h.mls (hl _ (by simp[Ads.ls])),h.nd⟩
theorem StrC.stpNb (h:StrC CS CO H A room ln l1 l2 st ms) (kp:∀b u,H b=some u->b≠A.nb->H' b=some u):Stp H H' A.fp A.fp:=⟨λb u q hn=>kp b u q λe=>hn (by rw[e];simp[Ads.fp]),λb hb=> .inl hb⟩
theorem f_y (A:Ads):A.ls.Nodup↔A.sl≠A.ml/\(∀b∈A.bl1::A.bas1,b≠A.sl/\b≠A.ml)/\(∀b∈A.bl2::A.bas2,b≠A.sl/\b≠A.ml)/\(A.bl1::A.bas1).Nodup/\(A.bl2::A.bas2).Nodup/\∀b∈A.bl1::A.bas1,b∉A.bl2::A.bas2:=by
 unfold Ads.ls;generalize e1:A.bl1::A.bas1=f;generalize e2:A.bl2::A.bas2=g;rw[s_q,s_q,List.nodup_append];simp only[r_7,s_e,not_or];constructor
 ·rintro⟨⟨a1,a2,a3⟩,⟨b1,b2⟩,c1,c2,c3⟩
  exact⟨a1,λb hb=>⟨λe=>a2 (e ▸ hb),λe=>b1 (e ▸ hb)⟩,λb hb=>⟨λe=>a3 (e ▸ hb),λe=>b2 (e ▸ hb)⟩,c1,c2,λb hb hc=>c3 b hb b hc rfl⟩
 ·rintro⟨a,b,c,d,e,g'⟩
  exact⟨⟨a,λz=>(b _ z).1 rfl,λz=>(c _ z).1 rfl⟩,⟨λz=>(b _ z).2 rfl,λz=>(c _ z).2 rfl⟩,d,e,λx hx y hy q=>g' x hx (q ▸ hy)⟩
theorem Mvd.of_stp {C:Addr} {w:Bool} {o bl:Addr} {bas f':List Addr} {B:List (List Row)} (h:OrdAt C w H o bl bas B) (S:Stp H H' (bl::bas) f'):Mvd H H' (bl::bas):=⟨S.keep,λb hb u hu=>by
 left;rcases r_7.mp hb with e | e
 ·rw[e,h.ls] at hu;exact⟨_,(r_3 hu).symm⟩
 ·obtain⟨xs,q⟩:=e_m h.bs b e
  rw[q] at hu;exact⟨_,(r_3 hu).symm⟩⟩
theorem StrC.setO1 (h:StrC CS CO H A room ln l1 l2 st ms) {bas':List Addr} {B':List (List Row)} {l':List Row} (S:Stp H H' (A.bl1::A.bas1) (A.bl1::bas')) (O:OrdAt CO false H' A.o1 A.bl1 bas' B') (G:GoodB false B') (p:B'.flatten.Perm l'):
 StrC CS CO H' { A with bas1:=bas' } room ln l' l2 st ms/\Stp H H' A.fp ({ A with bas1:=bas' }:Ads).fp:=by
 obtain⟨B1,O1,g1⟩:=h.O1;obtain⟨B2,O2,g2⟩:=h.O2;have m:=Mvd.of_stp O1 S;obtain⟨n1,n2,n3,n4,n5,n6⟩:=(f_y A).mp h.nd;have d:∀b∈A.bl1::A.bas1,b∈A.ls:=λb hb=>by unfold Ads.ls;simp only[r_7,s_e] at hb ⊢;grind
 have a:∀b∈A.bl1::bas',b∈A.bl1::A.bas1\/H b=none:=S.new;have c:∀b,H b=none->b∉A.ls:=λb hb hc=>by obtain⟨xs,e⟩:=h.list b hc;rw[hb] at e;cases e
 refine⟨⟨m.ins h.ob,m.kept h.nb λhc=>h.nbls (d _ hc),⟨B',O,G,p⟩,⟨B2,m.ord O2 λb hb hc=>n6 b hc hb,g2⟩,m.keep _ _ h.sls λhc=>(n2 _ hc).1 rfl,c_p m.tup h.sts,m.keep _ _ h.mls λhc=>(n2 _ hc).2 rfl,?_⟩,?_⟩
 ·refine (f_y _).mpr ⟨n1,λb hb=> ?_, n3,O.nd,n5,λb hb=> ?_⟩
  ·rcases a b hb with q | q
   ·exact n2 b q
   ·exact⟨λe=>c b q (by rw[e];simp[Ads.ls]),λe=>c b q (by rw[e];simp[Ads.ls])⟩
  ·rcases a b hb with q | q
   ·exact n6 b q
   ·exact λhc=>c b q (by unfold Ads.ls;simp only[r_7,s_e] at hc ⊢;grind)
 ·refine S.wide (λb hb=> ?_) λb hb=> ?_
  ·exact r_Z _ (r_Z _ (d b hb))
  ·simp only[Ads.fp,Ads.ls,r_7,s_e] at hb ⊢
   grind
theorem StrC.setO2 (h:StrC CS CO H A room ln l1 l2 st ms) {bas':List Addr} {B':List (List Row)} {l':List Row} (S:Stp H H' (A.bl2::A.bas2) (A.bl2::bas')) (O:OrdAt CO true H' A.o2 A.bl2 bas' B') (G:GoodB true B') (p:B'.flatten.Perm l'):
 StrC CS CO H' { A with bas2:=bas' } room ln l1 l' st ms/\Stp H H' A.fp ({ A with bas2:=bas' }:Ads).fp:=by
 obtain⟨B1,O1,g1⟩:=h.O1;obtain⟨B2,O2,g2⟩:=h.O2;have m:=Mvd.of_stp O2 S;obtain⟨n1,n2,n3,n4,n5,n6⟩:=(f_y A).mp h.nd;have d:∀b∈A.bl2::A.bas2,b∈A.ls:=λb hb=>by unfold Ads.ls;simp only[r_7,s_e] at hb ⊢;grind
 have a:∀b∈A.bl2::bas',b∈A.bl2::A.bas2\/H b=none:=S.new;have c:∀b,H b=none->b∉A.ls:=λb hb hc=>by obtain⟨xs,e⟩:=h.list b hc;rw[hb] at e;cases e
 refine⟨⟨m.ins h.ob,m.kept h.nb λhc=>h.nbls (d _ hc),⟨B1,m.ord O1 λb hb hc=>n6 b hb hc,g1⟩,⟨B',O,G,p⟩,m.keep _ _ h.sls λhc=>(n3 _ hc).1 rfl,c_p m.tup h.sts,m.keep _ _ h.mls λhc=>(n3 _ hc).2 rfl,?_⟩,?_⟩
 ·refine (f_y _).mpr ⟨n1,n2,λb hb=> ?_, n4,O.nd,λb hb hc=> ?_⟩
  ·rcases a b hb with q | q
   ·exact n3 b q
   ·exact⟨λe=>c b q (by rw[e];simp[Ads.ls]),λe=>c b q (by rw[e];simp[Ads.ls])⟩
  ·rcases a b hc with q | q
   ·exact n6 b hb q
   ·exact c b q (by unfold Ads.ls;simp only[r_7,s_e] at hb ⊢;grind)
 ·refine S.wide (λb hb=> ?_) λb hb=> ?_
  ·exact r_Z _ (r_Z _ (d b hb))
  ·simp only[Ads.fp,Ads.ls,r_7,s_e] at hb ⊢
   grind
theorem StrC.setSl (h:StrC CS CO H A room ln l1 l2 st ms) {sas':List Addr} {st':List a_Z} {H':Hp} (e:H'=upd H A.sl (.lst (sas'.map V.ref))) (p:Paired (StepAt H) sas' st'.reverse):
 StrC CS CO H' { A with sas:=sas' } room ln l1 l2 st' ms/\Stp H H' A.fp ({ A with sas:=sas' }:Ads).fp:=by
 subst e
 have m:Mvd H (upd H A.sl (.lst (sas'.map V.ref))) [A.sl]:=⟨λb u q hn=>by rw[a_i λe=>hn (by rw[e];exact r_1.mpr rfl)];exact q,λb hb u hu=>by
  rw[r_1.mp hb,h.sls] at hu;exact .inl ⟨_,(r_3 hu).symm⟩⟩
 obtain⟨n1,n2,n3,n4,n5,n6⟩:=(f_y A).mp h.nd;obtain⟨B1,O1,g1⟩:=h.O1;obtain⟨B2,O2,g2⟩:=h.O2
 refine⟨⟨m.ins h.ob,m.kept h.nb λhc=>h.nbls (by rw[r_1.mp hc];simp[Ads.ls]),⟨B1,m.ord O1 λb hb hc=>(n2 b hb).1 (r_1.mp hc),g1⟩,⟨B2,m.ord O2 λb hb hc=>(n3 b hb).1 (r_1.mp hc),g2⟩,
  a_b,c_p m.tup p,m.keep _ _ h.mls λhc=>n1 (r_1.mp hc).symm,h.nd⟩,⟨λb u q hn=>m.keep b u q λhc=>hn (by rw[r_1.mp hc];simp[Ads.fp,Ads.ls]),λb hb=> .inl hb⟩⟩
theorem StrC.setMl (h:StrC CS CO H A room ln l1 l2 st ms) {ms':List Nat} {H':Hp} (e:H'=upd H A.ml (.lst (ms'.reverse.map λm:Nat=>V.int m))):StrC CS CO H' A room ln l1 l2 st ms'/\Stp H H' A.fp A.fp:=by
 subst e
 have m:Mvd H (upd H A.ml (.lst (ms'.reverse.map λm:Nat=>V.int m))) [A.ml]:=⟨λb u q hn=>by rw[a_i λe=>hn (by rw[e];exact r_1.mpr rfl)];exact q,λb hb u hu=>by
  rw[r_1.mp hb,h.mls] at hu;exact .inl ⟨_,(r_3 hu).symm⟩⟩
 obtain⟨n1,n2,n3,n4,n5,n6⟩:=(f_y A).mp h.nd;obtain⟨B1,O1,g1⟩:=h.O1;obtain⟨B2,O2,g2⟩:=h.O2
 exact⟨⟨m.ins h.ob,m.kept h.nb λhc=>h.nbls (by rw[r_1.mp hc];simp[Ads.ls]),⟨B1,m.ord O1 λb hb hc=>(n2 b hb).2 (r_1.mp hc),g1⟩,⟨B2,m.ord O2 λb hb hc=>(n3 b hb).2 (r_1.mp hc),g2⟩,
  m.keep _ _ h.sls λhc=>n1 (r_1.mp hc),c_p m.tup h.sts,a_b,h.nd⟩,⟨λb u q hn=>m.keep b u q λhc=>hn (by rw[r_1.mp hc];simp[Ads.fp,Ads.ls]),λb hb=> .inl hb⟩⟩
theorem StrC.newSl (cc:CS≠CO) (h:StrC CS CO H A room ln l1 l2 st ms) {sl':Addr} (hs:H sl'=none):StrC CS CO (upd (upd H sl' (.lst [])) A.o (.ins CS A.dx (c_e room A.nb A.o1 A.o2 sl' A.ml))) { A with sl:=sl',sas:= [] } room ln l1 l2 [] ms/\
 Stp H (upd (upd H sl' (.lst [])) A.o (.ins CS A.dx (c_e room A.nb A.o1 A.o2 sl' A.ml))) A.fp ({ A with sl:=sl',sas:= [] }:Ads).fp:=by
 have h1:=h.same (Same.upd_new (o:= .lst []) hs);have f:sl'≠A.o:=λe=>by rw[e,h.ob] at hs;cases hs
 have kp:∀b u,(upd H sl' (.lst [])) b=some u->b≠A.o->(upd (upd H sl' (.lst [])) A.o (.ins CS A.dx (c_e room A.nb A.o1 A.o2 sl' A.ml))) b=some u:=λb u q hn=>by rw[a_i hn];exact q
 have tk:a_M (upd H sl' (.lst [])) (upd (upd H sl' (.lst [])) A.o (.ins CS A.dx (c_e room A.nb A.o1 A.o2 sl' A.ml))):=λb xs q=>kp b _ q λe=>by rw[e,h1.ob] at q;cases q
 have lk:∀b xs,(upd H sl' (.lst [])) b=some (.lst xs)->b≠A.o:=λb xs q e=>by rw[e,h1.ob] at q;cases q
 obtain⟨n1,n2,n3,n4,n5,n6⟩:=(f_y A).mp h.nd;have c:∀b∈A.ls,b≠sl':=λb hb e=>by obtain⟨xs,q⟩:=h.list b hb;rw[e,hs] at q;cases q
 have ordk:∀{w:Bool} {o bl:Addr} {bas:List Addr} {B:List (List Row)},OrdAt CO w (upd H sl' (.lst [])) o bl bas B->OrdAt CO w (upd (upd H sl' (.lst [])) A.o (.ins CS A.dx (c_e room A.nb A.o1 A.o2 sl' A.ml))) o bl bas B:=λ{w o bl bas B} O=>by
  obtain⟨⟨d,q1⟩,q2,q3,q4⟩:=O;refine⟨⟨d,kp _ _ q1 λe=> ?_⟩,kp _ _ q2 (lk _ _ q2),?_, q4⟩
  ·rw[e,h1.ob] at q1
   injection q1 with q1
   injection q1 with q1
   exact cc q1
  ·have aux:∀{bas:List Addr} {B:List (List Row)},Paired (LstAt (upd H sl' (.lst []))) bas B→Paired (LstAt (upd (upd H sl' (.lst [])) A.o (.ins CS A.dx (c_e room A.nb A.o1 A.o2 sl' A.ml)))) bas B:=by
    intro bas B hp;induction hp with
    | nil=>exact .nil
    | cons a t ih=>
      obtain⟨as,z1,z2⟩:=a;exact .cons ⟨as,kp _ _ z1 (lk _ _ z1),z2.same tk⟩ ih
   exact aux q3
 obtain⟨B1,O1,g1⟩:=h1.O1;obtain⟨B2,O2,g2⟩:=h1.O2;obtain⟨rs,k1,k2⟩:=h1.nb;refine⟨⟨a_b,⟨rs,kp _ _ k1 λe=>(by rw[e,h1.ob] at k1;cases k1),k2.same tk⟩,⟨B1,ordk O1,g1⟩,⟨B2,ordk O2,g2⟩,kp _ _ a_b f,.nil,kp _ _ h1.mls (lk _ _ h1.mls),?_⟩,⟨λb u q hn=> ?_, λb hb=> ?_⟩⟩
 ·refine (f_y _).mpr ⟨λe=>c A.ml (by simp[Ads.ls]) e.symm,λb hb=>⟨c b (by unfold Ads.ls;simp only[r_7,s_e] at hb ⊢;grind),(n2 b hb).2⟩,λb hb=>⟨c b (by unfold Ads.ls;simp only[r_7,s_e] at hb ⊢;grind),(n3 b hb).2⟩,n4,n5,n6⟩
 ·rw[a_i λe=>hn (by rw[e];simp[Ads.fp]),a_i (a_h q hs)]
  exact q
 ·simp only[Ads.fp,Ads.ls,r_7,s_e] at hb ⊢
  rcases hb with e | e | e | e | e
  ·exact .inl (.inl e)
  ·exact .inl (.inr (.inl e))
  ·exact .inr (by rw[e];exact hs)
  ·exact .inl (.inr (.inr (.inr (.inl e))))
  ·exact .inl (.inr (.inr (.inr (.inr e))))
end
structure e_8 (K:PySem.W.Frag) (mg:Str->Option Value) (CS CO:Addr):Prop where
 cl:Cls K CS
 nRoom:NoAttr K CS "room"
 nNum:NoAttr K CS "by_number"
 nRank:NoAttr K CS "by_rank"
 nText:NoAttr K CS "by_text"
 nSteps:NoAttr K CS "steps"
 nMarks:NoAttr K CS "marks"
 mgS:mg "Store"=some (.ref CS)
 cc:CS≠CO
structure o_6 (K:PySem.W.Frag) (mg:Str->Option Value) (CT CF CM CN:Addr):Prop where
 t:Exc K mg "Taken" CT
 f:Exc K mg "Full" CF
 m:Exc K mg "Missing" CM
 n:Exc K mg "NotBegun" CN
abbrev f_0 (CS CO:Addr) (H:Hp) (A:Ads) (room:Int) (l:List Row) (st:List a_Z) (ms:List Nat):Prop:=StrC CS CO H A room l l l st ms
section
variable {P:Program} {w:World} {K:PySem.W.Frag} {mg:Str->Option Value} {base:Heap}
theorem l_D {H:Hp} {d:Addr} {l:List Row} {rs:List Addr} (n:Int) (hk:H d=some (.dK (a_L rs l))) (hR:RowsAt H rs l):KeptAt (upd H d (.dK (d_M (a_L rs l) (Sum.inl n)))) d (a_8 l n):=by
 obtain⟨rs',e1,e2⟩:=f_q (n:=n) hR;refine⟨rs',by rw[e1];exact a_b,e2.same λb xs e=> ?_⟩;rw[a_i (λq=>by rw[q,hk] at e;cases e)];exact e
theorem k_5 {H:Hp} {d r:Addr} {l:List Row} {rs:List Addr} {ρ:Row} (hk:H d=some (.dK (a_L rs l))) (hR:RowsAt H rs l) (hr:RowAt H r ρ):KeptAt (upd H d (.dK (d_q (a_L rs l) (Sum.inl ρ.n) (V.ref r)))) d (c_o l ρ):=by
 obtain⟨rs',e1,e2⟩:=g_9 hr hR;refine⟨rs',by rw[e1];exact a_b,e2.same λb xs e=> ?_⟩;rw[a_i (λq=>by rw[q,hk] at e;cases e)];exact e
theorem b_B {H:Hp} {d:Addr} {o:HO}:∀b u,H b=some u->b≠d->(upd H d o) b=some u:=λb u e hn=>by rw[a_i hn];exact e
def k_t (CS CO:Addr):Sp:=λvs H Q _=>∃(A:Ads) (u v:V) (p:a_Z) (room:Int) (l:List Row) (st:List a_Z) (ms:List Nat),vs= [.ref A.o,u,v]/\f_0 CS CO H A room l st ms/\OptAt H u p.1/\OptAt H v p.2/\StepOk l p/\b_9 l/\l.length<=9000/\
 ∀(A':Ads) (H':Hp),f_0 CS CO H' A' room (e_h l p) st ms->A'.o=A.o->Stp H H' A.fp A'.fp->a_M H H'->Q .non H'
theorem o_y:a_s ["self","old","new"] ["self","old","new"] (a_m o_d):=⟨rfl,rfl,rfl,by decide+kernel,rfl,by decide+kernel,by decide+kernel⟩
def tEx (CS CO:Addr) (A:Ads) (u v:V) (H:Hp) (room:Int) (l:List Row) (st:List a_Z) (ms:List Nat):TS:=λD σ Hx=>σ= [some (.ref A.o),some u,some v]/\Hx=H/\
 ∀(A':Ads) (H':Hp),f_0 CS CO H' A' room l st ms->A'.o=A.o->Stp H H' A.fp A'.fp->a_M H H'->D.nx σ H'
theorem o_i {f fTk fLt CS CO:Addr} {fd fdTk fdLt:FuncData} (F:Fun K "exchange" "Store.exchange" o_d f fd) (T:Txt K mg CO) (TS:e_8 K mg CS CO)
 (mTk:Mf K CO "take_in" fTk fdTk ["self","row"]) (GTk:FnOk P w K mg base CX0 4 fTk fdTk ["self","row"] (m_e CO)) (mLt:Mf K CO "let_out" fLt fdLt ["self","row"]) (GLt:FnOk P w K mg base CX0 4 fLt fdLt ["self","row"] (p_c CO)):
 FnOk P w K mg base CX0 5 f fd ["self","old","new"] (k_t CS CO):=by
 refine F.ok o_y (λvs H Q E h=> ?_) (λcdv A outer s H vs Q E hr h=> ?_)
 ·obtain⟨A,u,v,p,room,l,st,ms,rfl,_⟩:=h
  rfl
 ·obtain⟨A,u,v,p,room,l,st,ms,rfl,S,hu,hv,ok,hn,U,fin⟩:=h
  have R:=e_Y hr;have g:Room 4 _:=hr
  refine⟨_,a_c (j_J (t':=tEx CS CO A u v H room (b_C l p.1) st ms) (a_C (d_R (k_H (pv 1))) (a_c (a_z (h_Q (a_E (pv 0) rfl) (a_r a_o (pv 1) a_g (λ_ _=>rfl)) ⟨rfl,rfl,rfl,rfl⟩))
   (a_c (a_z (a_Q (a_E (pv 0) rfl) T.cl mLt.m GLt g mLt.b .nil a_v (a_a (pv 1) a_d))) (a_f (a_z (a_Q (a_E (pv 0) rfl) T.cl mLt.m GLt g mLt.b .nil a_v (a_a (pv 1) a_d)))))) a_p) ?hw)
   (a_f (a_C (d_R (k_H (pv 2))) (a_c (e_q R (a_E (pv 0) rfl) (a_r a_o (pv 2) a_g (λ_ _=>rfl)) (pv 2) rfl)
   (a_c (a_z (a_Q (a_E (pv 0) rfl) T.cl mTk.m GTk g mTk.b .nil a_v (a_a (pv 2) a_d))) (a_f (a_z (a_Q (a_E (pv 0) rfl) T.cl mTk.m GTk g mTk.b .nil a_v (a_a (pv 2) a_d)))))) a_p)),?main⟩
  case hw=>
   rintro D σ Hx ⟨rfl,rfl,k⟩;obtain⟨p1,p2⟩:=p;cases p1 with
   | none=>
     obtain rfl:u= .non:=hu;exact⟨_,rfl,_,rfl,i_0 (k A Hx S rfl (Stp.refl _) λ_ _ h=>h)⟩
   | some ρ=>
     obtain⟨r,rfl,hρ⟩:=id hu;have hm:=ok.out ρ rfl;obtain⟨rs,hk,hR⟩:=S.nb;obtain⟨g1,g2⟩:=b_6 (n:=ρ.n) hR;obtain⟨r',ρ',N,_⟩:=g2 (b_z.mpr ⟨ρ,hm,rfl⟩);refine⟨_,rfl,_,rfl,k_X ?_⟩;refine⟨_,rfl,A.o,CS,A.dx,_,_,rfl,S.ob,TS.cl,TS.nNum,e_2,A.nb,rfl,.inl ⟨_,.inl hk⟩,_,rfl,r,_,_,_,rfl,rfl,SqT.of hρ,a_e (j:=0) rfl,_,Sum.inl ρ.n,_,hk,rfl,N,?_⟩;have S1:=S.setNb (l_D ρ.n hk hR) b_B;have F1:=S.stpNb (H':=upd Hx A.nb (.dK (d_M (a_L rs l) (Sum.inl ρ.n)))) b_B
     have a:a_M Hx (upd Hx A.nb (.dK (d_M (a_L rs l) (Sum.inl ρ.n)))):=λb xs e=>by
      rw[a_i (λq=>by rw[q,hk] at e;cases e)];exact e
     obtain⟨B1,O1,G1,q1⟩:=S1.O1;obtain⟨G,B⟩:=O1.ob;refine⟨_,rfl,A.o,CS,A.dx,_,_,rfl,S1.ob,TS.cl,TS.nRank,f_M,A.o1,G,_,rfl,B,a_Y _ _ (by decide+kernel) (by decide+kernel),_,rfl,false,A.o1,A.bl1,r,A.bas1,B1,ρ,rfl,O1,a _ _ hρ,G1,q1.mem_iff.mpr hm,by rw[q1.length_eq];omega,λbas' B' H2 O' G' p' S'=> ?_⟩
     have e1:B'.flatten.Perm (a_8 l ρ.n):=by
      have:=(p'.trans q1).trans (d_F hn hm);exact this.cons_inv
     obtain⟨S2,F2⟩:=S1.setO1 S' O' G' e1;have c:=(Mvd.of_stp O1 S').tup;obtain⟨B2,O2,G2,q2⟩:=S2.O2;obtain⟨z,C⟩:=O2.ob;refine⟨_,rfl,A.o,CS,A.dx,_,_,rfl,S2.ob,TS.cl,TS.nText,e_I,A.o2,z,_,rfl,C,a_Y _ _ (by decide+kernel) (by decide+kernel),_,rfl,true,A.o2,A.bl2,r,A.bas2,B2,ρ,rfl,O2,c _ _ (a _ _ hρ),G2,q2.mem_iff.mpr hm,by rw[q2.length_eq];omega,λbas2 t H3 O'' G'' p'' S''=> ?_⟩
     have e2:t.flatten.Perm (a_8 l ρ.n):=by
      have:=(p''.trans q2).trans (d_F hn hm);exact this.cons_inv
     obtain⟨S3,F3⟩:=S2.setO2 S'' O'' G'' e2;exact k _ H3 S3 rfl ((F1.trans F2).trans F3) λb xs e=>(Mvd.of_stp O2 S'').tup _ _ (c _ _ (a _ _ e))
  case main=>
   refine⟨rfl,rfl,λA1 H1 S0 e1 F0 y=> ?_⟩;have X:=hv.tk y;have Z:b_9 (b_C l p.1):=c_J hn p.1;have M:=h_0 l p.1;have okin:=ok.inn;obtain⟨p1,p2⟩:=p;cases p2 with
   | none=>
     obtain rfl:v= .non:=hv;exact⟨_,rfl,_,rfl,i_0 (fin A1 H1 S0 e1 F0 y)⟩
   | some ρ=>
     obtain⟨r,rfl,hρ⟩:=id X;have J:=okin ρ rfl;have I:∀x∈b_C l p1,x.n≠ρ.n:=b_N.mp J;obtain⟨rs,hk,hR⟩:=S0.nb;have O:(a_L rs (b_C l p1)).length < sizeLine:=by rw[c_V hR];exact s_B (s_h M U) (by decide)
     have L:=S0.ob;rw[e1] at L;refine⟨_,rfl,_,rfl,k_X ?_⟩;refine⟨_,rfl,_,rfl,A.o,CS,A1.dx,_,_,rfl,L,TS.cl,TS.nNum,e_2,_,rfl,r,_,_,_,rfl,rfl,SqT.of hρ,a_e (j:=0) rfl,A1.nb,_,rfl,DPut.k (k:=Sum.inl ρ.n) hk O,?_⟩;have S1:=S0.setNb (k_5 hk hR hρ) b_B;have F1:=S0.stpNb (H':=upd H1 A1.nb (.dK (d_q (a_L rs (b_C l p1)) (Sum.inl ρ.n) (V.ref r)))) b_B
     have a:a_M H1 (upd H1 A1.nb (.dK (d_q (a_L rs (b_C l p1)) (Sum.inl ρ.n) (V.ref r)))):=λb xs e=>by
      rw[a_i (λq=>by rw[q,hk] at e;cases e)];exact e
     obtain⟨B1,O1,G1,q1⟩:=S1.O1;obtain⟨G,B⟩:=O1.ob;have i:=S1.ob;rw[e1] at i;have ep:c_o (b_C l p1) ρ=b_C l p1++ [ρ]:=b_2 J;refine⟨_,rfl,A.o,CS,A1.dx,_,_,rfl,i,TS.cl,TS.nRank,f_M,A1.o1,G,_,rfl,B,a_Y _ _ (by decide+kernel) (by decide+kernel),_,rfl,false,A1.o1,A1.bl1,r,A1.bas1,B1,ρ,rfl,O1,a _ _ hρ,G1,λx hx=>I x (q1.mem_iff.mp hx),by rw[q1.length_eq];omega,λbas' B' H2 O' G' p' S'=> ?_⟩
     have W:B'.flatten.Perm (c_o (b_C l p1) ρ):=by
      rw[ep];exact (p'.trans (q1.cons ρ)).trans (List.perm_append_singleton ρ _).symm
     obtain⟨S2,F2⟩:=S1.setO1 S' O' G' W;have c:=(Mvd.of_stp O1 S').tup;obtain⟨B2,O2,G2,q2⟩:=S2.O2;obtain⟨z,C⟩:=O2.ob;have d:=S2.ob;dsimp only at d;rw[e1] at d;refine⟨_,rfl,A.o,CS,A1.dx,_,_,rfl,d,TS.cl,TS.nText,e_I,A1.o2,z,_,rfl,C,a_Y _ _ (by decide+kernel) (by decide+kernel),_,rfl,true,A1.o2,A1.bl2,r,A1.bas2,B2,ρ,rfl,O2,c _ _ (a _ _ hρ),G2,λx hx=>I x (q2.mem_iff.mp hx),by rw[q2.length_eq];omega,λbas2 t H3 O'' G'' p'' S''=> ?_⟩
     have Y:t.flatten.Perm (c_o (b_C l p1) ρ):=by
      rw[ep];exact (p''.trans (q2.cons ρ)).trans (List.perm_append_singleton ρ _).symm
     obtain⟨S3,F3⟩:=S2.setO2 S'' O'' G'' Y;exact fin _ H3 S3 e1 (((F0.trans F1).trans F2).trans F3) λb xs e=>(Mvd.of_stp O2 S'').tup _ _ (c _ _ (a _ _ (y _ _ e)))
def d_9 (CS CO:Addr):Sp:=λvs H Q _=>∃(A:Ads) (u v:V) (p:a_Z) (room:Int) (l:List Row) (st:List a_Z) (ms:List Nat),vs= [.ref A.o,u,v]/\f_0 CS CO H A room l st ms/\OptAt H u p.1/\OptAt H v p.2/\StepOk l p/\b_9 l/\l.length<=9000/\st.length<=9000/\
 ∀(A':Ads) (H':Hp),f_0 CS CO H' A' room (e_h l p) (if ms= [] then st else p::st) ms->A'.o=A.o->Stp H H' A.fp A'.fp->a_M H H'->Q .non H'
theorem l_m:a_s ["self","old","new"] ["self","old","new"] (a_m h_F):=⟨rfl,rfl,rfl,by decide+kernel,rfl,by decide+kernel,by decide+kernel⟩
theorem j_h {f fE CS CO:Addr} {fd fdE:FuncData} (F:Fun K "change" "Store.change" h_F f fd) (T:Txt K mg CO) (TS:e_8 K mg CS CO)
 (mE:Mf K CS "exchange" fE fdE ["self","old","new"]) (GE:FnOk P w K mg base CX0 5 fE fdE ["self","old","new"] (k_t CS CO)):FnOk P w K mg base CX0 6 f fd ["self","old","new"] (d_9 CS CO):=by
 refine F.ok l_m (λvs H Q E h=> ?_) (λcdv A outer s H vs Q E hr h=> ?_)
 ·obtain⟨A,u,v,p,room,l,st,ms,rfl,_⟩:=h
  rfl
 ·obtain⟨A,u,v,p,room,l,st,ms,rfl,S,hu,hv,ok,hn,n,k,fin⟩:=h
  refine⟨_,a_c (a_z (a_Q (pv 0) TS.cl mE.m GE hr mE.b .nil a_v (a_a (pv 1) (a_a (pv 2) a_d))))
   (a_f (a_C (a_l h_y (a_t a_x (by rfl) T.len s_F (a_a (a_E (pv 0) rfl) a_d)) a_g (a_q _))
     (a_f (a_z (b_y s_G s_I s_H a_N (a_E (pv 0) rfl) (a_a (a_G (a_a (pv 1) (a_a (pv 2) a_d))) a_d)))) a_p)),?_⟩
  refine⟨_,rfl,A.o,A.dx,_,rfl,S.ob,d_H (by decide+kernel) (by decide+kernel) (by decide+kernel) (by decide+kernel) (by decide+kernel) (by decide+kernel),_,rfl,_,rfl,A,u,v,p,room,l,st,ms,rfl,S,hu,hv,ok,hn,n,λA1 H1 S1 e1 F1 i=> ?_⟩;have d:=S1.ob;rw[e1] at d;refine⟨_,rfl,A.o,CS,A1.dx,_,_,rfl,d,TS.cl,TS.nMarks,d_n,A1.ml,_,rfl,.inl (SqL.of S1.mls),_,_,rfl,rfl,_,rfl,a_y (λc=> ?_) (λc=> ?_)⟩
  ·have g:ms≠ []:=λe=>by rw[e] at c;exact absurd (s_E c) (by simp)
   have j:A1.sas.length=st.length:=by rw[Paired.length S1.sts,s_y]
   refine⟨_,rfl,A.o,CS,A1.dx,_,_,rfl,d,TS.cl,TS.nSteps,d_2,.inl ⟨rfl,_,SqL.of S1.sls⟩,_,rfl,_,rfl,by show 2<=sizeLine;decide,λt ht=> ?_⟩;have s2:Same H1 (upd H1 t (.tup [u,v])):=Same.upd_new ht;have S2:=S1.same s2;refine⟨A1.sl,_,_,rfl,rfl,S2.sls,by rw[r_W,j];exact s_B k (by decide),?_⟩;have a:a_M H (upd H1 t (.tup [u,v])):=λb xs e=>s2 _ _ (i _ _ e)
   have hp:Paired (StepAt (upd H1 t (.tup [u,v]))) (A1.sas++ [t]) (p::st).reverse:=by
    rw[List.reverse_cons];exact a_D S2.sts (.cons ⟨u,v,a_b,hu.tk a,hv.tk a⟩ .nil)
   obtain⟨S3,F3⟩:=S2.setSl (H':=upd (upd H1 t (.tup [u,v])) A1.sl (.lst (A1.sas.map V.ref++ [V.ref t]))) (sas':=A1.sas++ [t]) (by rw[r_4];rfl) hp;have e3:(if ms= [] then st else p::st)=p::st:=if_neg g;have ff:=fin { A1 with sas:=A1.sas++ [t] } _ (by rw[e3];exact S3) e1 ((F1.trans (Stp.of_same s2)).trans F3) λb xs e=> ?_
   ·exact ff
   ·rw[a_i (fun q=>by
     have:=a _ _ e;rw[q,S2.sls] at this;cases this)]
    exact a _ _ e
  ·have g:ms= []:=by
    cases ms with
    | nil=>rfl
    | cons m r=>
      exfalso;apply c;apply s_C;simp only[r_W,s_y,r_2];omega
   have e3:(if ms= [] then st else p::st)=st:=if_pos g;exact fin A1 H1 (by rw[e3];exact S1) e1 F1 i
def e_S (CS CO CM:Addr):Sp:=λvs H Q E=>∃(A:Ads) (n:Int) (room:Int) (l:List Row) (st:List a_Z) (ms:List Nat),vs= [.ref A.o,.int n]/\f_0 CS CO H A room l st ms/\k_W n/\
 (b_v l n=true->∀r ρ,c_7 l n=some ρ->RowAt H r ρ->Q (.ref r) H)/\(b_v l n=false->E (.ref CM) none H)
theorem m_V:a_s ["self","number"] ["self","number"] (a_m j_b):=⟨rfl,rfl,rfl,by decide+kernel,rfl,by decide+kernel,by decide+kernel⟩
theorem l_L {f CS CO CT CF CM CN:Addr} {fd:FuncData} (F:Fun K "row_of" "Store.row_of" j_b f fd) (TS:e_8 K mg CS CO) (ex:o_6 K mg CT CF CM CN):FnOk P w K mg base (CXR P w) 1 f fd ["self","number"] (e_S CS CO CM):=by
 refine F.okX m_V (λvs H Q E h=> ?_) (λcdv A outer s H vs Q E hr h=> ?_)
 ·obtain⟨A,n,room,l,st,ms,rfl,_⟩:=h
  rfl
 ·obtain⟨A,n,room,l,st,ms,rfl,S,ht,k1,k2⟩:=h
  have a:=e_Y hr
  refine⟨_,a_c (a_C (d_R (d_v a (pv 1) (a_E (pv 0) rfl))) (a_f (d_k ex.m e_E (a_a (p_s a_k (pv 1) (by decide+kernel)) a_d))) a_p)
   (a_f (a_n (b_o a (a_E (pv 0) rfl) (pv 1) (λ_ _=>rfl)))),?_⟩
  obtain⟨rs,hk,hR⟩:=S.nb;obtain⟨v1,v2⟩:=b_6 (n:=n) hR;have gn:DGet H A.nb (.int n) (d_J (a_L rs l) (Sum.inl n)):=DGet.k (k:=Sum.inl n) hk;refine⟨_,rfl,_,rfl,A.o,CS,A.dx,_,_,rfl,S.ob,TS.cl,TS.nNum,e_2,A.nb,_,rfl,gn,_,rfl,?_⟩;rw[v1];refine a_y (λc=> ?_) (λc=> ?_)
  ·have c':b_v l n=false:=by cases q:b_v l n with
    | false=>rfl
    | true=>rw[q] at c;cases c
   exact⟨_,rfl,n,rfl,ht,λy=>⟨by show 1<=sizeLine;decide,k2 c'⟩⟩
  ·have c':b_v l n=true:=by cases q:b_v l n with
    | true=>rfl
    | false=>rw[q] at c;exact absurd rfl c
   obtain⟨r,ρ,g1,g2,g3,_⟩:=v2 c';rw[g1] at gn;exact⟨_,rfl,A.o,CS,A.dx,_,_,rfl,S.ob,TS.cl,TS.nNum,e_2,_,rfl,A.nb,_,rfl,gn,k1 c' r ρ g2 g3⟩
def n_H (CS CO CN:Addr):Sp:=λvs H Q E=>∃(A:Ads) (room:Int) (l:List Row) (st:List a_Z) (ms:List Nat),vs= [.ref A.o]/\f_0 CS CO H A room l st ms/\
 (∀m r,ms=m::r->∀H',f_0 CS CO H' A room l st r->Stp H H' A.fp A.fp->a_M H H'->Q (.int (m:Nat)) H')/\(ms= []->E (.ref CN) none H)
theorem q_u:a_s ["self"] ["self"] (a_m p_0):=⟨rfl,rfl,rfl,by decide+kernel,rfl,by decide+kernel,by decide+kernel⟩
theorem o_S {f CS CO CT CF CM CN:Addr} {fd:FuncData} (F:Fun K "end_of_last" "Store.end_of_last" p_0 f fd) (T:Txt K mg CO) (TS:e_8 K mg CS CO) (ex:o_6 K mg CT CF CM CN):FnOk P w K mg base (CXR P w) 1 f fd ["self"] (n_H CS CO CN):=by
 refine F.okX q_u (λvs H Q E h=> ?_) (λcdv A outer s H vs Q E hr h=> ?_)
 ·obtain⟨A,room,l,st,ms,rfl,_⟩:=h
  rfl
 ·obtain⟨A,room,l,st,ms,rfl,S,k1,k2⟩:=h
  refine⟨_,a_c (a_C (a_l a_I (a_t a_x (by rfl) T.len s_F (a_a (a_E (pv 0) rfl) a_d)) a_g (a_q _)) (a_f (d_k ex.n e_E (a_a a_k a_d))) a_p)
   (a_f (a_n (e_u s_G PySem.F.slot_list_pop PySem.F.type_list_pop g_e (a_E (pv 0) rfl)))),?_⟩
  refine⟨_,rfl,A.o,CS,A.dx,_,_,rfl,S.ob,TS.cl,TS.nMarks,d_n,A.ml,_,rfl,.inl (SqL.of S.mls),rfl,_,rfl,a_y (λc=> ?_) (λc=> ?_)⟩
  ·have a:ms= []:=by
    have:=s_E c;injection this with this
    rw[r_W,s_y] at this;exact s_s.mp (by omega)
   exact⟨by show 1<=sizeLine;decide,k2 a⟩
  ·cases ms with
   | nil=>exact absurd (s_C rfl) c
   | cons m r=>
     refine⟨_,rfl,A.o,CS,A.dx,_,_,rfl,S.ob,TS.cl,TS.nMarks,d_n,.inl ⟨rfl,_,SqL.of S.mls⟩,A.ml,_,V.int (m:Nat),rfl,rfl,S.mls,?_, ?_⟩
     ·rw[List.reverse_cons,r_4]
      simp
     ·obtain⟨S2,F2⟩:=S.setMl (ms':=r) (H':=upd H A.ml (.lst (((m::r).reverse.map λm:Nat=>V.int m).dropLast))) (by rw[List.reverse_cons,r_4];simp)
      refine k1 m r rfl _ S2 F2 λb xs e=> ?_;rw[a_i (λq=>by rw[q,S.mls] at e;cases e)];exact e
end
end K1
namespace L2
open PySem PySem.Spec PyProof.Rows
theorem PS.nox {X:Cx} {st:Stmt} {t:TS} (h:PS X.nox st t):PS X st t:=λpins s σ H D I hw=>
 wpAny_mono (h pins s σ H D (I.wish _) hw) (λ_ _ q=>q.unwish) λ_ _ z=>False.elim z
end L2
namespace TO
open PySem L2
theorem Hs.chg {N:Nat} {l:List Row} {st:List a_Z} {ms:List Nat} {ks:List (List Row)} {p:a_Z} (h:Hs N l st ms ks) (k:StepOk l p):Hs (N+1) (e_h l p) (if ms= [] then st else p::st) ms ks:=by
 have hl:=o_n k;have hN:=h.le;by_cases e:ms= []
 ·subst e
  obtain⟨rfl,rfl⟩:=h.none;rw[if_pos rfl];exact .nil (by omega) (g_g h.nums p)
 ·rw[if_neg e]
  exact .step e k (.refl _) (by omega) (h.mono (Nat.le_succ _))
end TO
namespace K1
open PySem L2 TO
structure SAt (CS CO:Addr) (H:Hp) (A:Ads) (N:Nat) (room:Int) (s:Sto):Prop where
 ex:∃l st ms,f_0 CS CO H A room l st ms/\Hs N l st ms s.marks/\l.Perm s.kept/\st.length<=N/\ms.length<=N
section
variable {CS CO:Addr} {H H':Hp} {A:Ads} {N:Nat} {room:Int} {s:Sto}
theorem SAt.mono {M:Nat} (h:SAt CS CO H A N room s) (hM:N<=M):SAt CS CO H A M room s:=by
 obtain⟨l,st,ms,a,b,c,d,e⟩:=h.ex;exact⟨l,st,ms,a,b.mono hM,c,by omega,by omega⟩
theorem SAt.same (h:SAt CS CO H A N room s) (e:Same H H'):SAt CS CO H' A N room s:=by
 obtain⟨l,st,ms,a,r⟩:=h.ex;exact⟨l,st,ms,a.same e,r⟩
theorem SAt.nums (h:SAt CS CO H A N room s):b_9 s.kept:=by
 obtain⟨l,st,ms,a,b,c,_⟩:=h.ex;exact b_U c b.nums
end
abbrev m_N (CS CO:Addr) (H:Hp) (A:Ads) (N:Nat) (room:Int) (Q:VK) (s':Sto):Prop:=∀(A':Ads) (H':Hp),SAt CS CO H' A' N room s'->A'.o=A.o->Stp H H' A.fp A'.fp->a_M H H'->Q .non H'
section
variable {P:Program} {w:World} {K:PySem.W.Frag} {mg:Str->Option Value} {base:Heap}
def k_o (CS CO CT CF:Addr):Sp:=λvs H Q E=>∃(A:Ads) (a:Addr) (ρ:Row) (N:Nat) (room:Int) (s:Sto),vs= [.ref A.o,.ref a]/\SAt CS CO H A N room s/\RowAt H a ρ/\k_W ρ.n/\N<=8000/\
 (b_v s.kept ρ.n=true->E (.ref CT) none H)/\(b_v s.kept ρ.n=false->room<=(s.kept.length:Int)->E (.ref CF) none H)/\(b_v s.kept ρ.n=false->¬ room<=(s.kept.length:Int)->m_N CS CO H A (N+1) room Q { s with kept:=c_o s.kept ρ })
theorem k_O:a_s ["self","row","number"] ["self","row"] (a_m j_3):=⟨rfl,rfl,rfl,by decide+kernel,rfl,by decide+kernel,by decide+kernel⟩
theorem l_G {f fC CS CO CT CF CM CN:Addr} {fd fdC:FuncData} (F:Fun K "bring" "Store.bring" j_3 f fd) (T:Txt K mg CO) (TS:e_8 K mg CS CO) (ex:o_6 K mg CT CF CM CN)
 (mC:Mf K CS "change" fC fdC ["self","old","new"]) (GC:FnOk P w K mg base CX0 6 fC fdC ["self","old","new"] (d_9 CS CO)):FnOk P w K mg base (CXR P w) 7 f fd ["self","row"] (k_o CS CO CT CF):=by
 refine F.okX k_O (λvs H Q E h=> ?_) (λcdv A outer s H vs Q E hr h=> ?_)
 ·obtain⟨A,a,ρ,N,room,s,rfl,_⟩:=h
  rfl
 ·obtain⟨A,a,ρ,N,room,so,rfl,S,ha,ht,hN,k1,k2,k3⟩:=h
  obtain⟨l,st,ms,C,hs,hp,h1,h2⟩:=S.ex;have d:=e_Y hr
  refine⟨_,a_c (a_w (i:=2) k_O.nd rfl (Or.inl rfl) (a_r a_o (pv 1) a_g (λ_ _=>rfl)))
   (a_c (a_C (d_R (m_c d (pv 2) (a_E (pv 0) rfl))) (a_f (d_k ex.t e_E (a_a (p_I a_k (pv 2) a_k (by decide+kernel) (by decide+kernel)) a_d))) a_p)
   (a_c (a_C (a_l j_o (a_t g_K (by rfl) T.len s_F (a_a (a_E (pv 0) rfl) a_d)) (a_E (pv 0) rfl) (a_q _)) (a_f (d_k ex.f e_E (a_a a_k a_d))) a_p)
   (a_f (a_z (a_Q (pv 0) TS.cl mC.m GC hr mC.b .nil a_v (a_a m_b (a_a (pv 1) a_d))))))),?_⟩
  obtain⟨rs,hk,hR⟩:=C.nb;obtain⟨v1,v2⟩:=b_6 (n:=ρ.n) hR;have gn:DGet H A.nb (.int ρ.n) (d_J (a_L rs l) (Sum.inl ρ.n)):=DGet.k (k:=Sum.inl ρ.n) hk;have eh:=b_D hp ρ.n;have el:(a_L rs l).length=so.kept.length:=by rw[c_V hR,hp.length_eq]
  refine⟨_,rfl,a,_,_,_,rfl,rfl,SqT.of ha,a_e (j:=0) rfl,?_⟩;refine⟨_,rfl,_,rfl,A.o,CS,A.dx,_,_,rfl,C.ob,TS.cl,TS.nNum,e_2,A.nb,_,rfl,gn,_,rfl,?_⟩;rw[v1,eh];refine a_y (λc=>⟨_,rfl,ρ.n,rfl,ht,λy=>⟨by show 1<=sizeLine;decide,k1 c⟩⟩) (λc=> ?_)
  have c':b_v so.kept ρ.n=false:=by cases q:b_v so.kept ρ.n with
   | false=>rfl
   | true=>exact absurd q c
  refine⟨_,rfl,A.o,CS,A.dx,_,_,rfl,C.ob,TS.cl,TS.nNum,e_2,A.nb,_,rfl,hk,_,rfl,A.o,CS,A.dx,_,_,rfl,C.ob,TS.cl,TS.nRoom,n_b,_,_,rfl,rfl,_,rfl,?_⟩;rw[el];refine a_y (λq=>⟨by show 1<=sizeLine;decide,k2 c' (s_E q)⟩) (λq=> ?_);have ok:=l_n (l:=l) (ρ:=ρ) (by rw[eh];exact c');have e:=hs.le;refine⟨_,rfl,A.o,A.dx,_,rfl,C.ob,d_H (by decide+kernel) (by decide+kernel) (by decide+kernel) (by decide+kernel) (by decide+kernel) (by decide+kernel),_,rfl,A,.non,.ref a,(none,some ρ),room,l,st,ms,rfl,C,rfl,⟨a,rfl,ha⟩,ok,hs.nums,by omega,by omega,λA' H' C' e' F' tk=> ?_⟩;refine k3 c' (λz=>q (s_C z)) A' H' ⟨_,_,_,C',hs.chg ok,f_6 hp ρ,?_, by omega⟩ e' F' tk
  split <;> (try simp only[r_2]) <;> omega
def k_y (CS CO CM:Addr):Sp:=λvs H Q E=>∃(A:Ads) (a:Addr) (ρ:Row) (N:Nat) (room:Int) (s:Sto),vs= [.ref A.o,.ref a]/\SAt CS CO H A N room s/\RowAt H a ρ/\k_W ρ.n/\N<=8000/\
 (b_v s.kept ρ.n=false->E (.ref CM) none H)/\(b_v s.kept ρ.n=true->m_N CS CO H A (N+1) room Q { s with kept:=c_o s.kept ρ })
theorem m_O:a_s ["self","row"] ["self","row"] (a_m k_b):=⟨rfl,rfl,rfl,by decide+kernel,rfl,by decide+kernel,by decide+kernel⟩
theorem k_4 {f fC fR CS CO CM:Addr} {fd fdC fdR:FuncData} (F:Fun K "alter" "Store.alter" k_b f fd) (TS:e_8 K mg CS CO)
 (mC:Mf K CS "change" fC fdC ["self","old","new"]) (GC:FnOk P w K mg base CX0 6 fC fdC ["self","old","new"] (d_9 CS CO)) (mR:Mf K CS "row_of" fR fdR ["self","number"]) (GR:FnOk P w K mg base (CXR P w) 1 fR fdR ["self","number"] (e_S CS CO CM)):
 FnOk P w K mg base (CXR P w) 7 f fd ["self","row"] (k_y CS CO CM):=by
 refine F.okX m_O (λvs H Q E h=> ?_) (λcdv A outer s H vs Q E hr h=> ?_)
 ·obtain⟨A,a,ρ,N,room,s,rfl,_⟩:=h
  rfl
 ·obtain⟨A,a,ρ,N,room,so,rfl,S,ha,ht,hN,k1,k2⟩:=h
  obtain⟨l,st,ms,C,hs,hp,h1,h2⟩:=S.ex;have d:Room 1 _:=hr.mono (by decide);refine⟨_,a_f (a_z (a_Q (pv 0) TS.cl mC.m GC hr mC.b .nil a_v (a_a (a_Q (pv 0) TS.cl mR.m GR d mR.b .nil (c_t (E':=E) λ_ _ _ h=>h) (a_a (a_r a_o (pv 1) a_g (λ_ _=>rfl)) a_d)) (a_a (pv 1) a_d)))),?_⟩;have eh:=b_D hp ρ.n;have e:=hs.le;refine⟨_,rfl,A.o,A.dx,_,rfl,C.ob,d_H (by decide+kernel) (by decide+kernel) (by decide+kernel) (by decide+kernel) (by decide+kernel) (by decide+kernel),_,rfl,A.o,A.dx,_,rfl,C.ob,d_H (by decide+kernel) (by decide+kernel) (by decide+kernel) (by decide+kernel) (by decide+kernel) (by decide+kernel),_,rfl,a,_,_,_,rfl,rfl,SqT.of ha,a_e (j:=0) rfl,A,ρ.n,room,l,st,ms,rfl,C,ht,λc r κ hf hκ=> ?_, λc=>k1 (by rw[<-eh];exact c)⟩;obtain⟨κ',e1,e2,e3⟩:=c_M c;rw[hf] at e1;cases e1;have ok:=l_h (ρ:=ρ) e2 e3;refine⟨_,rfl,A,.ref r,.ref a,(some κ,some ρ),room,l,st,ms,rfl,C,⟨r,rfl,hκ⟩,⟨a,rfl,ha⟩,ok,hs.nums,by omega,by omega,λA' H' C' e' F' tk=> ?_⟩;refine k2 (by rw[<-eh];exact c) A' H' ⟨_,_,_,C',hs.chg ok,(l_2 hs.nums e2 e3).trans (f_6 hp ρ),?_, by omega⟩ e' F' tk
  split <;> (try simp only[r_2]) <;> omega
def o_F (CS CO CM:Addr):Sp:=λvs H Q E=>∃(A:Ads) (n:Int) (N:Nat) (room:Int) (s:Sto),vs= [.ref A.o,.int n]/\SAt CS CO H A N room s/\k_W n/\N<=8000/\
 (b_v s.kept n=false->E (.ref CM) none H)/\(b_v s.kept n=true->m_N CS CO H A (N+1) room Q { s with kept:=a_8 s.kept n })
theorem q_H:a_s ["self","number"] ["self","number"] (a_m q_q):=⟨rfl,rfl,rfl,by decide+kernel,rfl,by decide+kernel,by decide+kernel⟩
theorem p_E {f fC fR CS CO CM:Addr} {fd fdC fdR:FuncData} (F:Fun K "cut" "Store.cut" q_q f fd) (TS:e_8 K mg CS CO)
 (mC:Mf K CS "change" fC fdC ["self","old","new"]) (GC:FnOk P w K mg base CX0 6 fC fdC ["self","old","new"] (d_9 CS CO)) (mR:Mf K CS "row_of" fR fdR ["self","number"]) (GR:FnOk P w K mg base (CXR P w) 1 fR fdR ["self","number"] (e_S CS CO CM)):
 FnOk P w K mg base (CXR P w) 7 f fd ["self","number"] (o_F CS CO CM):=by
 refine F.okX q_H (λvs H Q E h=> ?_) (λcdv A outer s H vs Q E hr h=> ?_)
 ·obtain⟨A,n,N,room,s,rfl,_⟩:=h
  rfl
 ·obtain⟨A,n,N,room,so,rfl,S,ht,hN,k1,k2⟩:=h
  obtain⟨l,st,ms,C,hs,hp,h1,h2⟩:=S.ex;have a:Room 1 _:=hr.mono (by decide);refine⟨_,a_f (a_z (a_Q (pv 0) TS.cl mC.m GC hr mC.b .nil a_v (a_a (a_Q (pv 0) TS.cl mR.m GR a mR.b .nil (c_t (E':=E) λ_ _ _ h=>h) (a_a (pv 1) a_d)) (a_a m_b a_d)))),?_⟩;have eh:=b_D hp n;have d:=hs.le;refine⟨_,rfl,A.o,A.dx,_,rfl,C.ob,d_H (by decide+kernel) (by decide+kernel) (by decide+kernel) (by decide+kernel) (by decide+kernel) (by decide+kernel),_,rfl,A.o,A.dx,_,rfl,C.ob,d_H (by decide+kernel) (by decide+kernel) (by decide+kernel) (by decide+kernel) (by decide+kernel) (by decide+kernel),_,rfl,A,n,room,l,st,ms,rfl,C,ht,λc r κ hf hκ=> ?_, λc=>k1 (by rw[<-eh];exact c)⟩;obtain⟨κ',e1,e2,e3⟩:=c_M c;rw[hf] at e1;cases e1;have ok:=o_P e2;refine⟨A,.ref r,.non,(some κ,none),room,l,st,ms,rfl,C,⟨r,rfl,hκ⟩,rfl,ok,hs.nums,by omega,by omega,λA' H' C' e' F' tk=> ?_⟩;have ed:e_h l (some κ,none)=a_8 l n:=by rw[<-e3];rfl
  refine k2 (by rw[<-eh];exact c) A' H' ⟨_,_,_,C',hs.chg ok,by rw[ed];exact f_b hp n,?_, by omega⟩ e' F' tk
  split <;> (try simp only[r_2]) <;> omega
def h_o (CS CO:Addr):Sp:=λvs H Q _=>∃(A:Ads) (N:Nat) (room:Int) (s:Sto),vs= [.ref A.o]/\SAt CS CO H A N room s/\N<=8000/\m_N CS CO H A (N+1) room Q { s with marks:=s.kept::s.marks }
theorem n_r:a_s ["self"] ["self"] (a_m k_v):=⟨rfl,rfl,rfl,by decide+kernel,rfl,by decide+kernel,by decide+kernel⟩
theorem l_g {f CS CO:Addr} {fd:FuncData} (F:Fun K "begin" "Store.begin" k_v f fd) (T:Txt K mg CO) (TS:e_8 K mg CS CO):FnOk P w K mg base CX0 1 f fd ["self"] (h_o CS CO):=by
 refine F.ok n_r (λvs H Q E h=> ?_) (λcdv A outer s H vs Q E hr h=> ?_)
 ·obtain⟨A,N,room,s,rfl,_⟩:=h
  rfl
 ·obtain⟨A,N,room,so,rfl,S,hN,fin⟩:=h
  obtain⟨l,st,ms,C,hs,hp,h1,h2⟩:=S.ex;refine⟨_,a_f (a_z (b_y s_G s_I s_H a_N (a_E (pv 0) rfl) (a_a (a_t a_x (by rfl) T.len s_F (a_a (a_E (pv 0) rfl) a_d)) a_d))),?_⟩;have a:A.sas.length=st.length:=by rw[Paired.length C.sts,s_y]
  refine⟨_,rfl,A.o,CS,A.dx,_,_,rfl,C.ob,TS.cl,TS.nMarks,d_n,.inl ⟨rfl,_,SqL.of C.mls⟩,_,rfl,A.o,CS,A.dx,_,_,rfl,C.ob,TS.cl,TS.nSteps,d_2,A.sl,_,rfl,.inl (SqL.of C.sls),A.ml,_,_,rfl,rfl,C.mls,?_, ?_⟩
  ·rw[r_W,s_y]
   exact s_B (s_h h2 hN) (by decide)
  ·obtain⟨C2,F2⟩:=C.setMl (ms':=st.length::ms) (H':=upd H A.ml (.lst ((ms.reverse.map λm:Nat=>V.int m)++ [V.int (((A.sas.map V.ref).length:Nat):Int)]))) (by rw[List.reverse_cons,r_4,r_W,a];rfl)
   refine fin A _ ⟨_,_,_,C2,.mark hp.symm (hs.mono (Nat.le_succ _)),hp,by omega,by simp only[r_2];omega⟩ rfl F2 λb xs e=> ?_;rw[a_i (λq=>by rw[q,C.mls] at e;cases e)];exact e
def j_v (CS CO CN:Addr):Sp:=λvs H Q E=>∃(A:Ads) (N:Nat) (room:Int) (s:Sto),vs= [.ref A.o]/\SAt CS CO H A N room s/\(s.marks= []->E (.ref CN) none H)/\∀k r,s.marks=k::r->m_N CS CO H A N room Q { s with marks:=r }
theorem o_O:a_s ["self"] ["self"] (a_m m_T):=⟨rfl,rfl,rfl,by decide+kernel,rfl,by decide+kernel,by decide+kernel⟩
theorem d_w {N:Nat} {l:List Row} {st:List a_Z} {ms:List Nat} {ks:List (List Row)} (h:Hs N l st ms ks):ms= []↔ks= []:=by
 have:=h.lens;constructor
 ·rintro rfl;exact s_s.mp this.symm
 ·rintro rfl;exact s_s.mp this
theorem o_q {f fE CS CO CN:Addr} {fd fdE:FuncData} (F:Fun K "keep" "Store.keep" m_T f fd) (T:Txt K mg CO) (TS:e_8 K mg CS CO) (mE:Mf K CS "end_of_last" fE fdE ["self"]) (GE:FnOk P w K mg base (CXR P w) 1 fE fdE ["self"] (n_H CS CO CN)):
 FnOk P w K mg base (CXR P w) 2 f fd ["self"] (j_v CS CO CN):=by
 refine F.okX o_O (λvs H Q E h=> ?_) (λcdv A outer s H vs Q E hr h=> ?_)
 ·obtain⟨A,N,room,s,rfl,_⟩:=h
  rfl
 ·obtain⟨A,N,room,so,rfl,S,k1,k2⟩:=h
  obtain⟨l,st,ms,C,hs,hp,h1,h2⟩:=S.ex
  refine⟨_,a_c (a_z (b_A (pv 0) TS.cl mE.m GE hr mE.b .nil (c_t (E':=E) λ_ _ _ h=>h)))
   (a_f (a_C (a_l a_I (a_t a_x (by rfl) T.len s_F (a_a (a_E (pv 0) rfl) a_d)) a_g (a_q _)) (a_f (d_p (pv 0) (a_O a_d) rfl)) a_p)),?_⟩
  refine⟨_,rfl,A.o,A.dx,_,rfl,C.ob,d_H (by decide+kernel) (by decide+kernel) (by decide+kernel) (by decide+kernel) (by decide+kernel) (by decide+kernel),A,room,l,st,ms,rfl,C,λm r em H1 C1 F1 g=> ?_, λe=>k1 ((d_w hs).mp e)⟩;subst em
  obtain⟨k,ks,ek⟩:∃k ks,so.marks=k::ks:=by
   cases q:so.marks with
   | nil=>rw[q] at hs;exact absurd ((d_w hs).mpr rfl) (by simp)
   | cons k ks=>exact⟨k,ks,rfl⟩
  have k3:=k2 k ks ek;rw[ek] at hs;refine⟨_,rfl,A.o,CS,A.dx,_,_,rfl,C1.ob,TS.cl,TS.nMarks,d_n,A.ml,_,rfl,.inl (SqL.of C1.mls),rfl,_,rfl,a_y (λc=> ?_) (λc=> ?_)⟩
  ·have d:r= []:=by
    have:=s_E c;injection this with this
    rw[r_W,s_y] at this;exact s_s.mp (by omega)
   subst d
   have i:ks= []:=by
    have:=hs.lens;simp only[r_2,s_w] at this;exact s_s.mp (by omega)
   subst i;refine⟨by show 0<=sizeLine;decide,λsl' a=> ?_⟩;obtain⟨C2,F2⟩:=C1.newSl TS.cc a;have j:(upd H1 sl' (.lst [])) A.o=some (.ins CS A.dx (c_e room A.nb A.o1 A.o2 A.sl A.ml)):=by rw[a_i (a_h C1.ob a)];exact C1.ob
   refine⟨_,rfl,A.o,CS,A.dx,_,rfl,j,TS.cl,TS.nSteps,by show 6 < 1000;decide,?_⟩;rw[o_x];refine k3 _ _ ⟨_,_,_,C2,.nil hs.le hs.nums,hp,by simp,by simp⟩ rfl (F1.trans F2) λb xs e=> ?_;have e2:=g _ _ e;rw[a_i (λq=>by rw[q,C1.ob] at e2;cases e2),a_i (a_h e2 a)];exact e2
  ·have d:r≠ []:=λq=>by rw[q] at c;exact absurd (s_C rfl) c
   exact k3 A H1 ⟨_,_,_,C1,Hs.keep d hs,hp,h1,by simp only[r_2] at h2;omega⟩ rfl F1 g
def g_X (CS CO CN:Addr):Sp:=λvs H Q E=>∃(A:Ads) (N:Nat) (room:Int) (s:Sto),vs= [.ref A.o]/\SAt CS CO H A N room s/\N<=8000/\(s.marks= []->E (.ref CN) none H)/\∀k r,s.marks=k::r->m_N CS CO H A N room Q ⟨k,r⟩
theorem g_4:a_s ["self","mark","step"] ["self"] (a_m j_f):=⟨rfl,rfl,rfl,by decide+kernel,rfl,by decide+kernel,by decide+kernel⟩
theorem l_z {f fE fX CS CO CN:Addr} {fd fdE fdX:FuncData} (F:Fun K "break_off" "Store.break_off" j_f f fd) (T:Txt K mg CO) (TS:e_8 K mg CS CO) (mE:Mf K CS "end_of_last" fE fdE ["self"]) (GE:FnOk P w K mg base (CXR P w) 1 fE fdE ["self"] (n_H CS CO CN))
 (mX:Mf K CS "exchange" fX fdX ["self","old","new"]) (GX:FnOk P w K mg base CX0 5 fX fdX ["self","old","new"] (k_t CS CO)):FnOk P w K mg base (CXR P w) 6 f fd ["self"] (g_X CS CO CN):=by
 refine F.okX g_4 (λvs H Q E h=> ?_) (λcdv A outer s H vs Q E hr h=> ?_)
 ·obtain⟨A,N,room,s,rfl,_⟩:=h
  rfl
 ·obtain⟨A,N,room,so,rfl,S,hN,k1,k2⟩:=h
  obtain⟨l,st,ms,C,hs,hp,h1,h2⟩:=S.ex;have J:Room 1 _:=hr.mono (by decide)
  refine⟨_,a_c (a_w (i:=1) g_4.nd rfl (Or.inl rfl) (b_A (pv 0) TS.cl mE.m GE J mE.b .nil (c_t (E':=E) λ_ _ _ h=>h)))
   (a_f (PS.nox (d_x PassesOwn.never (a_l h_y (a_t a_x (by rfl) T.len s_F (a_a (a_E (pv 0) rfl) a_d)) (pv 1) (a_q _))
     (a_c (a_w (i:=2) g_4.nd rfl (Or.inl rfl) (e_u s_G PySem.F.slot_list_pop PySem.F.type_list_pop g_e (a_E (pv 0) rfl)))
     (a_f (a_z (a_Q (pv 0) TS.cl mX.m GX hr mX.b .nil a_v (a_a (a_r a_o (pv 2) a_g (λ_ _=>rfl)) (a_a (a_r a_o (pv 2) a_g (λ_ _=>rfl)) a_d))))))))),?_⟩
  refine⟨_,rfl,A.o,A.dx,_,rfl,C.ob,d_H (by decide+kernel) (by decide+kernel) (by decide+kernel) (by decide+kernel) (by decide+kernel) (by decide+kernel),A,room,l,st,ms,rfl,C,λm r em H1 C1 F1 M=> ?_, λe=>k1 ((d_w hs).mp e)⟩;subst em
  obtain⟨k,ks,ek⟩:∃k ks,so.marks=k::ks:=by
   cases q:so.marks with
   | nil=>rw[q] at hs;exact absurd ((d_w hs).mpr rfl) (by simp)
   | cons k ks=>exact⟨k,ks,rfl⟩
  have k3:=k2 k ks ek;rw[ek] at hs
  refine⟨λd σ H2=>∃(A2:Ads) (l2:List Row) (a:List a_Z) (v:Option V),σ= [some (.ref A.o),some (.int (m:Nat)),v]/\d=a.length/\f_0 CS CO H2 A2 room l2 a r/\A2.o=A.o/\Stp H H2 A.fp A2.fp/\a_M H H2/\Hs N l2 a (m::r) (k::ks)/\a.length<=N,
   ⟨_,A,l,st,none,rfl,rfl,C1,rfl,F1,M,hs,h1⟩,?_⟩
  rintro d σ H2 ⟨A2,l2,a,v,rfl,rfl,C2,e2,F2,G,x,h3⟩;have B:=C2.ob;rw[e2] at B;have I:A2.sas.length=a.length:=by rw[Paired.length C2.sts,s_y]
  refine⟨_,rfl,A.o,CS,A2.dx,_,_,rfl,B,TS.cl,TS.nSteps,d_2,A2.sl,_,rfl,.inl (SqL.of C2.sls),_,rfl,_,_,rfl,rfl,_,rfl,?_⟩;rw[r_W,I];refine a_y (λc=> ?_) (λc=> ?_)
  ·have c':m < a.length:=by have:=s_E c;omega
   cases a with
   | nil=>simp at c'
   | cons p st3=>
     simp only[r_2] at c';obtain⟨ok,L⟩:=x.back (by omega);have y:=C2.sts;rw[List.reverse_cons] at y;obtain⟨l₁,t,l₂,es,O,⟨u,v',ht,hu,hv⟩,U⟩:=b_b y;cases U;refine⟨λσ' H'=>∃(A3:Ads) (v3:Option V),σ'= [some (.ref A.o),some (.int (m:Nat)),v3]/\f_0 CS CO H' A3 room (e_h l2 (p.2,p.1)) st3 r/\A3.o=A.o/\Stp H H' A.fp A3.fp/\a_M H H',?_, ?_⟩
     ·rintro σ' H' ⟨A3,v3,rfl,C3,e3,F3,g⟩
      exact⟨st3.length,by simp,A3,_,st3,v3,rfl,rfl,C3,e3,F3,g,L,by simp only[r_2] at h3;omega⟩
     ·have els:A2.sas.map V.ref=l₁.map V.ref++ [V.ref t]:=by rw[es,r_4];rfl
      refine⟨_,rfl,A.o,CS,A2.dx,_,_,rfl,B,TS.cl,TS.nSteps,d_2,.inl ⟨rfl,_,SqL.of C2.sls⟩,A2.sl,_,V.ref t,rfl,rfl,C2.sls,?_, ?_⟩
      ·rw[els];simp
      obtain⟨C3,F3⟩:=C2.setSl (sas':=l₁) (st':=st3) (H':=upd H2 A2.sl (.lst (A2.sas.map V.ref).dropLast)) (by rw[els];simp) O
      have g:a_M H2 (upd H2 A2.sl (.lst (A2.sas.map V.ref).dropLast)):=λb xs e=>by
       rw[a_i (λq=>by rw[q,C2.sls] at e;cases e)];exact e
      have n:=C3.ob;dsimp only at n;rw[e2] at n;have W:=x.le;refine⟨_,rfl,A.o,A2.dx,_,rfl,n,d_H (by decide+kernel) (by decide+kernel) (by decide+kernel) (by decide+kernel) (by decide+kernel) (by decide+kernel),_,rfl,t,_,_,_,rfl,rfl,SqT.of (g _ _ ht),a_e (j:=1) rfl,_,rfl,t,_,_,_,rfl,rfl,SqT.of (g _ _ ht),a_e (j:=0) rfl,{ A2 with sas:=l₁ },v',u,(p.2,p.1),room,l2,st3,r,by rw[<-e2];rfl,C3,hv.tk g,hu.tk g,ok,x.nums,by omega,λA4 H4 C4 e4 F4 R=> ?_⟩;exact⟨A4,_,rfl,C4,e4.trans e2,(F2.trans F3).trans F4,λb xs e=>R _ _ (g _ _ (G _ _ e))⟩
  ·have c':a.length≤m:=by
    have:¬ ((a.length:Int) > (m:Int)):=λz=>c (s_C z);omega
   obtain⟨q1,q2⟩:=x.at c';exact k3 A2 H2 ⟨_,_,_,C2,q2,q1.symm,h3,by simp only[r_2] at h2;omega⟩ e2 F2 G
end
theorem m_j {P:Program} {w:World} {X:Cx}:c_E (CXR P w) X E0:=by
 rintro pins σ H s e s' I ⟨a,C,H',_,_,_,_,q⟩;exact q.elim
section
variable {P:Program} {w:World} {K:PySem.W.Frag} {mg:Str->Option Value} {base:Heap}
def h_A (CS CO:Addr):Sp:=λvs H Q _=>∃(p dx:Addr) (room:Int),vs= [.ref p,.int room]/\H p=some (.ins CS dx [])/\
 ∀(A':Ads) (H':Hp),SAt CS CO H' A' 0 room ⟨[], []⟩->A'.o=p->(∀b∈A'.fp,b=p\/H b=none)->(∀b u,H b=some u->b≠p->H' b=some u)->Q .non H'
theorem m_5:a_s ["self","room"] ["self","room"] (a_m m_R):=⟨rfl,rfl,rfl,by decide+kernel,rfl,by decide+kernel,by decide+kernel⟩
theorem l_t {f fI CS CO:Addr} {fd fdI:FuncData} (F:Fun K "__init__" "Store.__init__" m_R f fd) (T:Txt K mg CO) (TS:e_8 K mg CS CO) (M:Mk K CO fI) (bI:Binds K fdI ["self","word"] []) (GI:FnOk P w K mg base CX0 2 fI fdI ["self","word"] (m_o CO)):
 FnOk P w K mg base CX0 4 f fd ["self","room"] (h_A CS CO):=by
 refine F.ok m_5 (λvs H Q E h=> ?_) (λcdv A outer s H vs Q E hr h=> ?_)
 ·obtain⟨p,dx,room,rfl,_⟩:=h
  rfl
 ·obtain⟨p,dx,room,rfl,hp,fin⟩:=h
  obtain⟨t1,h1⟩:=T.rank;obtain⟨t2,h2⟩:=T.text
  refine⟨_,a_c (d_p (pv 0) (pv 1) rfl) (a_c (d_p (pv 0) h_R rfl) (a_c (d_p (pv 0) (f_F M GI hr rfl T.mgC bI .nil a_v (a_a (d_U h1) a_d)) rfl)
   (a_c (d_p (pv 0) (f_F M GI hr rfl T.mgC bI .nil a_v (a_a (d_U h2) a_d)) rfl) (a_c (d_p (pv 0) (a_O a_d) rfl) (a_f (d_p (pv 0) (a_O a_d) rfl)))))),?_⟩
  refine⟨_,rfl,_,rfl,p,CS,dx,_,rfl,hp,TS.cl,TS.nRoom,by show 0 < 1000;decide,?_⟩;have g1:∀b u,H b=some u->b≠p->(upd H p (.ins CS dx [("room",V.int room)])) b=some u:=b_B;show _;generalize y:upd H p (.ins CS dx (d_C "room" (.int room) []))=H1;have p1:H1 p=some (.ins CS dx [("room",.int room)]):=by rw[<-y];exact a_b
  have k1:∀b u,H b=some u->b≠p->H1 b=some u:=by rw[<-y];exact b_B
  have f1:∀b,H1 b=none->b≠p/\H b=none:=λb hb=>by
   have:b≠p:=λe=>by rw[e,p1] at hb;cases hb
   exact⟨this,by rw[<-y,a_i this] at hb;exact hb⟩
  clear y;refine λnb v=>⟨_,rfl,p,CS,dx,_,rfl,by rw[a_i (a_h p1 v)];exact p1,TS.cl,TS.nNum,by show 1 < 1000;decide,?_⟩;have ef:d_C ("by_number":Str) (V.ref nb) [(("room":Str),V.int room)]= [(("room":Str),V.int room),("by_number",.ref nb)]:=by rw[a_5 (by decide+kernel)];rfl
  rw[ef];generalize m:upd (upd H1 nb (.dK [])) p (.ins CS dx [("room",.int room),("by_number",.ref nb)])=H2;have np:nb≠p:=(f1 nb v).1;have p2:H2 p=some (.ins CS dx [("room",.int room),("by_number",.ref nb)]):=by rw[<-m];exact a_b
  have d2:H2 nb=some (.dK []):=by rw[<-m,a_i np];exact a_b
  have k2:∀b u,H b=some u->b≠p->H2 b=some u:=λb u hb hn=>by rw[<-m,a_i hn,a_i (a_h (k1 b u hb hn) v)];exact k1 b u hb hn
  have f2:∀b,H2 b=none->b≠p/\H b=none:=λb hb=>by
   have q1:b≠p:=λe=>by rw[e,p2] at hb;cases hb
   have q2:b≠nb:=λe=>by rw[e,d2] at hb;cases hb
   exact⟨q1,by rw[<-m,a_i q1,a_i q2] at hb;exact (f1 b hb).2⟩
  clear m;refine λo1 a4 z U a9=>⟨false,o1,a4,rfl,a_b,λa H3 L O1 q3=>⟨rfl,?_⟩⟩;have x:∀b u,H2 b=some u->H3 b=some u:=λb u hb=>q3 b u (by rw[a_i (a_h hb z),a_i (a_h hb U)];exact hb) (a_h hb z)
  have a8:H2 a=none:=by
   cases e:H2 a with
   | none=>rfl
   | some u=>rw[a_i (a_h e z),a_i (a_h e U),e] at L;cases L
  refine⟨_,rfl,p,CS,dx,_,rfl,x _ _ p2,TS.cl,TS.nRank,by show 2 < 1000;decide,?_⟩;have a5:d_C ("by_rank":Str) (V.ref o1) [(("room":Str),V.int room),("by_number",.ref nb)]= [(("room":Str),V.int room),("by_number",.ref nb),("by_rank",.ref o1)]:=by rw[a_5 (by decide+kernel),a_5 (by decide+kernel)];rfl
  rw[a5]
  have tkp:∀{Hx:Hp} {fl fl':List (Str×V)},Hx p=some (.ins CS dx fl)->∀{w:Bool} {o bl:Addr} {bas:List Addr} {B:List (List Row)},OrdAt CO w Hx o bl bas B->OrdAt CO w (upd Hx p (.ins CS dx fl')) o bl bas B:=by
   intro Hx fl fl' hx w o bl bas B O;obtain⟨⟨d,z1⟩,z2,z3,z4⟩:=O;refine⟨⟨d,?_⟩,?_, ?_, z4⟩
   ·rw[a_i λe=> ?_]
    ·exact z1
    ·rw[e,hx] at z1
     injection z1 with z1
     injection z1 with z1
     exact TS.cc z1
   ·rw[a_i λe=>by rw[e,hx] at z2;cases z2];exact z2
   ·exact a_R (fun xs e=>by rw[hx] at e;cases e) z3 fun b hb e=>by
     obtain⟨xs,q⟩:=e_m z3 b hb;rw[e,hx] at q;cases q
  generalize t:upd H3 p (.ins CS dx [("room",.int room),("by_number",.ref nb),("by_rank",.ref o1)])=H4;have W:OrdAt CO false H4 o1 a [] []:=by rw[<-t];exact tkp (x _ _ p2) O1
  have p4:H4 p=some (.ins CS dx [("room",.int room),("by_number",.ref nb),("by_rank",.ref o1)]):=by rw[<-t];exact a_b
  have X:∀b u,H3 b=some u->b≠p->H4 b=some u:=by rw[<-t];exact b_B
  have d4:H4 nb=some (.dK []):=X _ _ (x _ _ d2) np;have k4:∀b u,H b=some u->b≠p->H4 b=some u:=λb u hb hn=>X _ _ (x _ _ (k2 b u hb hn)) hn
  have f4:∀b,H4 b=none->b≠p/\H b=none:=λb hb=>by
   have q1:b≠p:=λe=>by rw[e,p4] at hb;cases hb
   refine⟨q1,?_⟩;cases e:H b with
   | none=>rfl
   | some u=>rw[k4 b u e q1] at hb;cases hb
  clear t;refine λo2 a2 J Y aa=>⟨true,o2,a2,rfl,a_b,λc H5 N O2 q5=>⟨rfl,?_⟩⟩;have j:∀b u,H4 b=some u->H5 b=some u:=λb u hb=>q5 b u (by rw[a_i (a_h hb J),a_i (a_h hb Y)];exact hb) (a_h hb J)
  have R:H4 c=none:=by
   cases e:H4 c with
   | none=>rfl
   | some u=>rw[a_i (a_h e J),a_i (a_h e Y),e] at N;cases N
  refine⟨_,rfl,p,CS,dx,_,rfl,j _ _ p4,TS.cl,TS.nText,by show 3 < 1000;decide,?_⟩;have a1:d_C ("by_text":Str) (V.ref o2) [(("room":Str),V.int room),("by_number",.ref nb),("by_rank",.ref o1)]= [(("room":Str),V.int room),("by_number",.ref nb),("by_rank",.ref o1),("by_text",.ref o2)]:=by rw[a_5 (by decide+kernel),a_5 (by decide+kernel),a_5 (by decide+kernel)];rfl
  rw[a1];generalize n:upd H5 p (.ins CS dx [("room",.int room),("by_number",.ref nb),("by_rank",.ref o1),("by_text",.ref o2)])=H6;have Z:OrdAt CO true H6 o2 c [] []:=by rw[<-n];exact tkp (j _ _ p4) O2
  have I:OrdAt CO false H6 o1 a [] []:=by rw[<-n];exact tkp (j _ _ p4) (W.same j)
  have p6:H6 p=some (.ins CS dx [("room",.int room),("by_number",.ref nb),("by_rank",.ref o1),("by_text",.ref o2)]):=by rw[<-n];exact a_b
  have S:∀b u,H5 b=some u->b≠p->H6 b=some u:=by rw[<-n];exact b_B
  have d6:H6 nb=some (.dK []):=S _ _ (j _ _ d4) np;have k6:∀b u,H b=some u->b≠p->H6 b=some u:=λb u hb hn=>S _ _ (j _ _ (k4 b u hb hn)) hn;clear n;refine⟨by show 0<=sizeLine;decide,λsl i=> ?_⟩;have s7:Same H6 (upd H6 sl (.lst [])):=Same.upd_new i;refine⟨_,rfl,p,CS,dx,_,rfl,s7 _ _ p6,TS.cl,TS.nSteps,by show 4 < 1000;decide,?_⟩;have a7:d_C ("steps":Str) (V.ref sl) [(("room":Str),V.int room),("by_number",.ref nb),("by_rank",.ref o1),("by_text",.ref o2)]= [(("room":Str),V.int room),("by_number",.ref nb),("by_rank",.ref o1),("by_text",.ref o2),("steps",.ref sl)]:=by rw[a_5 (by decide+kernel),a_5 (by decide+kernel),a_5 (by decide+kernel),a_5 (by decide+kernel)];rfl
  rw[a7];generalize r:upd (upd H6 sl (.lst [])) p (.ins CS dx [("room",.int room),("by_number",.ref nb),("by_rank",.ref o1),("by_text",.ref o2),("steps",.ref sl)])=H8;have nsp:sl≠p:=λe=>by rw[e,p6] at i;cases i
  have p8:H8 p=some (.ins CS dx [("room",.int room),("by_number",.ref nb),("by_rank",.ref o1),("by_text",.ref o2),("steps",.ref sl)]):=by rw[<-r];exact a_b
  have G:∀b u,(upd H6 sl (.lst [])) b=some u->b≠p->H8 b=some u:=by rw[<-r];exact b_B
  have l8:H8 sl=some (.lst []):=G _ _ a_b nsp;have A1:OrdAt CO false H8 o1 a [] []:=by rw[<-r];exact tkp (s7 _ _ p6) (I.same s7)
  have A2:OrdAt CO true H8 o2 c [] []:=by rw[<-r];exact tkp (s7 _ _ p6) (Z.same s7)
  have d8:H8 nb=some (.dK []):=G _ _ (s7 _ _ d6) np;have k8:∀b u,H b=some u->b≠p->H8 b=some u:=λb u hb hn=>G _ _ (s7 _ _ (k6 b u hb hn)) hn;clear r;refine⟨by show 0<=sizeLine;decide,λml g=> ?_⟩;have s9:Same H8 (upd H8 ml (.lst [])):=Same.upd_new g;refine⟨_,rfl,p,CS,dx,_,rfl,s9 _ _ p8,TS.cl,TS.nMarks,by show 5 < 1000;decide,?_⟩;have a6:d_C ("marks":Str) (V.ref ml) [(("room":Str),V.int room),("by_number",.ref nb),("by_rank",.ref o1),("by_text",.ref o2),("steps",.ref sl)]=c_e room nb o1 o2 sl ml:=by rw[a_5 (by decide+kernel),a_5 (by decide+kernel),a_5 (by decide+kernel),a_5 (by decide+kernel),a_5 (by decide+kernel)];rfl
  rw[a6];generalize k:upd (upd H8 ml (.lst [])) p (.ins CS dx (c_e room nb o1 o2 sl ml))=H10;have nmp:ml≠p:=λe=>by rw[e,p8] at g;cases g
  have l:∀b u,(upd H8 ml (.lst [])) b=some u->b≠p->H10 b=some u:=by rw[<-k];exact b_B
  have Z1:OrdAt CO false H10 o1 a [] []:=by rw[<-k];exact tkp (s9 _ _ p8) (A1.same s9)
  have Z2:OrdAt CO true H10 o2 c [] []:=by rw[<-k];exact tkp (s9 _ _ p8) (A2.same s9)
  have n1:sl≠ml:=a_h l8 g;have n2:a≠ml:=a_h A1.ls g;have n3:c≠ml:=a_h A2.ls g;have n4:a≠sl:=a_h I.ls i;have n5:c≠sl:=a_h Z.ls i;have n6:a≠c:=a_h W.ls R
  have a3:∀b,H8 b=none->b≠p/\H b=none:=λb hb=>by
   have q1:b≠p:=λe=>by rw[e,p8] at hb;cases hb
   refine⟨q1,?_⟩;cases e:H b with
   | none=>rfl
   | some u=>rw[k8 b u e q1] at hb;cases hb
  have a0:∀b,H6 b=none->b≠p/\H b=none:=λb hb=>by
   have q1:b≠p:=λe=>by rw[e,p6] at hb;cases hb
   refine⟨q1,?_⟩;cases e:H b with
   | none=>rfl
   | some u=>rw[k6 b u e q1] at hb;cases hb
  have C:f_0 CS CO H10 ⟨p,dx,nb,o1,o2,sl,ml,a,c, [], [], []⟩ room [] [] []:=
   ⟨by rw[←k];exact a_b,⟨[],l _ _ (s9 _ _ d8) np,.nil⟩,⟨[],Z1,⟨by simp[Adj],by simp⟩,by simp⟩,⟨[],Z2,⟨by simp[Adj],by simp⟩,by simp⟩,l _ _ (s9 _ _ l8) nsp,.nil,l _ _ a_b nmp,
     (f_y _).mpr ⟨n1,λb hb=>by simp at hb;rw[hb];exact⟨n4,n2⟩,λb hb=>by simp at hb;rw[hb];exact⟨n5,n3⟩,by simp,by simp,λb hb hc=>by simp at hb hc;exact n6 (hb ▸ hc)⟩⟩
  refine fin _ H10 ⟨[], [], [],C,.nil (r_5 _) (List.nodup_nil),.refl _,r_5 _,r_5 _⟩ rfl (λb hb=> ?_) λb u hb hn=>l _ _ (s9 _ _ (k8 b u hb hn)) hn;simp only[Ads.fp,Ads.ls,r_7,s_e,List.not_mem_nil,or_false] at hb;rcases hb with e | e | e | e | e | e
  ·exact .inl e
  ·exact .inr (by rw[e];exact (f1 nb v).2)
  ·exact .inr (by rw[e];exact (a0 sl i).2)
  ·exact .inr (by rw[e];exact (a3 ml g).2)
  ·exact .inr (by rw[e];exact (f2 a a8).2)
  ·exact .inr (by rw[e];exact (f4 c R).2)
end
end K1
namespace TO
open PySem L2
def c_q (k e:Int) (off:Nat) (l:List Row):List Row:=(l.zipIdx off).filterMap λp=>if k<=(p.2:Int)/\(p.2:Int) < e then some p.1 else none
theorem c_g (k e:Int):∀(l:List Row) (off:Nat),c_q k e off l=(l.take (e - off).toNat).drop (k - off).toNat
 | [],off=>by simp[c_q]
 | x::r,off=>by
   have ih:=c_g k e r (off+1)
   have step:c_q k e off (x::r)=(if k<=(off:Int)/\(off:Int) < e then [x] else [])++c_q k e (off+1) r:=by
    unfold c_q;rw[List.zipIdx_cons,List.filterMap_cons];by_cases c:k<=(off:Int)/\(off:Int) < e
    ·rw[if_pos c,if_pos c];rfl
    ·rw[if_neg c,if_neg c];rfl
   rw[step,ih];by_cases c1:e<=(off:Int)
   ·have e1:(e - (off:Int)).toNat=0:=by omega
    have e2:(e - ((off+1:Nat):Int)).toNat=0:=by omega
    rw[if_neg (by omega),e1,e2];simp
   ·obtain⟨h,eh⟩:∃h,(e - (off:Int)).toNat=h+1:=⟨(e - (off:Int)).toNat - 1,by omega⟩
    have e2:(e - ((off+1:Nat):Int)).toNat=h:=by omega
    rw[eh,e2,List.take_succ_cons];by_cases c2:k<=(off:Int)
    ·have e3:(k - (off:Int)).toNat=0:=by omega
     have e4:(k - ((off+1:Nat):Int)).toNat=0:=by omega
     rw[if_pos ⟨c2,by omega⟩,e3,e4];rfl
    ·obtain⟨g,eg⟩:∃g,(k - (off:Int)).toNat=g+1:=⟨(k - (off:Int)).toNat - 1,by omega⟩
     have e4:(k - ((off+1:Nat):Int)).toNat=g:=by omega
     rw[if_neg (by omega),eg,e4,List.drop_succ_cons];rfl
theorem e_O (k e:Int) (l₁ l₂:List Row) (off:Nat):c_q k e off (l₁++l₂)=c_q k e off l₁++c_q k e (off+l₁.length) l₂:=by
 unfold c_q;rw[List.zipIdx_append,List.filterMap_append]
theorem i_y {k e:Int} {off:Nat} (h:e<=(off:Int)) (l:List Row):c_q k e off l= []:=by
 rw[c_g];have:(e - (off:Int)).toNat=0:=by omega
 rw[this];simp
theorem e_H (k m:Int) (l:List Row):(l.zipIdx.filterMap λp=>if k<=(p.2:Int)/\(p.2:Int)<=k+m - 1 then some p.1 else none)=c_q k (k+m) 0 l:=by
 unfold c_q;congr 1;funext p;by_cases c:k<=(p.2:Int)/\(p.2:Int) < k+m
 ·rw[if_pos c,if_pos ⟨c.1,by omega⟩]
 ·rw[if_neg c,if_neg λz=>c ⟨z.1,by omega⟩]
theorem m_a {α:Type} {xs:List α} {lo hi:Nat}:(xs.drop (min lo xs.length)).take (min hi xs.length - min lo xs.length)=(xs.take hi).drop lo:=by
 rw[List.drop_take];by_cases h1:lo<=xs.length
 ·rw[Nat.min_eq_left h1]
  by_cases h2:hi<=xs.length
  ·rw[Nat.min_eq_left h2]
  ·have e0:min hi xs.length=xs.length:=by omega
   rw[e0,s_g (by simp),s_g (by simp;omega)]
 ·have e0:min lo xs.length=xs.length:=by omega
  have e1:xs.drop lo= []:=List.drop_of_length_le (by omega);have e2:xs.drop xs.length= []:=List.drop_of_length_le (r_5 _);rw[e0,e1,e2];simp
end TO
namespace K1
open PySem L2 TO
theorem StrC.ordW {CS CO:Addr} {H:Hp} {A:Ads} {room:Int} {l:List Row} {st:List a_Z} {ms:List Nat} (h:f_0 CS CO H A room l st ms) (hl:b_9 l) (w:Bool):
 ∃bl bas B,OrdAt CO w H (if w=true then A.o2 else A.o1) bl bas B/\GoodB w B/\B.flatten=a_V w l:=by
 cases w with
 | false=>obtain⟨B,O,G,p⟩:=h.O1;exact⟨_,_,B,O,G,d_5 hl G.srt p⟩
 | true=>obtain⟨B,O,G,p⟩:=h.O2;exact⟨_,_,B,O,G,d_5 hl G.srt p⟩
theorem a_3 (w:Bool) (l:List Row):(a_V w l).length=l.length:=(a_4 w l).length_eq
section
variable {P:Program} {w:World} {K:PySem.W.Frag} {mg:Str->Option Value} {base:Heap}
abbrev NoW (CNo:Addr) (x:Str) (E:XK) (H:Hp):Prop:=c_f x=none->(PySem.reprText x).length<=1000/\∀H',Same H H'->E (.ref CNo) none H'
def o_K (CNo:Addr):Sp:=λvs H Q E=>∃x:Str,vs= [.str x]/\(∀w,c_f x=some w->Q .non H)/\NoW CNo x E H
theorem p_e {f C CNo:Addr} {fd:FuncData} (F:Fun K "check_word" "check_word" sCW f fd) (T:Txt K mg C) (eO:Exc K mg "NoOrder" CNo):FnOk P w K mg base (CXR P w) 1 f fd ["word"] (o_K CNo):=by
 refine F.okX r_e (λvs H Q E h=> ?_) (λcdv A outer s H vs Q E hr h=> ?_)
 ·obtain⟨x,rfl,_⟩:=h
  rfl
 ·obtain⟨x,rfl,k1,k2⟩:=h
  obtain⟨t1,h1⟩:=T.rank;obtain⟨t2,h2⟩:=T.text;refine⟨_,a_f (a_C (PW.pt (e_Q (a_l d_e (pv 0) (d_U h1) (a_q _)) (c_4 (a_l d_e (pv 0) (d_U h2) (a_q _))))) (a_f (d_k eO e_E (a_a (o_J a_k (pv 0) (by decide+kernel)) a_d))) a_p),?_⟩;refine⟨_,rfl,rfl,_,rfl,?_⟩;by_cases c1:x="rank"
  ·subst c1
   exact p_j rfl (k1 false (if_pos rfl))
  ·have d1:(!decide (V.str x=V.str "rank"))=true:=by
    rw[s_D λq=>c1 (by injection q)];rfl
   refine a_y (λ_=> ?_) (λq=>absurd d1 q);refine⟨_,rfl,rfl,_,rfl,?_⟩;by_cases c2:x="text"
   ·subst c2
    exact p_j rfl (k1 true (by unfold c_f;rw[if_neg c1,if_pos rfl]))
   ·have d2:(!decide (V.str x=V.str "text"))=true:=by
     rw[s_D λq=>c2 (by injection q)];rfl
    refine a_y (λ_=> ?_) (λq=>absurd d2 q);obtain⟨q1,q2⟩:=k2 (by unfold c_f;rw[if_neg c1,if_neg c2]);exact⟨_,rfl,x,rfl,q1,λy=>⟨by show 1<=sizeLine;decide,q2 H (Same.refl H)⟩⟩
def d_i (CS CO CNo:Addr):Sp:=λvs H Q E=>∃(A:Ads) (x:Str) (room:Int) (l:List Row) (st:List a_Z) (ms:List Nat),vs= [.ref A.o,.str x]/\f_0 CS CO H A room l st ms/\
 (∀w,c_f x=some w->Q (.ref (if w=true then A.o2 else A.o1)) H)/\NoW CNo x E H
theorem k_g:a_s ["store","word"] ["store","word"] (a_m f_T):=⟨rfl,rfl,rfl,by decide+kernel,rfl,by decide+kernel,by decide+kernel⟩
theorem i_Z {f fCW CS CO CNo:Addr} {fd fdCW:FuncData} (F:Fun K "order_of" "order_of" f_T f fd) (T:Txt K mg CO) (TS:e_8 K mg CS CO) (gCW:Gf K mg "check_word" fCW fdCW ["word"]) (GCW:FnOk P w K mg base (CXR P w) 1 fCW fdCW ["word"] (o_K CNo)):
 FnOk P w K mg base (CXR P w) 2 f fd ["store","word"] (d_i CS CO CNo):=by
 refine F.okX k_g (λvs H Q E h=> ?_) (λcdv A outer s H vs Q E hr h=> ?_)
 ·obtain⟨A,x,room,l,st,ms,rfl,_⟩:=h
  rfl
 ·obtain⟨A,x,room,l,st,ms,rfl,S,k1,k2⟩:=h
  obtain⟨t1,h1⟩:=T.rank
  refine⟨_,a_c (a_z (a_j GCW hr rfl gCW.mg gCW.kp gCW.b .nil (c_t (E':=E) λ_ _ _ h=>h) (a_a (pv 1) a_d)))
   (a_c (a_C (a_l a_I (pv 1) (d_U h1) (a_q _)) (a_f (a_n (a_E (pv 0) rfl))) a_p) (a_f (a_n (a_E (pv 0) rfl)))),?_⟩
  refine⟨_,rfl,x,rfl,λw hw=> ?_, k2⟩
  have hx:x=e_n w:=by
   unfold c_f at hw;split at hw
   ·rename_i e;cases hw;exact e
   ·split at hw
    ·rename_i e;cases hw;exact e
    ·cases hw
  subst hx;refine⟨_,rfl,rfl,_,rfl,?_⟩;cases w with
  | false=>exact⟨_,rfl,A.o,CS,A.dx,_,_,rfl,S.ob,TS.cl,TS.nRank,f_M,k1 false hw⟩
  | true=>exact⟨_,rfl,A.o,CS,A.dx,_,_,rfl,S.ob,TS.cl,TS.nText,e_I,k1 true hw⟩
def h_U (CS CO CNo:Addr):Sp:=λvs H Q E=>∃(A:Ads) (x:Str) (lo hi:V) (room:Int) (l:List Row) (st:List a_Z) (ms:List Nat),vs= [.ref A.o,.str x,lo,hi]/\f_0 CS CO H A room l st ms/\b_9 l/\l.length < 9000/\
 (∀w,c_f x=some w->(∀ρ,b_h (c_u w ρ) lo=true)/\(∀ρ,b_h (c_u w ρ) hi=true)/\∀(t:Addr) (H':Hp),H t=none->Same H H'->LstAt H' t ((a_V w l).filter (i_L w lo hi))->Q (.ref t) H')/\NoW CNo x E H
theorem l_X:a_s ["store","word","low","high"] ["store","word","low","high"] (a_m h_r):=⟨rfl,rfl,rfl,by decide+kernel,rfl,by decide+kernel,by decide+kernel⟩
theorem i_6 {f fO fB CS CO CNo:Addr} {fd fdO fdB:FuncData} (F:Fun K "rows_within" "rows_within" h_r f fd) (T:Txt K mg CO) (gO:Gf K mg "order_of" fO fdO ["store","word"]) (GO:FnOk P w K mg base (CXR P w) 2 fO fdO ["store","word"] (d_i CS CO CNo))
 (mB:Mf K CO "between" fB fdB ["self","low","high"]) (GB:FnOk P w K mg base CX0 4 fB fdB ["self","low","high"] (k_j CO)):FnOk P w K mg base (CXR P w) 5 f fd ["store","word","low","high"] (h_U CS CO CNo):=by
 refine F.okX l_X (λvs H Q E h=> ?_) (λcdv A outer s H vs Q E hr h=> ?_)
 ·obtain⟨A,x,lo,hi,room,l,st,ms,rfl,_⟩:=h
  rfl
 ·obtain⟨A,x,lo,hi,room,l,st,ms,rfl,S,hn,hl,k1,k2⟩:=h
  have a:Room 2 _:=hr.mono (by decide);refine⟨_,a_f (a_n (a_Q (a_j GO a rfl gO.mg gO.kp gO.b .nil (c_t (E':=E) λ_ _ _ h=>h) (a_a (pv 0) (a_a (pv 1) a_d))) T.cl mB.m GB hr mB.b .nil a_v (a_a (pv 2) (a_a (pv 3) a_d)))),?_⟩;refine⟨_,rfl,_,rfl,A,x,room,l,st,ms,rfl,S,λw hw=> ?_, k2⟩;obtain⟨a1,a2,k3⟩:=k1 w hw;obtain⟨bl,bas,B,O,G,e⟩:=StrC.ordW S hn w;obtain⟨dx,ho⟩:=O.ob;refine⟨_,dx,_,rfl,ho,a_Y _ _ (by decide+kernel) (by decide+kernel),_,rfl,_,rfl,w,_,bl,bas,B,lo,hi,rfl,O,a1,a2,G,by rw[e,a_3];omega,λt H' ht s' hL=> ?_⟩;rw[e] at hL;exact k3 t H' ht s' hL
def m_l (CS CO CNo CM:Addr):Sp:=λvs H Q E=>∃(A:Ads) (x:Str) (n:Int) (room:Int) (l:List Row) (st:List a_Z) (ms:List Nat),vs= [.ref A.o,.str x,.int n]/\f_0 CS CO H A room l st ms/\b_9 l/\l.length < 9000/\k_W n/\
 (∀w,c_f x=some w->(b_v l n=false->E (.ref CM) none H)/\∀ρ,c_7 l n=some ρ->∀H',Same H H'->Q (.int ((l.filter λy=>ltR w y ρ).length:Nat)) H')/\NoW CNo x E H
theorem m_g:a_s ["store","word","number","order"] ["store","word","number"] (a_m m_6):=⟨rfl,rfl,rfl,by decide+kernel,rfl,by decide+kernel,by decide+kernel⟩
theorem o_j {f fO fA fR CS CO CNo CM:Addr} {fd fdO fdA fdR:FuncData} (F:Fun K "spot_of" "spot_of" m_6 f fd) (T:Txt K mg CO) (TS:e_8 K mg CS CO) (gO:Gf K mg "order_of" fO fdO ["store","word"]) (GO:FnOk P w K mg base (CXR P w) 2 fO fdO ["store","word"] (d_i CS CO CNo))
 (mA:Mf K CO "ahead_of" fA fdA ["self","row"]) (GA:FnOk P w K mg base CX0 4 fA fdA ["self","row"] (j_4 CO)) (mR:Mf K CS "row_of" fR fdR ["self","number"]) (GR:FnOk P w K mg base (CXR P w) 1 fR fdR ["self","number"] (e_S CS CO CM)):
 FnOk P w K mg base (CXR P w) 5 f fd ["store","word","number"] (m_l CS CO CNo CM):=by
 refine F.okX m_g (λvs H Q E h=> ?_) (λcdv A outer s H vs Q E hr h=> ?_)
 ·obtain⟨A,x,n,room,l,st,ms,rfl,_⟩:=h
  rfl
 ·obtain⟨A,x,n,room,l,st,ms,rfl,S,hn,hl,ht,k1,k2⟩:=h
  have d:Room 2 _:=hr.mono (by decide);have a:Room 1 _:=hr.mono (by decide)
  refine⟨_,a_c (a_w (i:=3) m_g.nd rfl (Or.inl rfl) (a_j GO d rfl gO.mg gO.kp gO.b .nil (c_t (E':=E) λ_ _ _ h=>h) (a_a (pv 0) (a_a (pv 1) a_d))))
   (a_f (a_n (a_Q (pv 3) T.cl mA.m GA hr mA.b .nil a_v (a_a (a_Q (pv 0) TS.cl mR.m GR a mR.b .nil (c_t (E':=E) λ_ _ _ h=>h) (a_a (pv 2) a_d)) a_d)))),?_⟩
  refine⟨_,rfl,_,rfl,A,x,room,l,st,ms,rfl,S,λw hw=> ?_, k2⟩;obtain⟨k3,k4⟩:=k1 w hw;obtain⟨bl,bas,B,O,G,e⟩:=StrC.ordW S hn w;obtain⟨dx,ho⟩:=O.ob;refine⟨_,rfl,_,dx,_,rfl,ho,a_Y _ _ (by decide+kernel) (by decide+kernel),_,rfl,A.o,A.dx,_,rfl,S.ob,d_H (by decide+kernel) (by decide+kernel) (by decide+kernel) (by decide+kernel) (by decide+kernel) (by decide+kernel),_,rfl,A,n,room,l,st,ms,rfl,S,ht,λc r ρ hf hρ=> ?_, k3⟩;refine⟨w,_,bl,r,bas,B,ρ,rfl,O,hρ,G,by rw[e,a_3];omega,λH' s'=> ?_⟩
  have el:(B.flatten.filter λy=>ltR w y ρ).length=(l.filter λy=>ltR w y ρ).length:=by
   rw[e];exact ((a_4 w l).filter _).length_eq
  rw[el];exact k4 ρ hf H' s'
def m_H (CS CO CNo:Addr):Sp:=λvs H Q E=>∃(A:Ads) (x:Str) (k m:Int) (room:Int) (l:List Row) (st:List a_Z) (ms:List Nat),vs= [.ref A.o,.str x,.int k,.int m]/\f_0 CS CO H A room l st ms/\b_9 l/\l.length < 9000/\
 (∀w,c_f x=some w->∀(t:Addr) (H':Hp),H t=none->Same H H'->LstAt H' t (c_q k (k+m) 0 (a_V w l))->Q (.ref t) H')/\NoW CNo x E H
theorem f_d:a_s ["store","word","spot","many","found","end","ahead","block"] ["store","word","spot","many"] (a_m m_4):=⟨rfl,rfl,rfl,by decide+kernel,rfl,by decide+kernel,by decide+kernel⟩
theorem n_1 {f fO CS CO CNo:Addr} {fd fdO:FuncData} (F:Fun K "rows_from" "rows_from" m_4 f fd) (T:Txt K mg CO) (hmax:mg "max"=none) (gO:Gf K mg "order_of" fO fdO ["store","word"]) (GO:FnOk P w K mg base (CXR P w) 2 fO fdO ["store","word"] (d_i CS CO CNo)):
 FnOk P w K mg base (CXR P w) 3 f fd ["store","word","spot","many"] (m_H CS CO CNo):=by
 refine F.okX f_d (λvs H Q E h=> ?_) (λcdv A outer s H vs Q E hr h=> ?_)
 ·obtain⟨A,x,k,m,room,l,st,ms,rfl,_⟩:=h
  rfl
 ·obtain⟨A,x,k,m,room,l,st,ms,rfl,S,hn,hl,k1,k2⟩:=h
  refine⟨_,a_c (a_w (i:=4) f_d.nd rfl (Or.inl rfl) (a_O a_d))
   (a_c (a_w (i:=5) f_d.nd rfl (Or.inl rfl) (a_u a_U (pv 2) (pv 3)))
   (a_c (a_w (i:=6) f_d.nd rfl (Or.inl rfl) a_g)
   (a_c (b_0 PassesOwn.leaving rfl (b_e (a_E (a_j GO hr rfl gO.mg gO.kp gO.b .nil (c_t (E':=E) fun _ _ _ h=>h) (a_a (pv 0) (a_a (pv 1) a_d))) rfl)) (a_9 (i:=7) f_d.nd rfl (Or.inl rfl))
     (a_c (a_C (a_l j_o (pv 6) (pv 5) (a_q _)) (a_f (a_n (pv 4))) a_p)
     (a_c (a_z (b_y s_G PySem.F.slot_list_extend PySem.F.type_list_extend d_z (pv 4) (a_a (b_s e_x (pv 7) (b_G (a_t (j_W rfl) (by rfl) hmax PyProof.Rows.boot_max (a_a (a_u b_T (pv 2) (pv 6)) (a_a a_g a_d)))) (b_G (a_u b_T (pv 5) (pv 6)))) a_d)))
     (a_f (a_w (i:=6) f_d.nd rfl (Or.inl rfl) (a_u a_U (pv 6) (a_t a_x (by rfl) T.len s_F (a_a (pv 7) a_d))))))))
   (a_f (a_n (pv 4)))))),?_⟩
  refine⟨by show 0<=sizeLine;decide,λt ht=> ?_⟩;have s1:Same H (upd H t (.lst [])):=Same.upd_new ht;refine⟨_,rfl,_,rfl,_,_,rfl,rfl,?_⟩;refine⟨_,rfl,_,rfl,A,x,room,l,st,ms,rfl,S.same s1,λw hw=> ?_, λhw=> ?_⟩
  rotate_left
  ·exact⟨(k2 hw).1,λH' s'=>(k2 hw).2 H' (s1.trans s')⟩
  obtain⟨bl,bas,B,O,G,e⟩:=StrC.ordW S hn w;obtain⟨dx,ho⟩:=O.ob;have I:=O.ls;have L:bas.length=B.length:=Paired.length O.bs
  refine⟨_,CO,dx,_,_,rfl,s1 _ _ ho,T.cl,T.nB,a_A _ _,bl,rfl,⟨_,SqL.of (s1 _ _ I)⟩,b_X (K:=K) (a:=bl) (xs:=bas.map V.ref)
   (λj σ H4=>∃v7:Option V,σ= [some (.ref A.o),some (.str x),some (.int k),some (.int m),some (.ref t),some (.int (k+m)),some (.int (((B.take j).flatten.length:Nat):Int)),v7]/\Same H H4/\LstAt H4 t (c_q k (k+m) 0 (B.take j).flatten)) ⟨none,rfl,s1, [],a_b,.nil⟩ (λj σ H4 _ ⟨_,_,s4,_⟩=>SqL.of (s4 _ _ I)) ?_ ?_⟩
  ·rintro j v σ H4 hj ⟨v7,rfl,s4,as,g,n⟩
   rw[r_8] at hj;cases ej:bas[j]? with
   | none=>rw[ej] at hj;cases hj
   | some ab=>
     rw[ej] at hj;obtain rfl:V.ref ab=v:=r_3 hj;have Z:=(s_a.mp ej).1;obtain⟨b,hb⟩:∃b,B[j]? =some b:=⟨_,r_X (by omega)⟩;obtain⟨ab',e',bs,y,J⟩:=a_T O.bs hb;rw[ej] at e';obtain rfl:ab=ab':=r_3 e';have X:=J.len;have W:=n.len;have r:(B.take (j+1)).flatten=(B.take j).flatten++b:=by rw[s_n,hb];simp
     have N:=f_v (B:=B) (j+1);rw[e,a_3,r,r_Y] at N;refine⟨_,rfl,_,rfl,_,_,rfl,rfl,_,rfl,a_y (λc=> ?_) (λc=> ?_)⟩
     ·have c':k+m<=(((B.take j).flatten.length:Nat):Int):=s_E c
      refine⟨_,rfl,k1 w hw t H4 ht s4 ⟨as,g,?_⟩⟩;have ed:a_V w l=(B.take j).flatten++(B.drop j).flatten:=by rw[<-e,<-s_j,s_z]
      rw[ed,e_O,i_y (l:=(B.drop j).flatten) (by simpa using c'),s_t];exact n
     ·have c':(((B.take j).flatten.length:Nat):Int) < k+m:=by
       have:¬ k+m<=(((B.take j).flatten.length:Nat):Int):=λz=>c (s_C z);omega
      refine⟨_,rfl,.inl ⟨rfl,_,SqL.of g⟩,_,rfl,_,rfl,_,rfl,_,_,rfl,rfl,_,_,rfl,_,rfl,_,rfl,_,rfl,_,_,rfl,rfl,_,rfl,ab,_,rfl,SqL.of (s4 _ _ y),λp hp=> ?_⟩
      have ecut:g_u (bs.map V.ref) (some (if (0:Int) > k - (((B.take j).flatten.length:Nat):Int) then 0 else k - (((B.take j).flatten.length:Nat):Int))) (some (k+m - (((B.take j).flatten.length:Nat):Int)))=((bs.take (k+m - (((B.take j).flatten.length:Nat):Int)).toNat).drop (k - (((B.take j).flatten.length:Nat):Int)).toNat).map V.ref:=by
       have i1:HT.sIx (bs.map V.ref).length 0 (some (if (0:Int) > k - (((B.take j).flatten.length:Nat):Int) then 0 else k - (((B.take j).flatten.length:Nat):Int)))=min (k - (((B.take j).flatten.length:Nat):Int)).toNat (bs.map V.ref).length:=by
        unfold HT.sIx;dsimp only
        (repeat' split) <;> first | rfl | omega
       have i2:HT.sIx (bs.map V.ref).length (bs.map V.ref).length (some (k+m - (((B.take j).flatten.length:Nat):Int)))=min (k+m - (((B.take j).flatten.length:Nat):Int)).toNat (bs.map V.ref).length:=by
        unfold HT.sIx;dsimp only;rw[if_neg (by omega)]
       unfold g_u;rw[i1,i2,m_a,List.map_drop,List.map_take]
      rw[ecut];have M:=s4 _ _ y;have ntp:t≠p:=a_h g hp;have s5:Same H4 (upd H4 p (.lst (((bs.take (k+m - (((B.take j).flatten.length:Nat):Int)).toNat).drop (k - (((B.take j).flatten.length:Nat):Int)).toNat).map V.ref))):=Same.upd_new hp
      have U:(as.map V.ref).length+(((bs.take (k+m - (((B.take j).flatten.length:Nat):Int)).toNat).drop (k - (((B.take j).flatten.length:Nat):Int)).toNat).map V.ref).length<=sizeLine:=by
       have h1:as.length<=(B.take j).flatten.length:=by
        rw[W,c_g,List.length_drop,s_i];omega
       rw[r_W,r_W,List.length_drop,s_i];exact s_h (m:=20000) (by omega) (by decide)
      refine⟨t,p,_,_,rfl,rfl,s5 _ _ g,a_b,U,?_⟩;have Y:=s5 _ _ g
      have m6:∀{xs:List V},Same H (upd (upd H4 p (.lst (((bs.take (k+m - (((B.take j).flatten.length:Nat):Int)).toNat).drop (k - (((B.take j).flatten.length:Nat):Int)).toNat).map V.ref))) t (.lst xs)):=λ{xs} d u hd=>by
       rw[a_i (a_h hd ht)];exact s5 _ _ (s4 _ _ hd)
      have R:ab≠t:=a_h y ht;refine⟨_,rfl,_,rfl,ab,_,rfl,.inl (SqL.of (by rw[a_i R];exact s5 _ _ M)),_,_,rfl,rfl,some (V.ref ab),?_, m6,as++((bs.take (k+m - (((B.take j).flatten.length:Nat):Int)).toNat).drop (k - (((B.take j).flatten.length:Nat):Int)).toNat),by rw[r_4];exact a_b,?_⟩
      ·rw[r,r_Y,r_W,X]
       simp
      ·rw[r,e_O]
       refine RowsAt.app (n.same λd ys q=> ?_) ?_
       ·rw[a_i (λz=>by rw[z,g] at q;cases q)]
        exact s5 _ _ q
       ·rw[Nat.zero_add,c_g]
        exact ((J.take _).drop _).same λd ys q=>m6 _ _ q
  ·rintro σ H4 ⟨v7,rfl,s4,C⟩
   refine⟨_,rfl,k1 w hw t H4 ht s4 ?_⟩;rw[r_W,L,s_g (r_5 _),e] at C;exact C
end
theorem c_m {K:PySem.W.Frag} {a Da:Addr} {σ:L2.St} {js:List Nat} {tt:TT} {te:TE} {QQ:Hp->Prop} {H:Hp} {as:List Addr} {ρs:List Row} (p:Row->Bool) (ha:H a=some (.lst (as.map .ref))) (hR:RowsAt H as ρs) (hD:H Da=none) (hsz:ρs.length < 10000)
 (hs:∀r ρ H2 (Qb:Bool->Hp->Prop),Same H H2->RowAt H2 r ρ->(∀H3,Same H2 H3->Qb (p ρ) H3)->tt (b_q σ js (some (.ref r))) H2 Qb)
 (he:∀r H2 (Q:VK),Q (.ref r) H2->te (b_q σ js (some (.ref r))) H2 Q)
 (hd:∀H',Same H H'->LstAt H' Da (ρs.filter p)->QQ H'):∃W:Nat->Nat->Hp->Prop,(∃m,W 0 m (upd H Da (.lst [])))/\e_W (Itl K a) Da σ js tt te QQ W:=by
 have f:=hR.len;refine c_I (K:=K) (xs:=as.map V.ref) (λi ys H5=>Same H H5/\∃bs:List Addr,ys=bs.map V.ref/\RowsAt H5 bs ((ρs.take i).filter p)) ⟨Same.upd_new hD, [],rfl,.nil⟩ (λi ys H5 _ _ h=>SqL.of (h.1 _ _ ha)) ?_ ?_
 ·rintro i v ys H5 hi d ⟨s5,bs,rfl,hb⟩
  rw[r_8] at hi;cases e:as[i]? with
  | none=>rw[e] at hi;cases hi
  | some r=>
    rw[e] at hi;obtain rfl:V.ref r=v:=r_3 hi;obtain⟨ρ,hρ,hr⟩:=hR.get' e;refine hs r ρ H5 _ s5 (s5 _ _ hr) λH6 s6=> ?_;have et:ρs.take (i+1)=ρs.take i++ [ρ]:=by rw[s_n,hρ];rfl
    refine a_y (λc=> ?_) (λc=> ?_)
    ·refine he r H6 _ ⟨s6 _ _ d,?_, λb u hb=> ?_, bs++ [r],by rw[r_4];rfl,?_⟩
     ·have:=hb.len
      have h2:=s_x p (ρs.take i);rw[s_i] at h2;rw[r_W];exact s_c (m:=10000) (by omega) (by decide)
     ·rw[a_i (a_h hb hD)]
      exact s6 _ _ (s5 _ _ hb)
     ·rw[et,List.filter_append,s_l,if_pos c,List.filter_nil]
      exact (RowsAt.app (hb.same λb xs q=>s6 _ _ q) (.cons (s6 _ _ (s5 _ _ hr)) .nil)).same (NoTup.keep (NoTup.lst (s6 _ _ d)))
    ·refine⟨s6 _ _ d,s5.trans s6,bs,rfl,?_⟩
     rw[et,List.filter_append,s_l,if_neg c,List.filter_nil,s_t];exact hb.same λb xs q=>s6 _ _ q
 ·rintro ys H5 d ⟨s5,bs,rfl,hb⟩
  rw[r_W,f,s_g (r_5 _)] at hb;exact hd H5 s5 ⟨bs,d,hb⟩
theorem _root_.L2.Room.in2 {k:Nat} {A:Around} (h:Room (k+1) A):Room k A.in1.in1:=⟨h.hd,by have:=h.dp;show A.depth+3 * k+5 < _;omega,by have:=h.un;show A.units+1+1+16 * k+200 < _;omega⟩
section
variable {P:Program} {w:World} {K:PySem.W.Frag} {mg:Str->Option Value} {base:Heap}
theorem k_F:a_s ["row"] ["row"] (a_m f_V):=⟨rfl,rfl,rfl,by decide+kernel,rfl,by decide+kernel,by decide+kernel⟩
theorem i_X {f fK C:Addr} {fd fdK:FuncData} (F:Fun K "rank_key" "rank_key" f_V f fd) (T:Txt K mg C) (gK:Gf K mg "key_of" fK fdK ["word","row"]) (GK:FnOk P w K mg base CX0 2 fK fdK ["word","row"] g_W):FnOk P w K mg base CX0 3 f fd ["row"] o_L:=by
 refine F.ok k_F (λvs H Q E h=> ?_) (λcdv A outer s H vs Q E hr h=> ?_)
 ·obtain⟨a,ρ,rfl,_⟩:=h
  rfl
 ·obtain⟨a,ρ,rfl,ha,k⟩:=h
  obtain⟨t1,h1⟩:=T.rank;refine⟨_,a_f (a_n (a_j GK hr rfl gK.mg gK.kp gK.b .nil a_v (a_a (d_U h1) (a_a (pv 0) a_d)))),?_⟩;exact⟨_,rfl,false,a,ρ,rfl,ha,k⟩
def m_J (CS CO:Addr):Sp:=λvs H Q _=>∃(A:Ads) (lo hi:Int) (t:Str) (room:Int) (l:List Row) (st:List a_Z) (ms:List Nat),vs= [.ref A.o,.int lo,.int hi,.str t]/\f_0 CS CO H A room l st ms/\b_9 l/\l.length < 64/\
 ∀(d:Addr) (H':Hp),H d=none->Same H H'->LstAt H' d (((a_V false l).filter λx=>decide (x.t=t)).filter (i_L false (.int lo) (.int hi)))->Q (.ref d) H'
theorem m_m:a_s ["store","low","high","text","found"] ["store","low","high","text"] (a_m n_6):=⟨rfl,rfl,rfl,by decide+kernel,rfl,by decide+kernel,by decide+kernel⟩
theorem o_g (t:Str) (x:Row):i_L true (.str t) (.str t) x=decide (x.t=t):=by
 by_cases e:x.t=t
 ·rw[s_C e]
  unfold i_L;show (!ltV (.str x.t) (.str t)&& !ltV (.str t) (.str x.t))=true;rw[e,c_h];rfl
 ·rw[s_D e]
  unfold i_L;show (!ltV (.str x.t) (.str t)&& !ltV (.str t) (.str x.t))=false;cases h:ltV (.str x.t) (.str t) with
  | true=>rfl
  | false=>
    have:=g_1 (x:= .str x.t) (y:= .str t) rfl h (λq=>e (by injection q));rw[this];rfl
theorem n_P {f fB fRK CS CO:Addr} {fd fdB fdRK:FuncData} (F:Fun K "rows_of_text" "rows_of_text" n_6 f fd) (T:Txt K mg CO) (TS:e_8 K mg CS CO) (hsorted:mg "sorted"=none) (mBt:Mf K CO "between" fB fdB ["self","low","high"]) (GBt:FnOk P w K mg base CX0 4 fB fdB ["self","low","high"] (k_j CO))
 (gRK:Gf K mg "rank_key" fRK fdRK ["row"]) (GRK:FnOk P w K mg base CX0 3 fRK fdRK ["row"] o_L):FnOk P w K mg base CX0 5 f fd ["store","low","high","text"] (m_J CS CO):=by
 refine F.ok m_m (λvs H Q E h=> ?_) (λcdv A outer s H vs Q E hr h=> ?_)
 ·obtain⟨A,lo,hi,t,room,l,st,ms,rfl,_⟩:=h
  rfl
 ·obtain⟨A,lo,hi,t,room,l,st,ms,rfl,S,hn,hl,fin⟩:=h
  have u:Room 4 _:=hr;have J:=Room.in2 hr
  refine⟨_,a_c (c_c (k:=4) (x:="row") (fns:= ["low","high"]) (js:= [1,2]) rfl ⟨rfl,by decide+kernel,by decide+kernel,rfl,by decide+kernel,by decide+kernel,rfl,by simp[Env.kindOf];exact⟨rfl,rfl⟩,rfl,by decide+kernel⟩ (b_e (a_Q (a_E (pv 0) rfl) T.cl mBt.m GBt u mBt.b .nil a_v (a_a (pv 3) (a_a (pv 3) a_d)))) (λ_ _ _ _=>(d_B (PW.pt (e_Q (a_l j_o (a_r (b_f K) (pv 0) a_g (λ_ _=>rfl)) (pv 1) (a_q _)) (c_4 (a_l q_E (a_r (b_f K) (pv 0) a_g (λ_ _=>rfl)) (pv 2) (a_q _))))))) (λ_ _ _ _=>(pv 0)) m_m.nd rfl (Or.inl rfl))
   (a_f (a_n (l_R GRK J gRK.b hsorted (pv 4) gRK.mg))),?_⟩
  obtain⟨bl,bas,B,O,G,e⟩:=StrC.ordW S hn true;obtain⟨dx,ho⟩:=O.ob;refine⟨_,rfl,A.o,CS,A.dx,_,_,rfl,S.ob,TS.cl,TS.nText,e_I,A.o2,dx,_,rfl,ho,a_Y _ _ (by decide+kernel) (by decide+kernel),_,rfl,_,rfl,true,A.o2,bl,bas,B,.str t,.str t,rfl,O,λ_=>rfl,λ_=>rfl,G,by rw[e,a_3];omega,λr H1 X s1 I=> ?_⟩;obtain⟨as,g,y⟩:=id I
  have a:(B.flatten.filter (btw true (.str t) (.str t))).length<=l.length:=by
   rw[e,<-a_3 true l];exact s_x _ _
  refine⟨r,rfl,⟨_,SqL.of g⟩,λLa i=>c_m (λx=>decide (lo<=x.r)&&decide (x.r<=hi)) g y i (by omega) ?_ (λr H2 Q q=>⟨_,rfl,q⟩) λH3 s3 v=> ?_⟩
  ·intro r ρ H2 Qb s2 hρ k
   refine⟨_,rfl,r,_,_,_,rfl,rfl,SqT.of hρ,a_e (j:=1) rfl,_,rfl,_,_,rfl,rfl,_,rfl,a_y (λc=> ?_) (λc=> ?_)⟩
   ·refine⟨_,rfl,r,_,_,_,rfl,rfl,SqT.of hρ,a_e (j:=1) rfl,_,rfl,_,_,rfl,rfl,_,rfl,?_⟩
    have c':decide (lo<=ρ.r)=true:=c;have:=k H2 (Same.refl H2);rw[c',Bool.true_and] at this;exact this
   ·have c':decide (lo<=ρ.r)=false:=by simpa using c
    have:=k H2 (Same.refl H2);rw[c',Bool.false_and] at this;exact this
  ·obtain⟨bs,M,p⟩:=id v
   have L:((((B.flatten.filter (btw true (.str t) (.str t))).filter λx=>decide (lo<=x.r)&&decide (x.r<=hi))).map (·.n)).Nodup:=by
    have h0:b_9 B.flatten:=by rw[e];exact b_U (a_4 true l).symm hn
    exact ((List.filter_sublist.trans List.filter_sublist).map _).nodup h0
   have U:=p.len;have W:((B.flatten.filter (btw true (.str t) (.str t))).filter λx=>decide (lo<=x.r)&&decide (x.r<=hi)).length<=l.length:=s_h (s_x _ _) a;refine⟨_,rfl,La,bs,_,rfl,SqL.of M,p,L,by omega,λd κs H4 hd s4 C hp N=> ?_⟩;have R:H La=none:=s1.free i;refine fin d H4 ?_ ((s1.trans s3).trans s4) ?_
   ·exact s1.free (s3.free hd)
   ·have ek:κs=((a_V false l).filter fun x=>decide (x.t=t)).filter (i_L false (.int lo) (.int hi)):=by
     refine Srt.one (b_M false) (c_D false) N ?_ ?_
     ·exact ((c_A false hn).filter _).filter _
     ·refine hp.trans ?_
      have e1:(B.flatten.filter (btw true (.str t) (.str t)))=(a_V true l).filter λx=>decide (x.t=t):=by
       rw[e];exact List.filter_congr λx _=>o_g t x
      have e2:∀m:List Row,(m.filter λx=>decide (lo<=x.r)&&decide (x.r<=hi))=m.filter (i_L false (.int lo) (.int hi)):=λm=>List.filter_congr λx _=>by
       show (decide (lo<=x.r)&&decide (x.r<=hi))=(!decide (x.r < lo)&& !decide (hi < x.r));congr 1
       ·by_cases z:lo<=x.r
        ·rw[s_C z,s_D (by omega)];rfl
        ·rw[s_D z,s_C (by omega)];rfl
       ·by_cases z:x.r<=hi
        ·rw[s_C z,s_D (by omega)];rfl
        ·rw[s_D z,s_C (by omega)];rfl
      rw[e1,e2];exact (((a_4 true l).trans (a_4 false l).symm).filter _).filter _
    rw[<-ek];exact C
end
end K1
namespace TO
open PySem L2
def c_z (room:Int) (s:Sto):Deed->Str
 | .chg c=>(b_j room s.kept c).2
 | .begin=>"done"
 | .keep=>if s.marks= [] then "not begun" else "done"
 | .brk=>if s.marks= [] then "not begun" else "done"
 | _=>"nothing"
theorem g_j {room:Int} {s:Sto} {d:Deed} (h:d.plain):(s.step room d).2= .str (c_z room s d):=by
 cases d with
 | chg c=>rfl
 | begin=>rfl
 | keep=>unfold Sto.step c_z;cases s.marks <;> rfl
 | brk=>unfold Sto.step c_z;cases s.marks <;> rfl
 | _=>exact h.elim
theorem k_9 {room:Int} {s:Sto} {d:Deed} (h:d.plain) (hw:¬ c_z room s d="done"):(s.step room d).1=s:=by
 cases d with
 | chg c=>
   have:(b_j room s.kept c).1=s.kept:=by
    have b:¬ (b_j room s.kept c).2="done":=hw
    revert b
    cases c <;> simp only[b_j] <;> (repeat' split) <;> intro b <;> first | rfl | exact absurd rfl b
   show ({ s with kept:=(b_j room s.kept c).1 }:Sto)=s;rw[this]
 | begin=>exact absurd rfl hw
 | keep=>
   unfold c_z at hw;unfold Sto.step;cases e:s.marks with
   | nil=>rfl
   | cons a r=>rw[e] at hw;simp at hw
 | brk=>
   unfold c_z at hw;unfold Sto.step;cases e:s.marks with
   | nil=>rfl
   | cons a r=>rw[e] at hw;simp at hw
 | _=>exact h.elim
theorem l_W {room:Int} {s:Sto} {d:Deed} (h:d.asks):s.step room d=(s,b_V s.kept d):=by
 cases d <;> first | rfl | exact h.elim
theorem b_u {w:Bool} {l l':List Row} (hl:b_9 l) (p:l.Perm l'):a_V w l=a_V w l':=
 d_5 (b_U p hl) (c_A w hl) ((a_4 w l).trans p)
theorem k_J {l l':List Row} (hl:b_9 l) (p:l.Perm l') (d:Deed):b_V l d=b_V l' d:=by
 cases d with
 | row n=>simp only[b_V];rw[e_3 hl p]
 | both lo hi t=>simp only[b_V];rw[b_u hl p]
 | within x lo hi=>simp only[b_V];cases c_f x <;> simp only[b_u hl p]
 | «from» x k m=>simp only[b_V];cases c_f x <;> simp only[b_u hl p]
 | spot x n=>
   simp only[b_V];rw[e_3 hl p];cases c_f x with
   | none=>rfl
   | some w=>
     simp only;cases c_7 l' n with
     | none=>rfl
     | some ρ=>simp only;rw[(p.filter _).length_eq]
 | _=>rfl
end TO
namespace K1
open PySem L2 TO
structure o_M (K:PySem.W.Frag) (CT CM CF CN CO:Addr):Prop where
 tt:PySem.W.exmOne K (.ref CT) (.ref CT)=some true
 mt:PySem.W.exmOne K (.ref CM) (.ref CT)=some false
 mm:PySem.W.exmOne K (.ref CM) (.ref CM)=some true
 ft:PySem.W.exmOne K (.ref CF) (.ref CT)=some false
 fm:PySem.W.exmOne K (.ref CF) (.ref CM)=some false
 ff:PySem.W.exmOne K (.ref CF) (.ref CF)=some true
 nt:PySem.W.exmOne K (.ref CN) (.ref CT)=some false
 nm:PySem.W.exmOne K (.ref CN) (.ref CM)=some false
 nf:PySem.W.exmOne K (.ref CN) (.ref CF)=some false
 nn:PySem.W.exmOne K (.ref CN) (.ref CN)=some true
 ot:PySem.W.exmOne K (.ref CO) (.ref CT)=some false
 om:PySem.W.exmOne K (.ref CO) (.ref CM)=some false
 of:PySem.W.exmOne K (.ref CO) (.ref CF)=some false
 on:PySem.W.exmOne K (.ref CO) (.ref CN)=some false
 oo:PySem.W.exmOne K (.ref CO) (.ref CO)=some true
structure r_y (CT CF CM CN:Addr) (x:Str) (E:XK) (H:Hp):Prop where
 t:x="taken"->E (.ref CT) none H
 f:x="full"->E (.ref CF) none H
 m:x="missing"->E (.ref CM) none H
 n:x="not begun"->E (.ref CN) none H
section
variable {P:Program} {w:World} {K:PySem.W.Frag} {mg:Str->Option Value} {base:Heap}
def q_4 (CS CO CT CF CM CN:Addr):Sp:=λvs H Q E=>∃(A:Ads) (a:Addr) (d:Deed) (N:Nat) (room sd:Int) (s:Sto),vs= [.ref A.o,.ref a]/\SAt CS CO H A N room s/\DeedAt H a d/\d.plain/\d.tell sd/\N<=8000/\
 (c_z room s d="done"->m_N CS CO H A (N+1) room Q (s.step room d).1)/\r_y CT CF CM CN (c_z room s d) E H
theorem r_O:a_s ["store","deed"] ["store","deed"] (a_m dDo):=⟨rfl,rfl,rfl,by decide+kernel,rfl,by decide+kernel,by decide+kernel⟩
theorem q_w {f fBr fAl fCu fBe fKe fBk CS CO CT CF CM CN:Addr} {fd fdBr fdAl fdCu fdBe fdKe fdBk:FuncData} (F:Fun K "do_change" "do_change" dDo f fd) (TS:e_8 K mg CS CO)
 (mBr:Mf K CS "bring" fBr fdBr ["self","row"]) (GBr:FnOk P w K mg base (CXR P w) 7 fBr fdBr ["self","row"] (k_o CS CO CT CF)) (mAl:Mf K CS "alter" fAl fdAl ["self","row"]) (GAl:FnOk P w K mg base (CXR P w) 7 fAl fdAl ["self","row"] (k_y CS CO CM))
 (mCu:Mf K CS "cut" fCu fdCu ["self","number"]) (GCu:FnOk P w K mg base (CXR P w) 7 fCu fdCu ["self","number"] (o_F CS CO CM)) (mBe:Mf K CS "begin" fBe fdBe ["self"]) (GBe:FnOk P w K mg base CX0 1 fBe fdBe ["self"] (h_o CS CO))
 (mKe:Mf K CS "keep" fKe fdKe ["self"]) (GKe:FnOk P w K mg base (CXR P w) 2 fKe fdKe ["self"] (j_v CS CO CN)) (mBk:Mf K CS "break_off" fBk fdBk ["self"]) (GBk:FnOk P w K mg base (CXR P w) 6 fBk fdBk ["self"] (g_X CS CO CN)):
 FnOk P w K mg base (CXR P w) 8 f fd ["store","deed"] (q_4 CS CO CT CF CM CN):=by
 refine F.okX r_O (λvs H Q E h=> ?_) (λcdv A outer s H vs Q E hr h=> ?_)
 ·obtain⟨A,a,d,N,room,sd,s,rfl,_⟩:=h
  rfl
 ·obtain⟨A,a,d,N,room,sd,so,rfl,S,hd,x,p,hN,k1,k2⟩:=h
  have y:Room 6 _:=hr.mono (by decide);have v:Room 2 _:=hr.mono (by decide);have u:Room 1 _:=hr.mono (by decide)
  have ob:∃fl dx,H A.o=some (.ins CS dx fl)/\∀m:Str,¬ m="room"->¬ m="by_number"->¬ m="by_rank"->¬ m="by_text"->¬ m="steps"->¬ m="marks"->fl.lookup m=none:=by
   obtain⟨l,st,ms,C,_⟩:=S.ex;exact⟨_,_,C.ob,λm a b c d e f=>d_H a b c d e f⟩
  obtain⟨fl,dx,i,g⟩:=ob
  refine⟨_,a_f (a_C (a_l a_I (a_r a_o (pv 1) a_g (λ_ _=>rfl)) a_k (a_q _)) (a_f (a_z (a_Q (pv 0) TS.cl mBr.m GBr hr mBr.b .nil (c_t (E':=E) λ_ _ _ h=>h) (a_a (a_r a_o (pv 1) a_g (λ_ _=>rfl)) a_d))))
   (a_f (a_C (a_l a_I (a_r a_o (pv 1) a_g (λ_ _=>rfl)) a_k (a_q _)) (a_f (a_z (a_Q (pv 0) TS.cl mAl.m GAl hr mAl.b .nil (c_t (E':=E) λ_ _ _ h=>h) (a_a (a_r a_o (pv 1) a_g (λ_ _=>rfl)) a_d))))
   (a_f (a_C (a_l a_I (a_r a_o (pv 1) a_g (λ_ _=>rfl)) a_k (a_q _)) (a_f (a_z (a_Q (pv 0) TS.cl mCu.m GCu hr mCu.b .nil (c_t (E':=E) λ_ _ _ h=>h) (a_a (a_r a_o (pv 1) a_g (λ_ _=>rfl)) a_d))))
   (a_f (a_C (a_l a_I (a_r a_o (pv 1) a_g (λ_ _=>rfl)) a_k (a_q _)) (a_f (a_z (b_A (pv 0) TS.cl mBe.m GBe u mBe.b .nil a_v)))
   (a_f (a_C (a_l a_I (a_r a_o (pv 1) a_g (λ_ _=>rfl)) a_k (a_q _)) (a_f (a_z (b_A (pv 0) TS.cl mKe.m GKe v mKe.b .nil (c_t (E':=E) λ_ _ _ h=>h))))
   (a_f (a_C (a_l a_I (a_r a_o (pv 1) a_g (λ_ _=>rfl)) a_k (a_q _)) (a_f (a_z (b_A (pv 0) TS.cl mBk.m GBk y mBk.b .nil (c_t (E':=E) λ_ _ _ h=>h)))) a_p))))))))))),?_⟩
  cases d with
  | chg c=>
    cases c with
    | bring ρ=>
      obtain⟨r,h1,hρ⟩:=hd;refine⟨_,rfl,a,_,_,_,rfl,rfl,SqT.of h1,a_e (j:=0) rfl,rfl,_,rfl,a_y (λ_=> ?_) (λq=>absurd (s_C rfl) q)⟩;refine⟨_,rfl,A.o,dx,_,rfl,i,g _ (by decide+kernel) (by decide+kernel) (by decide+kernel) (by decide+kernel) (by decide+kernel) (by decide+kernel),_,rfl,a,_,_,_,rfl,rfl,SqT.of h1,a_e (j:=1) rfl,A,r,ρ,N,room,so,rfl,S,hρ,h_c p,hN,λc=>k2.t ?_, λc c2=>k2.f ?_, λc c2=> ?_⟩
      ·simp[c_z,b_j,c]
      ·simp[c_z,b_j,c,c2]
      ·have e:b_j room so.kept (.bring ρ)=(c_o so.kept ρ,("done":Str)):=by simp only[b_j];rw[if_neg (by rw[c];simp),if_neg c2]
       have k3:=k1 (by show (b_j room so.kept (.bring ρ)).2=_;rw[e]);have e2:(so.step room (.chg (.bring ρ))).1={ so with kept:=c_o so.kept ρ }:=by show ({ so with kept:=(b_j room so.kept (.bring ρ)).1 }:Sto)=_;rw[e]
       rw[e2] at k3;exact k3
    | alter ρ=>
      obtain⟨r,h1,hρ⟩:=hd;refine⟨_,rfl,a,_,_,_,rfl,rfl,SqT.of h1,a_e (j:=0) rfl,rfl,_,rfl,a_y (λq=>absurd q (by decide+kernel)) (λ_=> ?_)⟩;refine⟨_,rfl,a,_,_,_,rfl,rfl,SqT.of h1,a_e (j:=0) rfl,rfl,_,rfl,a_y (λ_=> ?_) (λq=>absurd (s_C rfl) q)⟩;refine⟨_,rfl,A.o,dx,_,rfl,i,g _ (by decide+kernel) (by decide+kernel) (by decide+kernel) (by decide+kernel) (by decide+kernel) (by decide+kernel),_,rfl,a,_,_,_,rfl,rfl,SqT.of h1,a_e (j:=1) rfl,A,r,ρ,N,room,so,rfl,S,hρ,h_c p,hN,λc=>k2.m ?_, λc=> ?_⟩
      ·simp[c_z,b_j,c]
      ·have e:b_j room so.kept (.alter ρ)=(c_o so.kept ρ,("done":Str)):=by simp only[b_j];rw[if_pos c]
       have k3:=k1 (by show (b_j room so.kept (.alter ρ)).2=_;rw[e]);have e2:(so.step room (.chg (.alter ρ))).1={ so with kept:=c_o so.kept ρ }:=by show ({ so with kept:=(b_j room so.kept (.alter ρ)).1 }:Sto)=_;rw[e]
       rw[e2] at k3;exact k3
    | cut n=>
      refine⟨_,rfl,a,_,_,_,rfl,rfl,SqT.of hd,a_e (j:=0) rfl,rfl,_,rfl,a_y (λq=>absurd q (by decide+kernel)) (λ_=> ?_)⟩;refine⟨_,rfl,a,_,_,_,rfl,rfl,SqT.of hd,a_e (j:=0) rfl,rfl,_,rfl,a_y (λq=>absurd q (by decide+kernel)) (λ_=> ?_)⟩;refine⟨_,rfl,a,_,_,_,rfl,rfl,SqT.of hd,a_e (j:=0) rfl,rfl,_,rfl,a_y (λ_=> ?_) (λq=>absurd (s_C rfl) q)⟩;refine⟨_,rfl,A.o,dx,_,rfl,i,g _ (by decide+kernel) (by decide+kernel) (by decide+kernel) (by decide+kernel) (by decide+kernel) (by decide+kernel),_,rfl,a,_,_,_,rfl,rfl,SqT.of hd,a_e (j:=1) rfl,A,n,N,room,so,rfl,S,h_c p,hN,λc=>k2.m ?_, λc=> ?_⟩
      ·simp[c_z,b_j,c]
      ·have e:b_j room so.kept (.cut n)=(a_8 so.kept n,("done":Str)):=by simp only[b_j];rw[if_pos c]
       have k3:=k1 (by show (b_j room so.kept (.cut n)).2=_;rw[e]);have e2:(so.step room (.chg (.cut n))).1={ so with kept:=a_8 so.kept n }:=by show ({ so with kept:=(b_j room so.kept (.cut n)).1 }:Sto)=_;rw[e]
       rw[e2] at k3;exact k3
  | begin=>
    refine⟨_,rfl,a,_,_,_,rfl,rfl,SqT.of hd,a_e (j:=0) rfl,rfl,_,rfl,a_y (λq=>absurd q (by decide+kernel)) (λ_=> ?_)⟩;refine⟨_,rfl,a,_,_,_,rfl,rfl,SqT.of hd,a_e (j:=0) rfl,rfl,_,rfl,a_y (λq=>absurd q (by decide+kernel)) (λ_=> ?_)⟩;refine⟨_,rfl,a,_,_,_,rfl,rfl,SqT.of hd,a_e (j:=0) rfl,rfl,_,rfl,a_y (λq=>absurd q (by decide+kernel)) (λ_=> ?_)⟩;refine⟨_,rfl,a,_,_,_,rfl,rfl,SqT.of hd,a_e (j:=0) rfl,rfl,_,rfl,a_y (λ_=> ?_) (λq=>absurd (s_C rfl) q)⟩;exact⟨_,rfl,A.o,dx,_,rfl,i,g _ (by decide+kernel) (by decide+kernel) (by decide+kernel) (by decide+kernel) (by decide+kernel) (by decide+kernel),A,N,room,so,rfl,S,hN,k1 rfl⟩
  | keep=>
    refine⟨_,rfl,a,_,_,_,rfl,rfl,SqT.of hd,a_e (j:=0) rfl,rfl,_,rfl,a_y (λq=>absurd q (by decide+kernel)) (λ_=> ?_)⟩;refine⟨_,rfl,a,_,_,_,rfl,rfl,SqT.of hd,a_e (j:=0) rfl,rfl,_,rfl,a_y (λq=>absurd q (by decide+kernel)) (λ_=> ?_)⟩;refine⟨_,rfl,a,_,_,_,rfl,rfl,SqT.of hd,a_e (j:=0) rfl,rfl,_,rfl,a_y (λq=>absurd q (by decide+kernel)) (λ_=> ?_)⟩;refine⟨_,rfl,a,_,_,_,rfl,rfl,SqT.of hd,a_e (j:=0) rfl,rfl,_,rfl,a_y (λq=>absurd q (by decide+kernel)) (λ_=> ?_)⟩;refine⟨_,rfl,a,_,_,_,rfl,rfl,SqT.of hd,a_e (j:=0) rfl,rfl,_,rfl,a_y (λ_=> ?_) (λq=>absurd (s_C rfl) q)⟩;refine⟨_,rfl,A.o,dx,_,rfl,i,g _ (by decide+kernel) (by decide+kernel) (by decide+kernel) (by decide+kernel) (by decide+kernel) (by decide+kernel),A,N,room,so,rfl,S,λc=>k2.n (by simp[c_z,c]),λk r c A' H' S' e' F' tk=> ?_⟩;have k3:=k1 (by simp[c_z,c]);have e2:(so.step room .keep).1={ so with marks:=r }:=by unfold Sto.step;rw[c]
    rw[e2] at k3;exact k3 A' H' (S'.mono (Nat.le_succ _)) e' F' tk
  | brk=>
    refine⟨_,rfl,a,_,_,_,rfl,rfl,SqT.of hd,a_e (j:=0) rfl,rfl,_,rfl,a_y (λq=>absurd q (by decide+kernel)) (λ_=> ?_)⟩;refine⟨_,rfl,a,_,_,_,rfl,rfl,SqT.of hd,a_e (j:=0) rfl,rfl,_,rfl,a_y (λq=>absurd q (by decide+kernel)) (λ_=> ?_)⟩;refine⟨_,rfl,a,_,_,_,rfl,rfl,SqT.of hd,a_e (j:=0) rfl,rfl,_,rfl,a_y (λq=>absurd q (by decide+kernel)) (λ_=> ?_)⟩;refine⟨_,rfl,a,_,_,_,rfl,rfl,SqT.of hd,a_e (j:=0) rfl,rfl,_,rfl,a_y (λq=>absurd q (by decide+kernel)) (λ_=> ?_)⟩;refine⟨_,rfl,a,_,_,_,rfl,rfl,SqT.of hd,a_e (j:=0) rfl,rfl,_,rfl,a_y (λq=>absurd q (by decide+kernel)) (λ_=> ?_)⟩;refine⟨_,rfl,a,_,_,_,rfl,rfl,SqT.of hd,a_e (j:=0) rfl,rfl,_,rfl,a_y (λ_=> ?_) (λq=>absurd (s_C rfl) q)⟩;refine⟨_,rfl,A.o,dx,_,rfl,i,g _ (by decide+kernel) (by decide+kernel) (by decide+kernel) (by decide+kernel) (by decide+kernel) (by decide+kernel),A,N,room,so,rfl,S,hN,λc=>k2.n (by simp[c_z,c]),λk r c A' H' S' e' F' tk=> ?_⟩;have k3:=k1 (by simp[c_z,c]);have e2:(so.step room .brk).1=⟨k,r⟩:=by unfold Sto.step;rw[c]
    rw[e2] at k3;exact k3 A' H' (S'.mono (Nat.le_succ _)) e' F' tk
  | _=>exact x.elim
end
end K1
namespace TO
open PySem L2
theorem h_5:∀{l m:List Int},l.Nodup->(∀x∈l,x∈m)->l.length<=m.length
 | [],m,_,_=>s_o _
 | a::r,m,h,hs=>by
   rw[s_q] at h;have ha:=hs a (r_0 ..);have:=h_5 (l:=r) (m:=m.erase a) h.2 λx hx=>(List.mem_erase_of_ne (λe:x=a=>h.1 (by rw[<-e];exact hx))).mpr (hs x (r_Z _ hx));rw[List.length_erase_of_mem ha] at this;have hp:0 < m.length:=List.length_pos_of_mem ha;simp only[r_2];omega
structure Sto.inML (sd:Int) (s:Sto):Prop where
 kept:∀x∈s.kept,x.n∈ML sd
 marks:∀k∈s.marks,∀x∈k,x.n∈ML sd
theorem c_P {sd:Int} {l:List Row} (hn:b_9 l) (h:∀x∈l,x.n∈ML sd):l.length < 64:=by
 have:=h_5 hn λn hn'=>by
  obtain⟨x,hx,e⟩:=s_r.mp hn';rw[<-e];exact h x hx
 rw[r_W,p_t] at this;omega
theorem l_u {l:List Row} {ρ x:Row} (h:x∈c_o l ρ):x=ρ\/x∈l:=by
 unfold c_o at h;split at h
 ·obtain⟨y,hy,e⟩:=s_r.mp h
  split at e
  ·exact .inl e.symm
  ·exact .inr (e ▸ hy)
 ·rcases s_e.mp h with q | q
  ·exact .inr q
  ·exact .inl (r_1.mp q)
theorem g_7 {room sd:Int} {l:List Row} {c:Chg} (hc:c.tell sd) (h:∀x∈l,x.n∈ML sd):∀x∈(b_j room l c).1,x.n∈ML sd:=by
 have put:∀ρ:Row,ρ.n∈ML sd->∀x∈c_o l ρ,x.n∈ML sd:=λρ hρ x hx=>by
  rcases l_u hx with e | e
  ·rw[e];exact hρ
  ·exact h x e
 cases c with
 | bring ρ=>simp only[b_j];(repeat' split) <;> first | exact h | exact put ρ hc
 | alter ρ=>simp only[b_j];split <;> first | exact h | exact put ρ hc
 | cut n=>
   simp only[b_j];split
   ·exact λx hx=>h x (List.mem_filter.mp hx).1
   ·exact h
theorem k_P {room sd:Int} {l0:List Row} (h0:∀x∈l0,x.n∈ML sd):∀{cs:List Chg} {i:Nat} {l:List Row},(∀c∈cs,c.tell sd)->(∀x∈l,x.n∈ML sd)->∀x∈(d_W room l0 i l cs).1,x.n∈ML sd
 | [],i,l,_,h=>h
 | c::r,i,l,hc,h=>by
   unfold d_W;dsimp only;split
   ·exact k_P h0 (λd hd=>hc d (r_Z _ hd)) (g_7 (hc c (r_0 ..)) h)
   ·exact h0
theorem j_Q {room sd:Int} {s:Sto} {d:Deed} (hd:d.tell sd) (h:s.inML sd):(s.step room d).1.inML sd:=by
 cases d with
 | chg c=>exact⟨g_7 hd h.kept,h.marks⟩
 | all cs=>exact⟨k_P h.kept hd h.kept,h.marks⟩
 | begin=>exact⟨h.kept,fun k hk=>by
    rcases r_7.mp hk with e | e
    ·rw[e];exact h.kept
    ·exact h.marks k e⟩
 | keep=>
   unfold Sto.step;cases e:s.marks with
   | nil=>exact h
   | cons a r=>exact⟨h.kept,λk hk=>h.marks k (by rw[e];exact r_Z _ hk)⟩
 | brk=>
   unfold Sto.step;cases e:s.marks with
   | nil=>exact h
   | cons a r=>exact⟨h.marks a (by rw[e];exact r_0 ..),λk hk=>h.marks k (by rw[e];exact r_Z _ hk)⟩
 | _=>exact h
end TO
namespace K1
open PySem L2 TO
inductive Ans (H:Hp) (f:List Addr):D->V->Prop
 | str (x:Str):Ans H f (.str x) (.str x)
 | int (i:Int):Ans H f (.int i) (.int i)
 | row {a:Addr} {ρ:Row}:RowAt H a ρ->Ans H f (j_i ρ) (.ref a)
 | pair {a:Addr} {i:Int} {x:Str}:H a=some (.tup [.int i,.str x])->Ans H f (.tup [.int i,.str x]) (.ref a)
 | rows {t:Addr} {l:List Row}:LstAt H t l->t∉f->Ans H f (e_j l) (.ref t)
theorem Ans.bears {H:Hp} {f:List Addr} {d:D} {v:V} (h:Ans H f d v):Bears H d v:=by
 cases h with
 | str x=>exact .str x
 | int i=>exact .int i
 | row h=>exact RowAt.bears h
 | pair h=>exact .tup h (.cons (.int _) (.cons (.str _) .nil))
 | rows h _=>exact LstAt.bears h
theorem Ans.mov {H H':Hp} {f f':List Addr} {d:D} {v:V} (h:Ans H f d v) (S:Stp H H' f f') (tk:a_M H H'):Ans H' f' d v:=by
 cases h with
 | str x=>exact .str x
 | int i=>exact .int i
 | row h=>exact .row (tk _ _ h)
 | pair h=>exact .pair (tk _ _ h)
 | rows h hn=>
   obtain⟨as,h1,h2⟩:=h;refine .rows ⟨as,S.keep _ _ h1 hn,h2.same tk⟩ λhc=> ?_;rcases S.new _ hc with q | q
   ·exact hn q
   ·rw[h1] at q;cases q
def NewA (H H':Hp) (v:V):Prop:=∀t xs,v= .ref t->H' t=some (.lst xs)->H t=none
theorem NewA.str {H H':Hp} (x:Str):NewA H H' (.str x):=λt xs e=>by cases e
theorem NewA.tup {H H':Hp} {a:Addr} {ys:List V} (h:H' a=some (.tup ys)):NewA H H' (.ref a):=λt xs e z=>by
 cases e;rw[h] at z;cases z
abbrev q_x (CS CO:Addr) (H:Hp) (A:Ads) (N:Nat) (room:Int) (Q:VK) (r:Sto×D):Prop:=∀(v:V) (A':Ads) (H':Hp),SAt CS CO H' A' N room r.1->A'.o=A.o->Stp H H' A.fp A'.fp->a_M H H'->Ans H' A'.fp r.2 v->NewA H H' v->Q v H'
section
variable {P:Program} {w:World} {K:PySem.W.Frag} {mg:Str->Option Value} {base:Heap}
def m_k (CS CO CNo CM:Addr):Sp:=λvs H Q E=>∃(A:Ads) (a:Addr) (d:Deed) (N:Nat) (room sd:Int) (s:Sto),vs= [.ref A.o,.ref a]/\SAt CS CO H A N room s/\DeedAt H a d/\d.asks/\d.form/\d.tell sd/\N<=8000/\s.kept.length < 64/\
 (∀v H',Same H H'->Ans H' A.fp (b_V s.kept d) v->NewA H H' v->Q v H')/\(b_V s.kept d= .str "missing"->E (.ref CM) none H)/\(b_V s.kept d= .str "no order"->∀H',Same H H'->E (.ref CNo) none H')
theorem p_M:a_s ["store","deed"] ["store","deed"] (a_m q_B):=⟨rfl,rfl,rfl,by decide+kernel,rfl,by decide+kernel,by decide+kernel⟩
theorem h_B {x:Str} (h:c_s x) (hn:c_f x=none):(PySem.reprText x).length<=1000:=by
 rcases h with e | e | e
 ·rw[e] at hn;cases hn
 ·rw[e] at hn;cases hn
 ·rw[e];decide+kernel
theorem n_f {f fR fW fT fF fS CS CO CNo CM:Addr} {fd fdR fdW fdT fdF fdS:FuncData} (F:Fun K "answer_to_question" "answer_to_question" q_B f fd) (TS:e_8 K mg CS CO)
 (mR:Mf K CS "row_of" fR fdR ["self","number"]) (GR:FnOk P w K mg base (CXR P w) 1 fR fdR ["self","number"] (e_S CS CO CM)) (gW:Gf K mg "rows_within" fW fdW ["store","word","low","high"]) (GW:FnOk P w K mg base (CXR P w) 5 fW fdW ["store","word","low","high"] (h_U CS CO CNo))
 (gT:Gf K mg "rows_of_text" fT fdT ["store","low","high","text"]) (GT:FnOk P w K mg base CX0 5 fT fdT ["store","low","high","text"] (m_J CS CO)) (gF:Gf K mg "rows_from" fF fdF ["store","word","spot","many"]) (GF:FnOk P w K mg base (CXR P w) 3 fF fdF ["store","word","spot","many"] (m_H CS CO CNo))
 (gS:Gf K mg "spot_of" fS fdS ["store","word","number"]) (GS:FnOk P w K mg base (CXR P w) 5 fS fdS ["store","word","number"] (m_l CS CO CNo CM)):FnOk P w K mg base (CXR P w) 6 f fd ["store","deed"] (m_k CS CO CNo CM):=by
 refine F.okX p_M (λvs H Q E h=> ?_) (λcdv A outer s H vs Q E hr h=> ?_)
 ·obtain⟨A,a,d,N,room,sd,s,rfl,_⟩:=h
  rfl
 ·obtain⟨A,a,d,N,room,sd,so,rfl,S,hd,has,hf,p,hN,B,k1,k2,k3⟩:=h
  obtain⟨l,st,ms,C,hs,hp,h1,h2⟩:=S.ex;have v:Room 3 _:=hr.mono (by decide);have y:Room 1 _:=hr.mono (by decide);have hn:=hs.nums;have G:l.length=so.kept.length:=hp.length_eq
  have fpin:∀b∈A.fp,∃u,H b=some u:=λb hb=>by
   simp only[Ads.fp,r_7] at hb;rcases hb with e | e | e
   ·rw[e];exact⟨_,C.ob⟩
   ·obtain⟨rs,q,_⟩:=C.nb;rw[e];exact⟨_,q⟩
   ·obtain⟨xs,q⟩:=C.list b e;exact⟨_,q⟩
  have free:∀t,H t=none->t∉A.fp:=λt ht hc=>by obtain⟨u,q⟩:=fpin t hc;rw[ht] at q;cases q
  refine⟨_,a_c (a_C (a_l a_I (a_r a_o (pv 1) a_g (λ_ _=>rfl)) a_k (a_q _)) (a_f (a_n (a_Q (pv 0) TS.cl mR.m GR y mR.b .nil (c_t (E':=E) λ_ _ _ h=>h) (a_a (a_r a_o (pv 1) a_g (λ_ _=>rfl)) a_d)))) a_p)
   (a_c (a_C (a_l a_I (a_r a_o (pv 1) a_g (λ_ _=>rfl)) a_k (a_q _)) (a_f (a_n (a_j GW hr rfl gW.mg gW.kp gW.b .nil (c_t (E':=E) λ_ _ _ h=>h) (a_a (pv 0) (a_a (a_r a_o (pv 1) a_g (λ_ _=>rfl)) (a_a (a_r a_o (pv 1) a_g (λ_ _=>rfl)) (a_a (a_r a_o (pv 1) a_g (λ_ _=>rfl)) a_d))))))) a_p)
   (a_c (a_C (a_l a_I (a_r a_o (pv 1) a_g (λ_ _=>rfl)) a_k (a_q _)) (a_f (a_n (a_j GT hr rfl gT.mg gT.kp gT.b .nil a_v (a_a (pv 0) (a_a (a_r a_o (pv 1) a_g (λ_ _=>rfl)) (a_a (a_r a_o (pv 1) a_g (λ_ _=>rfl)) (a_a (a_r a_o (pv 1) a_g (λ_ _=>rfl)) a_d))))))) a_p)
   (a_c (a_C (a_l a_I (a_r a_o (pv 1) a_g (λ_ _=>rfl)) a_k (a_q _)) (a_f (a_n (a_j GF v rfl gF.mg gF.kp gF.b .nil (c_t (E':=E) λ_ _ _ h=>h) (a_a (pv 0) (a_a (a_r a_o (pv 1) a_g (λ_ _=>rfl)) (a_a (a_r a_o (pv 1) a_g (λ_ _=>rfl)) (a_a (a_r a_o (pv 1) a_g (λ_ _=>rfl)) a_d))))))) a_p)
   (a_f (a_n (a_j GS hr rfl gS.mg gS.kp gS.b .nil (c_t (E':=E) λ_ _ _ h=>h) (a_a (pv 0) (a_a (a_r a_o (pv 1) a_g (λ_ _=>rfl)) (a_a (a_r a_o (pv 1) a_g (λ_ _=>rfl)) a_d))))))))),?_⟩
  rw[<-k_J hn hp] at k1 k2 k3;have tell:∀{t:Addr} {m:List Row} {H':Hp},H t=none->Same H H'->LstAt H' t m->b_V l d=e_j m->Q (.ref t) H':=λ{t m H'} ht s' hL e=>k1 (.ref t) H' s' (by rw[e];exact .rows hL (free t ht)) λt' xs e' _=>by cases e';exact ht
  cases d with
  | row n=>
    refine⟨_,rfl,a,_,_,_,rfl,rfl,SqT.of hd,a_e (j:=0) rfl,rfl,_,rfl,a_y (λ_=> ?_) (λq=>absurd (s_C rfl) q)⟩;refine⟨_,rfl,A.o,A.dx,_,rfl,C.ob,d_H (by decide+kernel) (by decide+kernel) (by decide+kernel) (by decide+kernel) (by decide+kernel) (by decide+kernel),_,rfl,a,_,_,_,rfl,rfl,SqT.of hd,a_e (j:=1) rfl,A,n,room,l,st,ms,rfl,C,p,λc r ρ g hρ=> ?_, λc=>k2 ?_⟩
    ·refine k1 (.ref r) H (Same.refl H) ?_ (NewA.tup hρ)
     simp only[b_V,g];exact .row hρ
    ·simp only[b_V,b_P c]
  | within x lo hi=>
    refine⟨_,rfl,a,_,_,_,rfl,rfl,SqT.of hd,a_e (j:=0) rfl,rfl,_,rfl,a_y (λq=>absurd q (by decide+kernel)) (λ_=> ?_)⟩;refine⟨_,rfl,a,_,_,_,rfl,rfl,SqT.of hd,a_e (j:=0) rfl,rfl,_,rfl,a_y (λ_=> ?_) (λq=>absurd (s_C rfl) q)⟩;refine⟨_,rfl,_,rfl,a,_,_,_,rfl,rfl,SqT.of hd,a_e (j:=1) rfl,_,rfl,a,_,_,_,rfl,rfl,SqT.of hd,a_e (j:=2) rfl,_,rfl,a,_,_,_,rfl,rfl,SqT.of hd,a_e (j:=3) rfl,A,x,lo,hi,room,l,st,ms,rfl,C,hn,by omega,λw hw=>⟨λρ=> ?_, λρ=> ?_, λt H' ht s' hL=>tell ht s' hL ?_⟩,λhw=>⟨h_B hf.2 hw,k3 ?_⟩⟩
    ·have he:=hf.1
     unfold b_w at he;unfold c_f at hw;split at hw
     ·rename_i e
      cases hw;rw[e,if_neg (λz=>g_l z.symm)] at he;obtain⟨i,j,rfl,rfl⟩:=he;rfl
     ·split at hw
      ·rename_i e
       cases hw;rw[if_pos e] at he;obtain⟨i,j,rfl,rfl⟩:=he;rfl
      ·cases hw
    ·have he:=hf.1
     unfold b_w at he;unfold c_f at hw;split at hw
     ·rename_i e
      cases hw;rw[e,if_neg (λz=>g_l z.symm)] at he;obtain⟨i,j,rfl,rfl⟩:=he;rfl
     ·split at hw
      ·rename_i e
       cases hw;rw[if_pos e] at he;obtain⟨i,j,rfl,rfl⟩:=he;rfl
      ·cases hw
    ·simp only[b_V,hw]
    ·simp only[b_V,hw]
  | both lo hi t0=>
    refine⟨_,rfl,a,_,_,_,rfl,rfl,SqT.of hd,a_e (j:=0) rfl,rfl,_,rfl,a_y (λq=>absurd q (by decide+kernel)) (λ_=> ?_)⟩;refine⟨_,rfl,a,_,_,_,rfl,rfl,SqT.of hd,a_e (j:=0) rfl,rfl,_,rfl,a_y (λq=>absurd q (by decide+kernel)) (λ_=> ?_)⟩;refine⟨_,rfl,a,_,_,_,rfl,rfl,SqT.of hd,a_e (j:=0) rfl,rfl,_,rfl,a_y (λ_=> ?_) (λq=>absurd (s_C rfl) q)⟩;exact⟨_,rfl,_,rfl,a,_,_,_,rfl,rfl,SqT.of hd,a_e (j:=1) rfl,_,rfl,a,_,_,_,rfl,rfl,SqT.of hd,a_e (j:=2) rfl,_,rfl,a,_,_,_,rfl,rfl,SqT.of hd,a_e (j:=3) rfl,A,lo,hi,t0,room,l,st,ms,rfl,C,hn,by omega,λt H' ht s' hL=>tell ht s' hL rfl⟩
  | «from» x k m=>
    refine⟨_,rfl,a,_,_,_,rfl,rfl,SqT.of hd,a_e (j:=0) rfl,rfl,_,rfl,a_y (λq=>absurd q (by decide+kernel)) (λ_=> ?_)⟩;refine⟨_,rfl,a,_,_,_,rfl,rfl,SqT.of hd,a_e (j:=0) rfl,rfl,_,rfl,a_y (λq=>absurd q (by decide+kernel)) (λ_=> ?_)⟩;refine⟨_,rfl,a,_,_,_,rfl,rfl,SqT.of hd,a_e (j:=0) rfl,rfl,_,rfl,a_y (λq=>absurd q (by decide+kernel)) (λ_=> ?_)⟩;refine⟨_,rfl,a,_,_,_,rfl,rfl,SqT.of hd,a_e (j:=0) rfl,rfl,_,rfl,a_y (λ_=> ?_) (λq=>absurd (s_C rfl) q)⟩;refine⟨_,rfl,_,rfl,a,_,_,_,rfl,rfl,SqT.of hd,a_e (j:=1) rfl,_,rfl,a,_,_,_,rfl,rfl,SqT.of hd,a_e (j:=2) rfl,_,rfl,a,_,_,_,rfl,rfl,SqT.of hd,a_e (j:=3) rfl,A,x,k,m,room,l,st,ms,rfl,C,hn,by omega,λw hw t H' ht s' hL=>tell ht s' hL ?_, λhw=>⟨h_B hf.1 hw,k3 ?_⟩⟩
    ·simp only[b_V,hw,e_H]
    ·simp only[b_V,hw]
  | spot x n=>
    refine⟨_,rfl,a,_,_,_,rfl,rfl,SqT.of hd,a_e (j:=0) rfl,rfl,_,rfl,a_y (λq=>absurd q (by decide+kernel)) (λ_=> ?_)⟩;refine⟨_,rfl,a,_,_,_,rfl,rfl,SqT.of hd,a_e (j:=0) rfl,rfl,_,rfl,a_y (λq=>absurd q (by decide+kernel)) (λ_=> ?_)⟩;refine⟨_,rfl,a,_,_,_,rfl,rfl,SqT.of hd,a_e (j:=0) rfl,rfl,_,rfl,a_y (λq=>absurd q (by decide+kernel)) (λ_=> ?_)⟩;refine⟨_,rfl,a,_,_,_,rfl,rfl,SqT.of hd,a_e (j:=0) rfl,rfl,_,rfl,a_y (λq=>absurd q (by decide+kernel)) (λ_=> ?_)⟩;refine⟨_,rfl,_,rfl,a,_,_,_,rfl,rfl,SqT.of hd,a_e (j:=1) rfl,_,rfl,a,_,_,_,rfl,rfl,SqT.of hd,a_e (j:=2) rfl,A,x,n,room,l,st,ms,rfl,C,hn,by omega,p,λw hw=>⟨λc=>k2 ?_, λρ g H' s'=>k1 _ H' s' ?_ λt xs e=>by cases e⟩,λhw=>⟨h_B hf hw,k3 ?_⟩⟩
    ·simp only[b_V,hw,b_P c]
    ·simp only[b_V,hw,g]
     exact .int _
    ·simp only[b_V,hw]
  | _=>exact has.elim
end
theorem o_I {X:Cx} (K:PySem.W.Frag) (hK:X.K=K:=by rfl):OpR X (compareOp .In) (rIn K false):=by subst hK;exact d_d
structure p_2 (K:PySem.W.Frag) (mg:Str->Option Value):Prop where
 done:∃t,mg "DONE"=some (.str "done" t)
 qs:∃a,mg "QUESTIONS"=some (.ref a)/\∀H:Hp,SqT K H a [V.str "row",V.str "within",V.str "both",V.str "from",V.str "spot"]
 len:mg "len"=none
 range:mg "range"=none
theorem SAt.ob {CS CO:Addr} {H:Hp} {A:Ads} {N:Nat} {room:Int} {s:Sto} (S:SAt CS CO H A N room s):∃fl dx,H A.o=some (.ins CS dx fl)/\∀m:Str,¬ m="room"->¬ m="by_number"->¬ m="by_rank"->¬ m="by_text"->¬ m="steps"->¬ m="marks"->fl.lookup m=none:=by
 obtain⟨l,st,ms,C,_⟩:=S.ex;exact⟨_,_,C.ob,λm a b c d e f=>d_H a b c d e f⟩
theorem SAt.fpin {CS CO:Addr} {H:Hp} {A:Ads} {N:Nat} {room:Int} {s:Sto} (S:SAt CS CO H A N room s):∀b∈A.fp,∃u,H b=some u/\∀xs,u≠ .tup xs:=λb hb=>by
 obtain⟨l,st,ms,C,_⟩:=S.ex;simp only[Ads.fp,r_7] at hb;rcases hb with e | e | e
 ·rw[e];exact⟨_,C.ob,λxs z=>by cases z⟩
 ·obtain⟨rs,q,_⟩:=C.nb;rw[e];exact⟨_,q,λxs z=>by cases z⟩
 ·obtain⟨xs,q⟩:=C.list b e;exact⟨_,q,λxs z=>by cases z⟩
theorem j_Y {H H':Hp} (s:Same H H'):a_M H H':=λb xs q=>s _ _ q
section
variable {P:Program} {w:World} {K:PySem.W.Frag} {mg:Str->Option Value} {base:Heap}
def o_k (CS CO:Addr):Sp:=λvs H Q _=>∃(A:Ads) (a:Addr) (d:Deed) (N:Nat) (room sd:Int) (s:Sto),vs= [.ref A.o,.ref a]/\SAt CS CO H A N room s/\DeedAt H a d/\(d.plain\/d.asks)/\d.form/\d.tell sd/\N<=8000/\s.inML sd/\q_x CS CO H A (N+1) room Q (s.step room d)
theorem q_S:a_s ["store","deed"] ["store","deed"] (a_m q_A):=⟨rfl,rfl,rfl,by decide+kernel,rfl,by decide+kernel,by decide+kernel⟩
theorem p_q {f fA fD CS CO CT CF CM CN CNo:Addr} {fd fdA fdD:FuncData} (F:Fun K "answer_of_one" "answer_of_one" q_A f fd) (TD:p_2 K mg) (ex:o_6 K mg CT CF CM CN) (eO:Exc K mg "NoOrder" CNo) (xm:o_M K CT CM CF CN CNo)
 (gA:Gf K mg "answer_to_question" fA fdA ["store","deed"]) (GA:FnOk P w K mg base (CXR P w) 6 fA fdA ["store","deed"] (m_k CS CO CNo CM)) (gD:Gf K mg "do_change" fD fdD ["store","deed"]) (GD:FnOk P w K mg base (CXR P w) 8 fD fdD ["store","deed"] (q_4 CS CO CT CF CM CN)):
 FnOk P w K mg base CX0 9 f fd ["store","deed"] (o_k CS CO):=by
 refine F.ok q_S (λvs H Q E h=> ?_) (λcdv A outer s H vs Q E hr h=> ?_)
 ·obtain⟨A,a,d,N,room,sd,s,rfl,_⟩:=h
  rfl
 ·obtain⟨A,a,d,N,room,sd,so,rfl,S,hd,B,hf,o,hN,q,fin⟩:=h
  obtain⟨t0,l⟩:=TD.done;obtain⟨aq,hq,hQ⟩:=TD.qs;have z:Room 6 _:=hr.mono (by decide)
  refine⟨_,a_f (p_w (.cons rfl ex.t.at_ (by decide) (λe=>a_f (a_n a_k)) (.cons rfl ex.m.at_ (by decide) (λe=>a_f (a_n a_k)) (.cons rfl ex.f.at_ (by decide) (λe=>a_f (a_n a_k)) (.cons rfl ex.n.at_ (by decide) (λe=>a_f (a_n a_k)) (.cons rfl eO.at_ (by decide) (λe=>a_f (a_n a_k)) .nil)))))
   λpn xe E hx=>a_c (a_C (a_l (o_I K) (a_r (b_f K) (pv 1) a_g (λ_ _=>rfl)) (h_E (v:= .ref aq) rfl hq rfl) (by with_unfolding_all rfl)) (a_f (a_n (a_j GA z rfl gA.mg gA.kp gA.b .nil hx (a_a (pv 0) (a_a (pv 1) a_d))))) a_p)
    (a_c (a_z (a_j GD hr rfl gD.mg gD.kp gD.b .nil hx (a_a (pv 0) (a_a (pv 1) a_d)))) (a_f (a_n (d_U l))))),?_⟩
  have same0:∀H',Same H H'->∀(x:Str),(so.step room d).2= .str x->(so.step room d).1=so->Q (.str x) H':=λH' s' x e1 e2=>by
   refine fin (.str x) A H' ?_ rfl (Stp.of_same s') (j_Y s') ?_ (NewA.str x)
   ·rw[e2];exact (S.same s').mono (Nat.le_succ _)
   ·rw[e1];exact .str x
  rcases B with g | has
  ·have hw:∃x r,H a=some (.tup (.str x::r))∧inV (.str x) [V.str "row",V.str "within",V.str "both",V.str "from",V.str "spot"]=false:=by
    cases d with
    | chg c=>
      cases c with
      | bring ρ=>obtain⟨r,h1,h2⟩:=id hd;exact⟨"bring",_,h1,by decide+kernel⟩
      | alter ρ=>obtain⟨r,h1,h2⟩:=id hd;exact⟨"alter",_,h1,by decide+kernel⟩
      | cut n=>exact⟨"cut",_,hd,by decide+kernel⟩
    | begin=>exact⟨"begin",_,hd,by decide+kernel⟩
    | keep=>exact⟨"keep",_,hd,by decide+kernel⟩
    | brk=>exact⟨"break",_,hd,by decide+kernel⟩
    | _=>exact g.elim
   obtain⟨x,r,hw,i⟩:=hw;refine⟨_,rfl,a,_,_,_,rfl,rfl,SqT.of hw,a_e (j:=0) rfl,aq,_,rfl,.inr (hQ H),rfl,by decide+kernel,_,rfl,?_⟩;rw[if_neg s_d,i];refine i_0 ?_;refine⟨_,rfl,_,rfl,A,a,d,N,room,sd,so,rfl,S,hd,g,o,hN,λu A' H' S' e' F' tk=> ?_, ?_⟩
   ·refine fin (.str "done") A' H' S' e' F' tk ?_ (NewA.str _)
    rw[g_j g,u];exact .str _
   ·have go:∀y:Str,c_z room so d=y->¬ y="done"->Q (.str y) H:=λy e hy=>same0 H (Same.refl H) y (by rw[g_j g,e]) (k_9 g (by rw[e];exact hy))
    refine⟨λe=> ?_, λe=> ?_, λe=> ?_, λe=> ?_⟩
    ·exact .inl ⟨xm.tt,go _ e (by decide+kernel)⟩
    ·exact .inr ⟨xm.ft,.inr ⟨xm.fm,.inl ⟨xm.ff,go _ e (by decide+kernel)⟩⟩⟩
    ·exact .inr ⟨xm.mt,.inl ⟨xm.mm,go _ e (by decide+kernel)⟩⟩
    ·exact .inr ⟨xm.nt,.inr ⟨xm.nm,.inr ⟨xm.nf,.inl ⟨xm.nn,go _ e (by decide+kernel)⟩⟩⟩⟩
  ·have hw:∃x r,H a=some (.tup (.str x::r))∧inV (.str x) [V.str "row",V.str "within",V.str "both",V.str "from",V.str "spot"]=true:=by
    cases d with
    | row n=>exact⟨"row",_,hd,by decide+kernel⟩
    | within x lo hi=>exact⟨"within",_,hd,by decide+kernel⟩
    | both lo hi t=>exact⟨"both",_,hd,by decide+kernel⟩
    | «from» x k m=>exact⟨"from",_,hd,by decide+kernel⟩
    | spot x n=>exact⟨"spot",_,hd,by decide+kernel⟩
    | _=>exact has.elim
   obtain⟨x,r,hw,i⟩:=hw;rw[l_W has] at fin same0;refine⟨_,rfl,a,_,_,_,rfl,rfl,SqT.of hw,a_e (j:=0) rfl,aq,_,rfl,.inr (hQ H),rfl,by decide+kernel,_,rfl,?_⟩;rw[if_neg s_d,i];refine k_X ?_;refine⟨_,rfl,_,rfl,A,a,d,N,room,sd,so,rfl,S,hd,has,hf,o,hN,c_P S.nums q.kept,λv H' s' hA p=> ?_, λe=> ?_, λe H' s'=> ?_⟩
   ·exact fin v A H' ((S.same s').mono (Nat.le_succ _)) rfl (Stp.of_same s') (j_Y s') hA p
   ·exact .inr ⟨xm.mt,.inl ⟨xm.mm,same0 H (Same.refl H) _ e rfl⟩⟩
   ·exact .inr ⟨xm.ot,.inr ⟨xm.om,.inr ⟨xm.of,.inr ⟨xm.on,.inl ⟨xm.oo,same0 H' s' _ e rfl⟩⟩⟩⟩⟩
def m_x (CS CO:Addr):Sp:=λvs H Q _=>∃(A:Ads) (la:Addr) (as:List Addr) (cs:List Chg) (N:Nat) (room sd:Int) (s:Sto),vs= [.ref A.o,.ref la]/\SAt CS CO H A N room s/\H la=some (.lst (as.map V.ref))/\Paired (ChgAt H) as cs/\la∉A.fp/\(∀c∈cs,c.tell sd)/\N+cs.length<=7000/\s.inML sd/\
 q_x CS CO H A (N+cs.length+1) room Q (s.step room (.all cs))
theorem j_L:a_s ["store","changes","place","answer"] ["store","changes"] (a_m q_0):=⟨rfl,rfl,rfl,by decide+kernel,rfl,by decide+kernel,by decide+kernel⟩
theorem m_L {f fO fBe fKe fBk CS CO CN:Addr} {fd fdO fdBe fdKe fdBk:FuncData} (F:Fun K "all_or_none" "all_or_none" q_0 f fd) (TS:e_8 K mg CS CO) (TD:p_2 K mg) (gO:Gf K mg "answer_of_one" fO fdO ["store","deed"]) (GO:FnOk P w K mg base CX0 9 fO fdO ["store","deed"] (o_k CS CO))
 (mBe:Mf K CS "begin" fBe fdBe ["self"]) (GBe:FnOk P w K mg base CX0 1 fBe fdBe ["self"] (h_o CS CO)) (mKe:Mf K CS "keep" fKe fdKe ["self"]) (GKe:FnOk P w K mg base (CXR P w) 2 fKe fdKe ["self"] (j_v CS CO CN)) (mBk:Mf K CS "break_off" fBk fdBk ["self"]) (GBk:FnOk P w K mg base (CXR P w) 6 fBk fdBk ["self"] (g_X CS CO CN)):
 FnOk P w K mg base CX0 10 f fd ["store","changes"] (m_x CS CO):=by
 refine F.ok j_L (λvs H Q E h=> ?_) (λcdv A outer s H vs Q E hr h=> ?_)
 ·obtain⟨A,la,as,cs,N,room,sd,s,rfl,_⟩:=h
  rfl
 ·obtain⟨A,la,as,cs,N,room,sd,so,rfl,S,a5,hC,a1,U,hN,l,fin⟩:=h
  obtain⟨t0,d⟩:=TD.done;have a2:Room 6 _:=hr.mono (by decide);have T:Room 2 _:=hr.mono (by decide);have R:Room 1 _:=hr.mono (by decide)
  refine⟨_,a_c (a_z (b_A (pv 0) TS.cl mBe.m GBe R mBe.b .nil a_v))
   (a_c (b_0 PassesOwn.never rfl (c_d rfl TD.range (a_a (a_t a_x (by rfl) TD.len s_F (a_a (pv 1) a_d)) a_d)) (a_9 (i:=2) j_L.nd rfl (Or.inl rfl))
     (a_c (a_w (i:=3) j_L.nd rfl (Or.inl rfl) (a_j GO hr rfl gO.mg gO.kp gO.b .nil a_v (a_a (pv 0) (a_a (a_r a_P (pv 1) (pv 2) (λ_ _=>rfl)) a_d))))
     (a_f (a_C (a_l d_e (pv 3) (d_U d) (a_q _)) (a_c (a_z (b_A (pv 0) TS.cl mBk.m GBk a2 mBk.b .nil m_j)) (a_f (a_n (a_G (a_a (pv 2) (a_a (pv 3) a_d)))))) a_p))))
   (a_c (a_z (b_A (pv 0) TS.cl mKe.m GKe T mKe.b .nil m_j)) (a_f (a_n (d_U d))))),?_⟩
  obtain⟨fl,dx,a0,O⟩:=S.ob;refine⟨_,rfl,A.o,dx,_,rfl,a0,O _ (by decide+kernel) (by decide+kernel) (by decide+kernel) (by decide+kernel) (by decide+kernel) (by decide+kernel),A,N,room,so,rfl,S,by omega,λA0 H0 S0 e0 F0 W=> ?_⟩;have a9:=Paired.length hC;have G:∀{A1:Ads} {H1:Hp},Stp H H1 A.fp A1.fp->H1 la=some (.lst (as.map V.ref)):=λF1=>F1.keep _ _ a5 a1;have hn:((((as.map V.ref).length:Nat):Int)).toNat=cs.length:=by rw[r_W];omega
  refine⟨_,rfl,la,_,rfl,.inl (SqL.of (G F0)),_,rfl,by omega,by rw[r_W];omega,c_k (lo:=0) (n:=((((as.map V.ref).length:Nat):Int)).toNat) (λi σ H1=>∃(A1:Ads) (l1:List Row) (v2 v3:Option V),σ= [some (.ref A.o),some (.ref la),v2,v3]/\SAt CS CO H1 A1 (N+1+i) room ⟨l1,so.kept::so.marks⟩/\A1.o=A.o/\Stp H H1 A.fp A1.fp/\a_M H H1/\d_W room so.kept i l1 (cs.drop i)=d_W room so.kept 0 so.kept cs/\∀x∈l1,x.n∈ML sd)
   ⟨A0,so.kept,none,none,rfl,S0,e0,F0,W,rfl,l.kept⟩ ?_ ?_⟩
  ·rintro i σ H1 hi ⟨A1,l1,v2,v3,rfl,S1,e1,F1,g,hA,B⟩
   rw[hn] at hi;obtain⟨c,hc⟩:∃c,cs[i]? =some c:=⟨_,r_X hi⟩;obtain⟨a,ea,a3⟩:=a_T hC hc;have ga:(as.map V.ref)[i]? =some (V.ref a):=by rw[r_8,ea];rfl
   have gi:atI (as.map V.ref) (0+(i:Int))=some (V.ref a):=by rw[Int.zero_add];exact a_e ga
   have I:=U c (s_m hc);refine⟨_,rfl,_,rfl,_,rfl,la,_,_,_,rfl,rfl,SqL.of (G F1),gi,A1,a,.chg c,N+1+i,room,sd,⟨l1,so.kept::so.marks⟩,by rw[e1];rfl,S1,a3.mono g,.inl trivial,trivial,I,by omega,⟨B,λk hk=> ?_⟩,λv A2 H2 S2 e2 F2 Y a4 a6=> ?_⟩
   ·rcases r_7.mp hk with e | e
    ·rw[e];exact l.kept
    ·exact l.marks k e
   have ed:cs.drop i=c::cs.drop (i+1):=by
    rw[List.drop_eq_getElem_cons hi,(s_a.mp hc).2]
   rw[ed] at hA;have ev:v= .str (b_j room l1 c).2:=by cases a4;rfl
   subst ev;have J:=F1.trans F2;have y:a_M H H2:=λb xs e=>Y _ _ (g _ _ e);refine⟨_,rfl,rfl,_,rfl,a_y (λq=> ?_) (λq=> ?_)⟩
   ·have hq:¬ (b_j room l1 c).2="done":=λe=>by rw[e] at q;exact absurd q (by decide+kernel)
    obtain⟨a8,X,C,L⟩:=S2.ob;have p:A2.o=A.o:=e2.trans e1;rw[p] at C;refine⟨_,rfl,A.o,X,_,rfl,C,L _ (by decide+kernel) (by decide+kernel) (by decide+kernel) (by decide+kernel) (by decide+kernel) (by decide+kernel),A2,N+1+i+1,room,_,by rw[p];rfl,S2,by omega,λz=>(by cases z),λk r ek A3 H3 S3 e3 F3 u=> ?_⟩;cases ek;refine⟨_,rfl,_,rfl,by show 2<=sizeLine;decide,λt ht=> ?_⟩;have s4:=Same.upd_new (o:= .tup [V.int (0+(i:Int)),V.str (b_j room l1 c).2]) ht
    have eA:so.step room (.all cs)=(so,D.tup [.int (i:Int),.str (b_j room l1 c).2]):=by
     show (({ so with kept:=(d_W room so.kept 0 so.kept cs).1 }:Sto),(d_W room so.kept 0 so.kept cs).2)=_;rw[<-hA];simp only[d_W,if_neg hq]
    rw[eA] at fin;refine fin (.ref t) A3 _ ((S3.same s4).mono (by omega)) (e3.trans p) ((J.trans F3).trans (Stp.of_same s4)) (λb xs e=>s4 _ _ (u _ _ (y _ _ e))) (.pair (by rw[Int.zero_add];exact a_b)) (NewA.tup a_b)
   ·have hq:(b_j room l1 c).2="done":=by
     cases e:decide ((b_j room l1 c).2=("done":Str)) with
     | true=>exact s_E e
     | false=>
       exfalso;apply q;have:¬ V.str (b_j room l1 c).2=V.str "done":=λz=>(of_decide_eq_false e) (by injection z);rw[s_D this];rfl
    refine⟨A2,(b_j room l1 c).1,_,_,rfl,S2,e2.trans e1,J,y,?_, g_7 I B⟩;rw[<-hA];simp only[d_W,if_pos hq]
  ·rintro σ H1 ⟨A1,l1,v2,v3,rfl,S1,e1,F1,g,hA,B⟩
   rw[hn,List.drop_of_length_le (r_5 _)] at hA;rw[hn] at S1;obtain⟨a7,Z,j,M⟩:=S1.ob;rw[e1] at j;refine⟨_,rfl,A.o,Z,_,rfl,j,M _ (by decide+kernel) (by decide+kernel) (by decide+kernel) (by decide+kernel) (by decide+kernel) (by decide+kernel),A1,_,room,_,by rw[e1];rfl,S1,λz=>(by cases z),λk r ek A3 H3 S3 e3 F3 u=> ?_⟩;cases ek
   have eA:so.step room (.all cs)=(⟨l1,so.marks⟩,D.str "done"):=by
    show (({ so with kept:=(d_W room so.kept 0 so.kept cs).1 }:Sto),(d_W room so.kept 0 so.kept cs).2)=_;rw[<-hA];rfl
   rw[eA] at fin;exact fin (.str "done") A3 H3 (S3.mono (by omega)) (e3.trans e1) (F1.trans F3) (λb xs e=>u _ _ (g _ _ e)) (.str _) (NewA.str _)
end
end K1
namespace TO
open PySem L2
def Deed.wsz:Deed->Nat
 | .all cs=>cs.length
 | _=>0
def tot (ds:List Deed):Nat:=(ds.map λd=>d.wsz+1).sum
theorem h_2 (ds:List Deed) (d:Deed):tot (ds++ [d])=tot ds+(d.wsz+1):=by simp[tot]
theorem k_8 (ds:List Deed) (i:Nat):tot (ds.take i)<=tot ds:=by
 have e:tot ds=tot (ds.take i)+tot (ds.drop i):=by
  unfold tot;rw[<-List.sum_append,<-r_4,s_z]
 omega
theorem c_L (room:Int):∀(ds:List Deed) (s:Sto) (d:Deed),s.run room (ds++ [d])=(((s.run room ds).1.step room d).1,(s.run room ds).2++ [((s.run room ds).1.step room d).2])
 | [],s,d=>rfl
 | e::r,s,d=>by
   show (((s.step room e).1.run room (r++ [d])).1,(s.step room e).2::((s.step room e).1.run room (r++ [d])).2)=_;rw[c_L room r];rfl
theorem g_r {room sd:Int}:∀{ds:List Deed} {s:Sto},(∀d∈ds,d.tell sd)->s.inML sd->(s.run room ds).1.inML sd
 | [],s,_,h=>h
 | d::r,s,hd,h=>g_r (ds:=r) (λe he=>hd e (r_Z _ he)) (j_Q (hd d (r_0 ..)) h)
end TO
namespace K1
open PySem L2 TO
theorem SAt.mvd {CS CO:Addr} {H H':Hp} {A:Ads} {N:Nat} {room:Int} {s:Sto} (h:SAt CS CO H A N room s) {f:List Addr} (m:Mvd H H' f) (hf:∀b∈f,b∉A.fp):SAt CS CO H' A N room s:=by
 obtain⟨l,st,ms,a,r⟩:=h.ex;exact⟨l,st,ms,a.mvd m hf,r⟩
theorem k_r {H:Hp} {a:Addr} {d:Deed} (h:DeedAt H a d) {la:Addr} (e:H a=some (.tup [.str "all",.ref la])):∃cs as,d= .all cs/\H la=some (.lst (as.map V.ref))/\Paired (ChgAt H) as cs:=by
 have aux:∀{x:Str} {r:List V},H a=some (.tup (.str x::r))->¬ x="all"->False:=λe1 hx=>by
  rw[e1] at e;injection e with e
  injection e with e
  injection e with e _
  injection e with e
  exact hx e
 cases d with
 | chg c=>
   exfalso;cases c with
   | bring ρ=>obtain⟨r,h1,_⟩:=h;exact aux h1 (by decide+kernel)
   | alter ρ=>obtain⟨r,h1,_⟩:=h;exact aux h1 (by decide+kernel)
   | cut n=>exact aux h (by decide+kernel)
 | all cs=>
   obtain⟨l,as,h1,h2,h3⟩:=h;rw[h1] at e;injection e with e
   injection e with e
   injection e with _ e
   injection e with e _
   injection e with e
   subst e;exact⟨cs,as,rfl,h2,h3⟩
 | begin=>exact (aux h (by decide+kernel)).elim
 | keep=>exact (aux h (by decide+kernel)).elim
 | brk=>exact (aux h (by decide+kernel)).elim
 | row n=>exact (aux h (by decide+kernel)).elim
 | within x lo hi=>exact (aux h (by decide+kernel)).elim
 | both lo hi t=>exact (aux h (by decide+kernel)).elim
 | «from» x k m=>exact (aux h (by decide+kernel)).elim
 | spot x n=>exact (aux h (by decide+kernel)).elim
section
variable {P:Program} {w:World} {K:PySem.W.Frag} {mg:Str->Option Value} {base:Heap}
def r_f (CS CO:Addr):Sp:=λvs H Q _=>∃(A:Ads) (a:Addr) (d:Deed) (N:Nat) (room sd:Int) (s:Sto),vs= [.ref A.o,.ref a]/\SAt CS CO H A N room s/\DeedAt H a d/\(∀la,H a=some (.tup [.str "all",.ref la])->la∉A.fp)/\d.form/\d.tell sd/\N+d.wsz<=7000/\s.inML sd/\q_x CS CO H A (N+(d.wsz+1)) room Q (s.step room d)
theorem r_p:a_s ["store","deed"] ["store","deed"] (a_m j_r):=⟨rfl,rfl,rfl,by decide+kernel,rfl,by decide+kernel,by decide+kernel⟩
theorem q_j {f fA fO CS CO:Addr} {fd fdA fdO:FuncData} (F:Fun K "answer_of" "answer_of" j_r f fd) (gA:Gf K mg "all_or_none" fA fdA ["store","changes"]) (GA:FnOk P w K mg base CX0 10 fA fdA ["store","changes"] (m_x CS CO))
 (gO:Gf K mg "answer_of_one" fO fdO ["store","deed"]) (GO:FnOk P w K mg base CX0 9 fO fdO ["store","deed"] (o_k CS CO)):FnOk P w K mg base CX0 11 f fd ["store","deed"] (r_f CS CO):=by
 refine F.ok r_p (λvs H Q E h=> ?_) (λcdv A outer s H vs Q E hr h=> ?_)
 ·obtain⟨A,a,d,N,room,sd,s,rfl,_⟩:=h
  rfl
 ·obtain⟨A,a,d,N,room,sd,so,rfl,S,hd,l,hf,g,hN,e,fin⟩:=h
  have o:Room 9 _:=hr.mono (by decide)
  refine⟨_,a_c (a_C (a_l a_I (a_r a_o (pv 1) a_g (λ_ _=>rfl)) a_k (a_q _)) (a_f (a_n (a_j GA hr rfl gA.mg gA.kp gA.b .nil a_v (a_a (pv 0) (a_a (a_r a_o (pv 1) a_g (λ_ _=>rfl)) a_d))))) a_p)
   (a_f (a_n (a_j GO o rfl gO.mg gO.kp gO.b .nil a_v (a_a (pv 0) (a_a (pv 1) a_d))))),?_⟩
  have hh:(∃cs,d= .all cs)\/∃(x:Str) (r:List V),H a=some (.tup (.str x::r))/\¬ x="all"/\(d.plain\/d.asks)/\d.wsz=0:=by
   cases d with
   | all cs=>exact .inl ⟨cs,rfl⟩
   | chg c=>
     cases c with
     | bring ρ=>obtain⟨r,h1,_⟩:=id hd;exact .inr ⟨_,_,h1,by decide+kernel,.inl trivial,rfl⟩
     | alter ρ=>obtain⟨r,h1,_⟩:=id hd;exact .inr ⟨_,_,h1,by decide+kernel,.inl trivial,rfl⟩
     | cut n=>exact .inr ⟨_,_,hd,by decide+kernel,.inl trivial,rfl⟩
   | begin=>exact .inr ⟨_,_,hd,by decide+kernel,.inl trivial,rfl⟩
   | keep=>exact .inr ⟨_,_,hd,by decide+kernel,.inl trivial,rfl⟩
   | brk=>exact .inr ⟨_,_,hd,by decide+kernel,.inl trivial,rfl⟩
   | row n=>exact .inr ⟨_,_,hd,by decide+kernel,.inr trivial,rfl⟩
   | within x lo hi=>exact .inr ⟨_,_,hd,by decide+kernel,.inr trivial,rfl⟩
   | both lo hi t=>exact .inr ⟨_,_,hd,by decide+kernel,.inr trivial,rfl⟩
   | «from» x k m=>exact .inr ⟨_,_,hd,by decide+kernel,.inr trivial,rfl⟩
   | spot x n=>exact .inr ⟨_,_,hd,by decide+kernel,.inr trivial,rfl⟩
  rcases hh with⟨cs,rfl⟩ | ⟨x,r,hx,p,i,hw⟩
  ·obtain⟨la,as,h1,h2,h3⟩:=id hd
   refine⟨_,rfl,a,_,_,_,rfl,rfl,SqT.of h1,a_e (j:=0) rfl,rfl,_,rfl,a_y (λ_=> ?_) (λq=>absurd (s_C rfl) q)⟩;exact⟨_,rfl,_,rfl,a,_,_,_,rfl,rfl,SqT.of h1,a_e (j:=1) rfl,A,la,as,cs,N,room,sd,so,rfl,S,h2,h3,l la h1,g,hN,e,fin⟩
  ·refine⟨_,rfl,a,_,_,_,rfl,rfl,SqT.of hx,a_e (j:=0) rfl,rfl,_,rfl,a_y (λq=>absurd (s_E q) (λz=>p (by injection z))) (λ_=> ?_)⟩
   refine⟨_,rfl,_,rfl,A,a,d,N,room,sd,so,rfl,S,hd,i,hf,g,by omega,e,?_⟩;rw[hw] at fin;exact fin
theorem Ans.more {H:Hp} {f:List Addr} {d:D} {v:V} {lf:Addr} (h:Ans H f d v) (hl:∀t xs,v= .ref t->H t=some (.lst xs)->t≠lf):Ans H (lf::f) d v:=by
 cases h with
 | str x=>exact .str x
 | int x=>exact .int x
 | row h=>exact .row h
 | pair h=>exact .pair h
 | rows h hn=>
   refine .rows h λhc=> ?_;rcases r_7.mp hc with q | q
   ·obtain⟨as',hq,_⟩:=h
    exact hl _ _ rfl hq q
   ·exact hn q
theorem b_Z {H:Hp} {f:List Addr}:∀{ds:List D} {vs:List V},Paired (Ans H f) ds vs->BearsL H ds vs
 | _,_,.nil=> .nil
 | _,_,.cons h t=> .cons h.bears (b_Z t)
theorem d_K {H H':Hp} {f f':List Addr} (S:Stp H H' f f') (tk:a_M H H'):∀{ds:List D} {vs:List V},Paired (Ans H f) ds vs->Paired (Ans H' f') ds vs
 | _,_,.nil=> .nil
 | _,_,.cons h t=> .cons (h.mov S tk) (d_K S tk t)
def q_I (CS CO:Addr):Sp:=λvs H Q _=>∃(H0:Hp) (A:Ads) (ld:Addr) (as:List Addr) (ds:List Deed) (N:Nat) (room sd:Int) (s:Sto),vs= [.ref A.o,.ref ld]/\SAt CS CO H A N room s/\Same H0 H/\(∀b∈A.fp,H0 b=none)/\H0 ld=some (.lst (as.map V.ref))/\Paired (DeedAt H0) as ds/\
 (∀d∈ds,d.form/\d.tell sd)/\N+tot ds<=6000/\ds.length<=5000/\s.inML sd/\
 ∀(lf:Addr) (vs':List V) (A':Ads) (H':Hp),H0 lf=none->Same H0 H'->H' lf=some (.lst vs')->BearsL H' (s.run room ds).2 vs'->SAt CS CO H' A' (N+tot ds) room (s.run room ds).1->A'.o=A.o->(∀b∈A'.fp,H0 b=none)->lf∉A'.fp->Q (.ref lf) H'
theorem q_n:a_s ["store","deeds","found","deed"] ["store","deeds"] (a_m k_E):=⟨rfl,rfl,rfl,by decide+kernel,rfl,by decide+kernel,by decide+kernel⟩
theorem q_v {f fO CS CO:Addr} {fd fdO:FuncData} (F:Fun K "answers_in" "answers_in" k_E f fd) (gO:Gf K mg "answer_of" fO fdO ["store","deed"]) (GO:FnOk P w K mg base CX0 11 fO fdO ["store","deed"] (r_f CS CO)):FnOk P w K mg base CX0 12 f fd ["store","deeds"] (q_I CS CO):=by
 refine F.ok q_n (λvs H Q E h=> ?_) (λcdv A outer s H vs Q E hr h=> ?_)
 ·obtain⟨H0,A,ld,as,ds,N,room,sd,s,rfl,_⟩:=h
  rfl
 ·obtain⟨H0,A,ld,as,ds,N,room,sd,so,rfl,S,s0,R,C,hD,G,hN,a6,W,fin⟩:=h
  refine⟨_,a_c (a_w (i:=2) q_n.nd rfl (Or.inl rfl) (a_O a_d))
   (a_c (b_0 PassesOwn.never rfl (b_e (pv 1)) (a_9 (i:=3) q_n.nd rfl (Or.inl rfl)) (a_f (a_z (b_y s_G s_I s_H a_N (pv 2) (a_a (a_j GO hr rfl gO.mg gO.kp gO.b .nil a_v (a_a (pv 0) (a_a (pv 3) a_d))) a_d)))))
   (a_f (a_n (pv 2)))),?_⟩
  refine⟨by show 0<=sizeLine;decide,λlf n=> ?_⟩;have s1:Same H (upd H lf (.lst [])):=Same.upd_new n;have a5:=Paired.length hD;have p:H0 lf=none:=s0.free n;have lfA:lf∉A.fp:=λhc=>by obtain⟨u,q,_⟩:=S.fpin lf hc;rw[n] at q;cases q
  refine⟨_,rfl,ld,rfl,⟨_,SqL.of (s1 _ _ (s0 _ _ C))⟩,b_X (K:=K) (a:=ld) (xs:=as.map V.ref) (λi σ H1=>∃(A1:Ads) (vs:List V) (v3:Option V),σ= [some (.ref A.o),some (.ref ld),some (.ref lf),v3]/\SAt CS CO H1 A1 (N+tot (ds.take i)) room (so.run room (ds.take i)).1/\A1.o=A.o/\Same H0 H1/\(∀b∈A1.fp,H0 b=none)/\lf∉A1.fp/\H1 lf=some (.lst vs)/\vs.length=i/\Paired (Ans H1 (lf::A1.fp)) (so.run room (ds.take i)).2 vs)
   ⟨A, [],none,rfl,S.same s1,rfl,s0.trans s1,R,lfA,a_b,rfl,.nil⟩ (λi σ H1 _ ⟨_,_,_,_,_,_,s',_⟩=>SqL.of (s' _ _ C)) ?_ ?_⟩
  ·rintro i v σ H1 hi ⟨A1,vs,v3,rfl,S1,e1,c,j,l,g,x,k⟩
   rw[r_8] at hi;cases ea:as[i]? with
   | none=>rw[ea] at hi;cases hi
   | some a=>
     rw[ea] at hi;obtain rfl:V.ref a=v:=r_3 hi;have a7:=(s_a.mp ea).1;obtain⟨d,hd⟩:∃d,ds[i]? =some d:=⟨_,r_X (by omega)⟩;obtain⟨a',e',r⟩:=a_T hD hd;rw[ea] at e';obtain rfl:a=a':=r_3 e';obtain⟨a2,a0⟩:=G d (s_m hd);have et:ds.take (i+1)=ds.take i++ [d]:=by rw[s_n,hd];rfl
     have O:=k_8 ds (i+1);rw[et,h_2] at O;have M:DeedAt H1 a d:=DeedAt.same c r;have Z:(so.run room (ds.take i)).1.inML sd:=g_r (λe he=>(G e (List.mem_of_mem_take he)).2) W;refine⟨_,rfl,.inl ⟨rfl,_,SqL.of g⟩,_,rfl,_,rfl,A1,a,d,N+tot (ds.take i),room,sd,_,by rw[e1];rfl,S1,M,λla a3 hc=> ?_, a2,a0,by omega,Z,λu A2 H2 S2 e2 F2 X a1 J=> ?_⟩
     ·obtain⟨xs,hx⟩:=r.head
      have B:=c _ _ hx;rw[a3] at B;have U:H0 a=some (.tup [.str "all",.ref la]):=by rw[hx];exact B.symm
      obtain⟨cs,as',_,I,_⟩:=k_r r U;rw[j la hc] at I;cases I
     ·have y:H2 lf=some (.lst vs):=F2.keep _ _ g l
      have z:lf∉A2.fp:=λhc=>by
       rcases F2.new _ hc with q | q
       ·exact l q
       ·rw[g] at q;cases q
      have T:Same H0 H2:=λb u hb=>F2.keep _ _ (c _ _ hb) λhc=>by rw[j b hc] at hb;cases hb
      have a4:∀b∈A2.fp,H0 b=none:=λb hb=>by
       rcases F2.new b hb with q | q
       ·exact j b q
       ·exact c.free q
      have F3:Stp H1 H2 (lf::A1.fp) (lf::A2.fp):=F2.wide (λb hb=>r_Z _ hb) λb hb=>by
       rcases r_7.mp hb with q | q
       ·exact .inl (by rw[q];exact r_0 ..)
       ·exact .inr q
      have Y:a_M H2 (upd H2 lf (.lst (vs++ [u]))):=λb xs e=>by rw[a_i (λq=>by rw[q,y] at e;cases e)];exact e
      have F4:Stp H2 (upd H2 lf (.lst (vs++ [u]))) (lf::A2.fp) (lf::A2.fp):=⟨λb u' e hn=>by rw[a_i λq=>hn (by rw[q];exact r_0 ..)];exact e,λb hb=> .inl hb⟩
      have L:=a1.more (lf:=lf) λt xs e1 e2 q=>by
       have:=J t xs e1 e2;rw[q,g] at this;cases this
      refine⟨lf,_,_,rfl,rfl,y,by rw[x];exact s_B (m:=5000) (by omega) (by decide),A2,vs++ [u],_,rfl,?_, e2.trans e1,?_, a4,z,a_b,by simp[x],?_⟩
      ·rw[et,c_L,h_2,<-Nat.add_assoc]
       exact S2.mvd (f:= [lf]) ⟨λb u' e hn=>by rw[a_i λq=>hn (by rw[q];exact r_1.mpr rfl)];exact e,λb hb u' e=>by rw[r_1.mp hb,y] at e;exact .inl ⟨_,(r_3 e).symm⟩⟩ λb hb=>by rw[r_1.mp hb];exact z
      ·exact λb u' hb=>by rw[a_i (a_h hb p)];exact T _ _ hb
      ·rw[et,c_L]
       exact d_K F4 Y (a_D (d_K F3 X k) (.cons L .nil))
  ·rintro σ H1 ⟨A1,vs,v3,rfl,S1,e1,c,j,l,g,x,k⟩
   rw[r_W,a5,s_g (r_5 _)] at S1 k;exact⟨_,rfl,fin lf vs A1 H1 p c g (b_Z k) S1 e1 j l⟩
def g_x:Sp:=λvs H Q _=>∃(room sd:Int) (ld:Addr) (as:List Addr) (ds:List Deed),vs= [.int room,.ref ld]/\H ld=some (.lst (as.map V.ref))/\Paired (DeedAt H) as ds/\(∀d∈ds,d.form/\d.tell sd)/\tot ds<=6000/\ds.length<=5000/\
 ∀(lf:Addr) (vs':List V) (H':Hp),H lf=none->Same H H'->H' lf=some (.lst vs')->BearsL H' ((⟨[], []⟩:Sto).run room ds).2 vs'->Q (.ref lf) H'
theorem j_a:a_s ["room","deeds"] ["room","deeds"] (a_m f_u):=⟨rfl,rfl,rfl,by decide+kernel,rfl,by decide+kernel,by decide+kernel⟩
theorem g_b {H H':Hp} {p dx C:Addr} (hp:H p=none) (hd:H dx=none) (kp:∀b u,(upd (upd H dx (.own p)) p (.ins C dx [])) b=some u->b≠p->H' b=some u):Same H H':=λb u hb=>
 kp b u (by rw[a_i (a_h hb hp),a_i (a_h hb hd)];exact hb) (a_h hb hp)
theorem g_T {H:Hp} {p dx C b:Addr} (hp:H p=none) (hd:H dx=none) (h:b=p\/(upd (upd H dx (.own p)) p (.ins C dx [])) b=none):H b=none:=by
 rcases h with e | e
 ·rw[e];exact hp
 ·cases q:H b with
  | none=>rfl
  | some u=>rw[a_i (a_h q hp),a_i (a_h q hd),q] at e;cases e
theorem i_B {f fN fI CS CO:Addr} {fd fdN fdI:FuncData} (F:Fun K "answers" "answers" f_u f fd) (TS:e_8 K mg CS CO) (M:Mk K CS fI) (bI:Binds K fdI ["self","room"] []) (GI:FnOk P w K mg base CX0 4 fI fdI ["self","room"] (h_A CS CO))
 (gN:Gf K mg "answers_in" fN fdN ["store","deeds"]) (GN:FnOk P w K mg base CX0 12 fN fdN ["store","deeds"] (q_I CS CO)):FnOk P w K mg base CX0 13 f fd ["room","deeds"] g_x:=by
 refine F.ok j_a (λvs H Q E h=> ?_) (λcdv A outer s H vs Q E hr h=> ?_)
 ·obtain⟨room,sd,ld,as,ds,rfl,_⟩:=h
  rfl
 ·obtain⟨room,sd,ld,as,ds,rfl,d,hD,c,hN,a,fin⟩:=h
  have g:Room 5 _:=hr.mono (by decide);refine⟨_,a_f (a_n (a_j GN hr rfl gN.mg gN.kp gN.b .nil a_v (a_a (f_F M GI g rfl TS.mgS bI .nil a_v (a_a (pv 0) a_d)) (a_a (pv 1) a_d)))),?_⟩;refine⟨_,rfl,λp dx np nd ne=>⟨p,dx,room,rfl,a_b,λA' H1 S e hf kp=>⟨rfl,?_⟩⟩⟩;have s1:=g_b np nd kp;refine⟨_,rfl,H,A',ld,as,ds,0,room,sd,⟨[], []⟩,by rw[e];rfl,S,s1,λb hb=>g_T np nd (hf b hb),d,hD,c,by omega,a,⟨λx hx=>(by cases hx),λk hk=>(by cases hk)⟩,λlf vs' A2 H2 h1 h2 h3 h4 _ _ _ _=>fin lf vs' H2 h1 h2 h3 h4⟩
def atF (ns:List Int) (k:Int):Int:=if ns= [] then 0 else ns.getD (k % (ns.length:Int)).toNat 0+3 * (k / (ns.length:Int))
def m_0 (K:PySem.W.Frag):Sp:=λvs H Q _=>∃(a:Addr) (ns:List Int) (k:Int),vs= [.ref a,.int k]/\SqL K H a (ns.map V.int)/\ns.length<=1000/\0<=k/\k < 2 ^ 60/\∀H',Same H H'->Q (.int (atF ns k)) H'
theorem p_Q {f:Addr} {fd:FuncData} (F:Fun K "_law_at" "_law_at" sAt f fd) (B:Bt mg):FnOk P w K mg base CX0 1 f fd ["_law_script","_law_k"] (m_0 K):=by
 refine F.ok r_K (λvs H Q E h=> ?_) (λcdv A outer s H vs Q E hr h=> ?_)
 ·obtain⟨a,ns,k,rfl,_⟩:=h
  rfl
 ·obtain⟨a,ns,k,rfl,ha,hl,g,e,fin⟩:=h
  have hu:=hr.units0
  refine⟨_,(a_c (a_C (a_l (i_k hu) (pv 0) (a_O a_d) (a_q _)) (a_f (a_n a_g)) a_p)
   (a_f (a_n (a_u a_U (a_r a_P (pv 0) (a_u a_S (pv 1) (a_t a_x (by rfl) B.len s_F (a_a (pv 0) a_d))) (λ_ _=>rfl)) (a_u b_H a_g (a_u a_1 (pv 1) (a_t a_x (by rfl) B.len s_F (a_a (pv 0) a_d)))))))),?_⟩
  refine⟨_,rfl,by show 0<=sizeLine;decide,λn hn=> ?_⟩;have s1:Same H (upd H n (.lst [])):=Same.upd_new hn;refine⟨a,n,_,rfl,rfl,s1.seq ha,a_b,_,rfl,?_⟩;cases ns with
  | nil=>exact fin _ s1
  | cons z r=>
    refine i_0 ?_;have b:((((z::r).map V.int).length:Nat):Int)=((z::r).length:Int):=by simp
    have hp:(0:Int) < ((((z::r).map V.int).length:Nat):Int):=by rw[b];simp
    have hz:((((z::r).map V.int).length:Nat):Int) < 1073741824:=by rw[b];omega
    have hv:atI ((z::r).map V.int) (k % ((((z::r).map V.int).length:Nat):Int))=some (.int ((z::r).getD (k % ((z::r).length:Int)).toNat 0)):=by
     have h1:=Int.emod_nonneg k (show ((((z::r).map V.int).length:Nat):Int)≠0 by omega);have h2:=Int.emod_lt_of_pos k hp;obtain⟨j,hj⟩:∃j:Nat,k % ((((z::r).map V.int).length:Nat):Int)=(j:Int):=⟨(k % ((((z::r).map V.int).length:Nat):Int)).toNat,by omega⟩;have d:j < (z::r).length:=by rw[b] at h2 hj;omega
     have c:(k % ((z::r).length:Int)).toNat=j:=by rw[<-b,hj];rfl
     rw[hj,c];exact a_e (by rw[r_8,s_f,r_X d];rfl)
    refine⟨_,rfl,_,rfl,_,rfl,a,_,rfl,.inl (s1.seq ha),_,_,rfl,rfl,hp,?_⟩;refine⟨a,_,_,_,rfl,rfl,s1.seq ha,hv,?_⟩;refine⟨_,rfl,_,rfl,a,_,rfl,.inl (s1.seq ha),_,_,rfl,rfl,⟨hp,hz⟩,_,_,rfl,rfl,.inl ⟨by decide,by decide⟩,_,_,rfl,rfl,?_⟩;have:=fin _ s1;unfold atF at this;rw[if_neg (by simp)] at this;rw[b];exact this
def o_9 (K:PySem.W.Frag):Sp:=λvs H Q _=>∃(a:Addr) (ns:List Int) (k:Int),vs= [.ref a,.int k]/\SqL K H a (ns.map V.int)/\ns.length<=1000/\0<=k/\k < 2 ^ 60/\∀i H',Same H H'->Q (.int i) H'
theorem o_5 {f:Addr} {fd:FuncData} (G:FnOk P w K mg base CX0 1 f fd ["_law_script","_law_k"] (m_0 K)):FnOk P w K mg base CX0 1 f fd ["_law_script","_law_k"] (o_9 K):=
 G.imp λvs H Q E ⟨a,ns,k,e,ha,hl,h0,h1,fin⟩=>⟨a,ns,k,e,ha,hl,h0,h1,λH' s=>fin _ H' s⟩
def f_g:Sp:=λvs H Q _=>∃(y n c:Int),vs= [.int y,.int n,.int c]/\-1<=n/\n<=25/\∀(a:Addr) (ch:Chg) (H':Hp),H a=none->Same H H'->ChgAt H' a ch->ch.short->Q (.ref a) H'
theorem i_M:a_s ["_law_way","_law_number","_law_cell"] ["_law_way","_law_number","_law_cell"] (a_m e_R):=⟨rfl,rfl,rfl,by decide+kernel,rfl,by decide+kernel,by decide+kernel⟩
theorem h_f {f fFar fDr:Addr} {fd fdFar fdDr:FuncData} (F:Fun K "_law_change_of" "_law_change_of" e_R f fd) (gFar:Gf K mg "_law_far" fFar fdFar ["_law_number"]) (GFar:FnOk P w K mg base CX0 1 fFar fdFar ["_law_number"] j_T)
 (gDr:Gf K mg "_law_drawn_row" fDr fdDr ["_law_number","_law_cell"]) (GDr:FnOk P w K mg base CX0 2 fDr fdDr ["_law_number","_law_cell"] g_5):FnOk P w K mg base CX0 3 f fd ["_law_way","_law_number","_law_cell"] f_g:=by
 refine F.ok i_M (λvs H Q E h=> ?_) (λcdv A outer s H vs Q E hr h=> ?_)
 ·obtain⟨y,n,c,rfl,_⟩:=h
  rfl
 ·obtain⟨y,n,c,rfl,d,g,fin⟩:=h
  have e:Room 1 _:=hr.mono (by decide);have i:Room 2 _:=hr.mono (by decide)
  refine⟨_,(a_c (a_C (a_l e_Z (a_u a_S (pv 0) a_g) a_g (a_q _)) (a_f (a_n (a_G (a_a a_k (a_a (a_j GDr i rfl gDr.mg gDr.kp gDr.b .nil a_v (a_a (a_j GFar e rfl gFar.mg gFar.kp gFar.b .nil a_v (a_a (pv 1) a_d)) (a_a (pv 2) a_d))) a_d))))) a_p)
   (a_c (a_C (a_l a_I (a_u a_S (pv 0) a_g) a_g (a_q _)) (a_f (a_n (a_G (a_a a_k (a_a (a_j GDr i rfl gDr.mg gDr.kp gDr.b .nil a_v (a_a (a_j GFar e rfl gFar.mg gFar.kp gFar.b .nil a_v (a_a (pv 1) a_d)) (a_a (pv 2) a_d))) a_d))))) a_p)
   (a_f (a_n (a_G (a_a a_k (a_a (a_j GFar e rfl gFar.mg gFar.kp gFar.b .nil a_v (a_a (pv 1) a_d)) a_d))))))),?_⟩
  refine⟨_,rfl,_,_,rfl,rfl,(show (0:Int) < 5 by decide),_,_,rfl,rfl,_,rfl,?_⟩;refine a_y (λ_=> ?_) (λ_=> ?_)
  ·refine⟨_,rfl,_,rfl,λH1 s1=>⟨_,rfl,_,_,rfl,λr ρ H2 hf s2 hr en ht=>⟨by show 2<=sizeLine;decide,λa ha=> ?_⟩⟩⟩
   exact fin a (.bring ρ) _ (s1.free (s2.free ha)) ((s1.trans s2).trans (Same.upd_new ha)) ⟨r,a_b,Same.upd_new ha _ _ hr⟩ ⟨ht,by rw[en];exact h_L d g⟩
  refine⟨_,rfl,_,_,rfl,rfl,(show (0:Int) < 5 by decide),rfl,_,rfl,?_⟩;refine a_y (λ_=> ?_) (λ_=> ?_)
  ·refine⟨_,rfl,_,rfl,λH1 s1=>⟨_,rfl,_,_,rfl,λr ρ H2 hf s2 hr en ht=>⟨by show 2<=sizeLine;decide,λa ha=> ?_⟩⟩⟩
   exact fin a (.alter ρ) _ (s1.free (s2.free ha)) ((s1.trans s2).trans (Same.upd_new ha)) ⟨r,a_b,Same.upd_new ha _ _ hr⟩ ⟨ht,by rw[en];exact h_L d g⟩
  refine⟨_,rfl,_,rfl,λH1 s1=>⟨by show 2<=sizeLine;decide,λa ha=> ?_⟩⟩;exact fin a (.cut (far n)) _ (s1.free ha) (s1.trans (Same.upd_new ha)) a_b (h_L d g)
structure DNew (H H':Hp) (a:Addr) (d:Deed):Prop where
 new:H a=none
 same:Same H H'
 at_:DeedAt H' a d
 form:d.form
 short:d.short
 inn:∀l',H' a=some (.tup [.str "all",.ref l'])->H l'=none
theorem b_d {H':Hp} {H:Hp} {a:Addr} {x:Str} {r:List V} (e:H' a=some (.tup (.str x::r))) (hx:¬ x="all"):∀l',H' a=some (.tup [.str "all",.ref l'])->H l'=none:=λl' e'=>by
 rw[e] at e';injection e' with e'
 injection e' with e'
 injection e' with e1 _
 injection e1 with e1
 exact absurd e1 hx
def d_P:Sp:=λvs H Q _=>∃(y n c:Int),vs= [.int y,.int n,.int c]/\-1000<=n/\n<=1000/\∀(a:Addr) (d:Deed) (H':Hp),DNew H H' a d->d.asks->Q (.ref a) H'
theorem l_O (z:Int):∃x:Str,atI [V.str "rank",V.str "text",V.str "rank",V.str "text",V.str "ranks"] (z % 5)=some (.str x)/\c_s x:=by
 rcases (show z % 5=0\/z % 5=1\/z % 5=2\/z % 5=3\/z % 5=4 by omega) with e | e | e | e | e <;> rw[e]
 ·exact⟨_,a_e (j:=0) rfl,.inl rfl⟩
 ·exact⟨_,a_e (j:=1) rfl,.inr (.inl rfl)⟩
 ·exact⟨_,a_e (j:=2) rfl,.inl rfl⟩
 ·exact⟨_,a_e (j:=3) rfl,.inr (.inl rfl)⟩
 ·exact⟨_,a_e (j:=4) rfl,.inr (.inr rfl)⟩
theorem n_u (i j k z:Int):∃v:Int,atI [V.int i,V.int j,V.int k] (z % 3)=some (.int v):=by
 rcases (show z % 3=0\/z % 3=1\/z % 3=2 by omega) with e | e | e <;> rw[e]
 ·exact⟨_,a_e (j:=0) rfl⟩
 ·exact⟨_,a_e (j:=1) rfl⟩
 ·exact⟨_,a_e (j:=2) rfl⟩
theorem n_p (i j z:Int) (hi:0<=i) (hj:0<=j):∃v:Int,atI [V.int i,V.int j] (z % 3 / 2)=some (.int v)/\0<=v:=by
 rcases (show z % 3 / 2=0\/z % 3 / 2=1 by omega) with e | e <;> rw[e]
 ·exact⟨_,a_e (j:=0) rfl,hi⟩
 ·exact⟨_,a_e (j:=1) rfl,hj⟩
theorem c_y:a_s ["_law_way","_law_number","_law_cell","_law_word","_law_high"] ["_law_way","_law_number","_law_cell"] (a_m c_5):=⟨rfl,rfl,rfl,by decide+kernel,rfl,by decide+kernel,by decide+kernel⟩
theorem f_D {f fFar fTx:Addr} {fd fdFar fdTx:FuncData} (F:Fun K "_law_question_of" "_law_question_of" c_5 f fd) (gFar:Gf K mg "_law_far" fFar fdFar ["_law_number"]) (GFar:FnOk P w K mg base CX0 1 fFar fdFar ["_law_number"] j_T)
 (gTx:Gf K mg "_law_texts" fTx fdTx []) (GTx:FnOk P w K mg base CX0 1 fTx fdTx [] h_z):FnOk P w K mg base CX0 2 f fd ["_law_way","_law_number","_law_cell"] d_P:=by
 refine F.ok c_y (λvs H Q E h=> ?_) (λcdv A outer s H vs Q E hr h=> ?_)
 ·obtain⟨y,n,c,rfl,_⟩:=h
  rfl
 ·obtain⟨y,n,c,rfl,m,p,fin⟩:=h
  have d:Room 1 _:=hr.mono (by decide)
  refine⟨_,(a_c (a_w (i:=3) c_y.nd rfl (Or.inl rfl) (a_r a_P (a_O (a_a a_k (a_a a_k (a_a a_k (a_a a_k (a_a a_k a_d)))))) (a_u a_S (a_u a_U (a_u a_1 (pv 2) a_g) (pv 0)) a_g) (λ_ _=>rfl)))
   (a_c (a_C (a_l a_I (pv 0) a_g (a_q _)) (a_f (a_n (a_G (a_a a_k (a_a (a_j GFar d rfl gFar.mg gFar.kp gFar.b .nil a_v (a_a (pv 1) a_d)) a_d))))) a_p)
   (a_c (a_C (PW.pt (e_Q (a_l a_I (pv 0) a_g (a_q _)) (c_4 (a_l a_I (pv 3) a_k (a_q _))))) (a_f (a_n (a_G (a_a a_k (a_a (pv 3) (a_a (a_r a_P (d_o GTx d rfl gTx.mg gTx.kp gTx.b .nil a_v) (a_u a_S (pv 2) a_g) (λ_ _=>rfl)) (a_a (a_r a_P (d_o GTx d rfl gTx.mg gTx.kp gTx.b .nil a_v) (a_u a_S (a_u a_1 (pv 2) a_g) a_g) (λ_ _=>rfl)) a_d))))))) a_p)
   (a_c (a_C (a_l a_I (pv 0) a_g (a_q _)) (a_f (a_n (a_G (a_a a_k (a_a (pv 3) (a_a (a_u b_T (a_u a_S (pv 2) a_g) a_g) (a_a (a_u a_U (a_u b_T (a_u a_S (pv 2) a_g) a_g) (a_u a_S (a_u a_1 (pv 2) a_g) a_g)) a_d))))))) a_p)
   (a_c (a_C (a_l a_I (pv 0) a_g (a_q _)) (a_c (a_w (i:=4) c_y.nd rfl (Or.inl rfl) (a_r a_P (a_O (a_a a_g (a_a a_g (a_a a_g a_d)))) (a_u a_S (pv 1) a_g) (λ_ _=>rfl)))
   (a_f (a_n (a_G (a_a a_k (a_a (a_u b_T (a_u a_S (pv 2) a_g) a_g) (a_a (pv 4) (a_a (a_r a_P (d_o GTx d rfl gTx.mg gTx.kp gTx.b .nil a_v) (a_u a_S (a_u a_1 (pv 2) a_g) a_g) (λ_ _=>rfl)) a_d)))))))) a_p)
   (a_c (a_C (a_l a_I (pv 0) a_g (a_q _)) (a_f (a_n (a_G (a_a a_k (a_a (pv 3) (a_a (a_u b_T (pv 1) a_g) (a_a (a_r a_P (a_O (a_a (a_u a_S (pv 2) a_g) (a_a (a_u a_S (a_u a_1 (pv 2) a_g) a_g) a_d))) (a_u a_1 (a_u a_S (pv 2) a_g) a_g) (λ_ _=>rfl)) a_d))))))) a_p)
   (a_f (a_n (a_G (a_a a_k (a_a (pv 3) (a_a (a_j GFar d rfl gFar.mg gFar.kp gFar.b .nil a_v (a_a (pv 1) a_d)) a_d)))))))))))),?_⟩
  obtain⟨x,hx,g⟩:=l_O (c / 16+y);refine⟨by show 5<=sizeLine;decide,λn1 B=> ?_⟩;have s1:Same H (upd H n1 (.lst [V.str "rank",V.str "text",V.str "rank",V.str "text",V.str "ranks"])):=Same.upd_new B;refine⟨_,rfl,_,_,rfl,rfl,⟨by decide,by decide⟩,_,rfl,_,_,rfl,rfl,_,_,rfl,rfl,(show (0:Int) < 5 by decide),n1,_,_,_,rfl,rfl,SqL.of a_b,hx,?_⟩;refine⟨_,rfl,rfl,_,rfl,?_⟩;refine a_y (λ_=> ?_) (λ_=> ?_)
  ·refine⟨_,rfl,_,rfl,λH2 s2=>⟨by show 2<=sizeLine;decide,λa ha=> ?_⟩⟩
   exact fin a (.row (far n)) _ ⟨s1.free (s2.free ha),(s1.trans s2).trans (Same.upd_new ha),a_b,trivial,i_f m p,b_d a_b (by decide+kernel)⟩ trivial
  refine⟨_,rfl,rfl,_,rfl,?_⟩;by_cases hy:y=1
  ·have dy:decide (V.int y=V.int 1)=true:=by rw[hy];exact s_C rfl
   refine a_y (λ_=> ?_) (λq=>absurd dy q);refine⟨_,rfl,rfl,_,rfl,?_⟩;refine a_y (λq=> ?_) (λq=> ?_)
   ·obtain⟨t1,h1,l1⟩:=h_9 c
    obtain⟨t2,h2,l2⟩:=h_9 (c / 3);refine⟨_,rfl,rfl,λla H2 u s2 r=>⟨_,rfl,_,_,rfl,rfl,(show (0:Int) < 6 by decide),la,_,_,_,rfl,rfl,SqL.of r,h1,rfl,λlb H3 C s3 j=>⟨_,rfl,_,_,rfl,rfl,⟨by decide,by decide⟩,_,_,rfl,rfl,(show (0:Int) < 6 by decide),lb,_,_,_,rfl,rfl,SqL.of j,h2,by show 4<=sizeLine;decide,λa ha=> ?_⟩⟩⟩;have k:x="text":=by have:=s_E q;injection this
    refine fin a (.within x (.str t1) (.str t2)) _ ⟨s1.free (s2.free (s3.free ha)),((s1.trans s2).trans s3).trans (Same.upd_new ha),a_b,?_, ⟨λs e=>by cases e;exact l1,λs e=>by cases e;exact l2⟩,b_d a_b (by decide+kernel)⟩ trivial;show b_w x _ _/\c_s x;rw[b_w,if_pos k];exact⟨⟨_,_,rfl,rfl⟩,g⟩
   ·have k:¬ x="text":=λe=>q (by rw[e];exact s_C rfl)
    refine⟨_,rfl,rfl,_,rfl,?_⟩;refine a_y (λ_=> ?_) (λq=>absurd dy q);refine⟨_,rfl,_,rfl,_,_,rfl,rfl,(show (0:Int) < 9 by decide),_,_,rfl,rfl,_,rfl,_,_,rfl,rfl,(show (0:Int) < 9 by decide),_,_,rfl,rfl,_,rfl,_,_,rfl,rfl,⟨by decide,by decide⟩,_,_,rfl,rfl,(show (0:Int) < 7 by decide),_,_,rfl,rfl,by show 4<=sizeLine;decide,λa ha=> ?_⟩;refine fin a (.within x (.int (c % 9 - 4)) (.int (c % 9 - 5+c / 9 % 7))) _ ⟨s1.free ha,s1.trans (Same.upd_new ha),a_b,?_, ⟨λs e=>(by cases e),λs e=>(by cases e)⟩,b_d a_b (by decide+kernel)⟩ trivial;show b_w x _ _/\c_s x;rw[b_w,if_neg k];exact⟨⟨_,_,rfl,rfl⟩,g⟩
  ·have dy:¬ decide (V.int y=V.int 1)=true:=λq=>hy (by have:=s_E q;injection this)
   refine a_y (λq=>absurd q dy) (λ_=>i_0 ?_);refine⟨_,rfl,rfl,_,rfl,?_⟩;refine a_y (λq=>absurd q dy) (λ_=> ?_);refine⟨_,rfl,rfl,_,rfl,?_⟩;refine a_y (λ_=> ?_) (λ_=> ?_)
   ·obtain⟨v,hv⟩:=n_u 1 5 1000000000000 n
    obtain⟨t,ht,lt⟩:=h_9 (c / 9);refine⟨by show 3<=sizeLine;decide,λn2 l=> ?_⟩;have s2:=Same.upd_new (o:= .lst [V.int 1,V.int 5,V.int 1000000000000]) l;refine⟨_,rfl,_,_,rfl,rfl,(show (0:Int) < 3 by decide),n2,_,_,_,rfl,rfl,SqL.of a_b,hv,?_⟩;refine⟨_,rfl,_,_,rfl,rfl,(show (0:Int) < 9 by decide),_,_,rfl,rfl,_,rfl,rfl,λla H3 u s3 j=>⟨_,rfl,_,_,rfl,rfl,⟨by decide,by decide⟩,_,_,rfl,rfl,(show (0:Int) < 6 by decide),la,_,_,_,rfl,rfl,SqL.of j,ht,by show 4<=sizeLine;decide,λa ha=> ?_⟩⟩;exact fin a (.both (c % 9 - 4) v t) _ ⟨s1.free (s2.free (s3.free ha)),((s1.trans s2).trans s3).trans (Same.upd_new ha),a_b,trivial,lt,b_d a_b (by decide+kernel)⟩ trivial
   refine⟨_,rfl,rfl,_,rfl,?_⟩;refine a_y (λ_=> ?_) (λ_=> ?_)
   ·obtain⟨v,hv,z⟩:=n_p (c % 7) (c / 9 % 40) c (by omega) (by omega)
    refine⟨_,rfl,_,rfl,_,_,rfl,rfl,_,rfl,_,_,rfl,rfl,(show (0:Int) < 7 by decide),_,rfl,_,_,rfl,rfl,⟨by decide,by decide⟩,_,_,rfl,rfl,(show (0:Int) < 40 by decide),by show 2<=sizeLine;decide,λn2 l=> ?_⟩;have s2:=Same.upd_new (o:= .lst [V.int (c % 7),V.int (c / 9 % 40)]) l;refine⟨_,rfl,_,_,rfl,rfl,(show (0:Int) < 3 by decide),_,_,rfl,rfl,⟨by decide,by decide⟩,n2,_,_,_,rfl,rfl,SqL.of a_b,hv,by show 4<=sizeLine;decide,λa ha=> ?_⟩;exact fin a (.from x (n - 2) v) _ ⟨s1.free (s2.free ha),(s1.trans s2).trans (Same.upd_new ha),a_b,⟨g,z⟩,trivial,b_d a_b (by decide+kernel)⟩ trivial
   ·refine⟨_,rfl,_,rfl,_,rfl,λH2 s2=>⟨by show 3<=sizeLine;decide,λa ha=> ?_⟩⟩
    exact fin a (.spot x (far n)) _ ⟨s1.free (s2.free ha),(s1.trans s2).trans (Same.upd_new ha),a_b,g,i_f m p,b_d a_b (by decide+kernel)⟩ trivial
end
theorem j_G {ns:List Int} {j:Nat} (h:j < ns.length) {z:Int} (e:z=(j:Int)):atI (ns.map V.int) z=some (.int (ns.getD j 0)):=by
 rw[e];refine a_e ?_;rw[r_8,s_f,r_X h];rfl
def LD (H:Hp) (l:Addr) (ds:List Deed):Prop:=∃as:List Addr,H l=some (.lst (as.map V.ref))/\Paired (DeedBy l H) as ds
def Oks (n:Nat) (ds:List Deed):Prop:=ds.length<=n/\∀d∈ds,d.form/\d.short
theorem LD.grow {H:Hp} {l a:Addr} {as:List Addr} {ds:List Deed} {d:Deed} (h1:H l=some (.lst (as.map V.ref))) (h2:Paired (DeedBy l H) as ds) (hd:DeedBy l H a d):LD (upd H l (.lst (as.map V.ref++ [V.ref a]))) l (ds++ [d]):=
 ⟨as++ [a],by rw[r_4];exact a_b,j_g h1 (a_D h2 (.cons hd .nil))⟩
theorem Oks.snoc {n:Nat} {ds:List Deed} {d:Deed} (h:Oks n ds) (hd:d.form/\d.short):Oks (n+1) (ds++ [d]):=⟨by have:=h.1;simp;omega,λx hx=>by
 rcases s_e.mp hx with q | q
 ·exact h.2 x q
 ·rw[r_1.mp q];exact hd⟩
theorem DNew.by {H H':Hp} {a l:Addr} {d:Deed} {u:HO} (h:DNew H H' a d) (hl:H l=some u):DeedBy l H' a d:=⟨h.at_,λl' e q=>by rw[<-q,h.inn l' e] at hl;cases hl⟩
theorem ChgAt.noAll {H:Hp} {a:Addr} {c:Chg} (h:ChgAt H a c):∀l',¬ H a=some (.tup [.str "all",.ref l']):=λl' e=>by
 have aux:∀{x:Str} {r:List V},H a=some (.tup (.str x::r))->¬ x="all"->False:=λe1 hx=>by
  rw[e1] at e;injection e with e
  injection e with e
  injection e with e _
  injection e with e
  exact hx e
 cases c with
 | bring ρ=>obtain⟨r,h1,_⟩:=h;exact aux h1 (by decide+kernel)
 | alter ρ=>obtain⟨r,h1,_⟩:=h;exact aux h1 (by decide+kernel)
 | cut n=>exact aux h (by decide+kernel)
theorem DNew.of_chg {H H':Hp} {a:Addr} {c:Chg} (h0:H a=none) (s:Same H H') (h:ChgAt H' a c) (hs:c.short):DNew H H' a (.chg c):=⟨h0,s,h,trivial,hs,λl' e=>absurd e (ChgAt.noAll h l')⟩
theorem l_l {z:Int} (h:11<=z) (h2:z < 15):∃(x:Str) (d:Deed),atI [V.str "begin",V.str "keep",V.str "break",V.str "begin"] (z - 11)=some (.str x)/\¬ x="all"/\(∀H a,H a=some (.tup [.str x])->DeedAt H a d)/\d.form/\d.short:=by
 rcases (show z - 11=0\/z - 11=1\/z - 11=2\/z - 11=3 by omega) with e | e | e | e <;> rw[e]
 ·exact⟨"begin",.begin,a_e (j:=0) rfl,by decide+kernel,λH a h=>h,trivial,trivial⟩
 ·exact⟨"keep",.keep,a_e (j:=1) rfl,by decide+kernel,λH a h=>h,trivial,trivial⟩
 ·exact⟨"break",.brk,a_e (j:=2) rfl,by decide+kernel,λH a h=>h,trivial,trivial⟩
 ·exact⟨"begin",.begin,a_e (j:=3) rfl,by decide+kernel,λH a h=>h,trivial,trivial⟩
section
variable {P:Program} {w:World} {K:PySem.W.Frag} {mg:Str->Option Value} {base:Heap}
def f_p (K:PySem.W.Frag):Sp:=λvs H Q _=>∃(a:Addr) (ns:List Int),vs= [.ref a]/\SqL K H a (ns.map V.int)/\ns.length<=1000/\∀(l:Addr) (ds:List Deed) (H':Hp),H l=none->Same H H'->LD H' l ds->Oks 26 ds->Q (.ref l) H'
theorem c_j:a_s ["_law_script","_law_deeds","_law_k","_law_number","_law_row"] ["_law_script"] (a_m e_B):=⟨rfl,rfl,rfl,by decide+kernel,rfl,by decide+kernel,by decide+kernel⟩
theorem h_b {f fAt fFar fDr:Addr} {fd fdAt fdFar fdDr:FuncData} (F:Fun K "_law_brings_of" "_law_brings_of" e_B f fd) (B:Bt mg) (gAt:Gf K mg "_law_at" fAt fdAt ["_law_script","_law_k"]) (GAt:FnOk P w K mg base CX0 1 fAt fdAt ["_law_script","_law_k"] (o_9 K))
 (gFar:Gf K mg "_law_far" fFar fdFar ["_law_number"]) (GFar:FnOk P w K mg base CX0 1 fFar fdFar ["_law_number"] j_T)
 (gDr:Gf K mg "_law_drawn_row" fDr fdDr ["_law_number","_law_cell"]) (GDr:FnOk P w K mg base CX0 2 fDr fdDr ["_law_number","_law_cell"] g_5):FnOk P w K mg base CX0 3 f fd ["_law_script"] (f_p K):=by
 refine F.ok c_j (λvs H Q E h=> ?_) (λcdv A outer s H vs Q E hr h=> ?_)
 ·obtain⟨a,ns,rfl,_⟩:=h
  rfl
 ·obtain⟨a,ns,rfl,hS,c,fin⟩:=h
  have e:Room 1 _:=hr.mono (by decide);have x:Room 2 _:=hr.mono (by decide)
  refine⟨_,(a_c (a_w (i:=1) c_j.nd rfl (Or.inl rfl) (a_O a_d))
   (a_c (b_0 PassesOwn.never rfl (c_d rfl B.range (a_a (a_u a_S (a_j GAt e rfl gAt.mg gAt.kp gAt.b .nil a_v (a_a (pv 0) (a_a a_g a_d))) a_g) a_d)) (a_9 (i:=2) c_j.nd rfl (Or.inl rfl))
   (a_c (a_w (i:=3) c_j.nd rfl (Or.inl rfl) (a_u a_S (a_u a_U (a_u b_H a_g (pv 2)) (a_j GAt e rfl gAt.mg gAt.kp gAt.b .nil a_v (a_a (pv 0) (a_a a_g a_d)))) a_g))
   (a_c (a_w (i:=4) c_j.nd rfl (Or.inl rfl) (a_j GDr x rfl gDr.mg gDr.kp gDr.b .nil a_v (a_a (a_j GFar e rfl gFar.mg gFar.kp gFar.b .nil a_v (a_a (pv 3) a_d)) (a_a (a_u a_U (a_u b_H a_g (pv 2)) (a_j GAt e rfl gAt.mg gAt.kp gAt.b .nil a_v (a_a (pv 0) (a_a a_g a_d)))) a_d))))
   (a_f (a_z (b_y s_G s_I s_H a_N (pv 1) (a_a (a_G (a_a a_k (a_a (pv 4) a_d))) a_d)))))))
   (a_f (a_n (pv 1))))),?_⟩
  refine⟨by show 0<=sizeLine;decide,λl hl=> ?_⟩;have s1:Same H (upd H l (.lst [])):=Same.upd_new hl;refine⟨_,rfl,a,ns,1,rfl,s1.seq hS,c,by decide,by decide,λz H2 s2=> ?_⟩;have e1:=Int.emod_nonneg z (show (27:Int)≠0 by decide);have e2:=Int.emod_lt_of_pos z (show (0:Int) < 27 by decide);have u:=s1.trans s2;refine⟨_,_,rfl,rfl,(show (0:Int) < 27 by decide),_,rfl,by omega,by omega,c_k (lo:=0) (n:=(z % 27).toNat) (λi σ Hx=>∃(ds:List Deed) (v2 v3 v4:Option V),σ= [some (.ref a),some (.ref l),v2,v3,v4]/\Same H Hx/\LD Hx l ds/\Oks i ds) ⟨[],none,none,none,rfl,u,⟨[],s2 _ _ a_b,.nil⟩,by simp[Oks]⟩ ?_ ?_⟩
  ·rintro i σ Hx hi ⟨ds,v2,v3,v4,rfl,sx,⟨as,v,hP⟩,ho⟩
   have C:i < 27:=by omega
   refine⟨_,rfl,_,_,rfl,rfl,.inl ⟨by decide,by decide⟩,_,rfl,a,ns,2,rfl,sx.seq hS,c,by decide,by decide,λz2 H3 s3=> ?_⟩;refine⟨_,_,rfl,rfl,_,_,rfl,rfl,(show (0:Int) < 26 by decide),?_⟩;refine⟨_,rfl,_,rfl,λH4 s4=> ?_⟩;have m:=s3.trans s4;refine⟨_,rfl,_,_,rfl,rfl,.inl ⟨by decide,by decide⟩,_,rfl,a,ns,3,rfl,(sx.trans m).seq hS,c,by decide,by decide,λz3 H5 s5=> ?_⟩;refine⟨_,_,rfl,rfl,_,_,rfl,λr ρ H6 G s6 hρ en ht=> ?_⟩;have j:=(m.trans s5).trans s6;have k:=j _ _ v;refine⟨_,rfl,.inl ⟨rfl,_,SqL.of k⟩,_,rfl,by show 2<=sizeLine;decide,λt p=> ?_⟩;have s7:=Same.upd_new (o:= .tup [.str "bring",.ref r]) p;have g:=s7 _ _ k
   have y:(as.map V.ref).length < sizeLine:=by
    have:=Paired.length hP;have h1:=ho.1;rw[r_W];exact a_F (by omega)
   have hb:ChgAt (upd H6 t (.tup [.str "bring",.ref r])) t (.bring ρ):=⟨r,a_b,s7 _ _ hρ⟩;have q:ρ.t.length<=2/\ρ.n∈BL:=⟨ht,by rw[en];exact h_L (by omega) (by omega)⟩;have hD:DNew H6 (upd H6 t (.tup [.str "bring",.ref r])) t (.chg (.bring ρ)):= .of_chg p s7 hb q;refine⟨l,_,_,rfl,rfl,g,y,ds++ [.chg (.bring ρ)],_,_,_,rfl,?_, LD.grow g (d_b (j.trans s7) hP) (hD.by k),ho.snoc (d:= .chg (.bring ρ)) ⟨trivial,q⟩⟩;exact (Mov.upd g).same ((sx.trans j).trans s7) λb hb=>by rw[r_1.mp hb];exact hl
  ·rintro σ Hx ⟨ds,v2,v3,v4,rfl,sx,hL,ho⟩
   exact⟨_,rfl,fin l ds Hx hl sx hL ⟨by have:=ho.1;omega,ho.2⟩⟩
def g_m (K:PySem.W.Frag):Sp:=λvs H Q _=>∃(a:Addr) (ns:List Int),vs= [.ref a]/\SqL K H a (ns.map V.int)/\ns.length<=63/\∀(l:Addr) (ds:List Deed) (H':Hp),H l=none->Same H H'->LD H' l ds->Oks 32 ds->Q (.ref l) H'
theorem b_i:a_s ["_law_cells","_law_deeds","_law_k","_law_way","_law_number","_law_cell","_law_words","_law_some","_law_j","_law_other"] ["_law_cells"] (a_m f_K):=⟨rfl,rfl,rfl,by decide+kernel,rfl,by decide+kernel,by decide+kernel⟩
theorem i_I {f fCh fQu:Addr} {fd fdCh fdQu:FuncData} (F:Fun K "_law_deeds_of" "_law_deeds_of" f_K f fd) (B:Bt mg) (gCh:Gf K mg "_law_change_of" fCh fdCh ["_law_way","_law_number","_law_cell"]) (GCh:FnOk P w K mg base CX0 3 fCh fdCh ["_law_way","_law_number","_law_cell"] f_g)
 (gQu:Gf K mg "_law_question_of" fQu fdQu ["_law_way","_law_number","_law_cell"]) (GQu:FnOk P w K mg base CX0 2 fQu fdQu ["_law_way","_law_number","_law_cell"] d_P):FnOk P w K mg base CX0 4 f fd ["_law_cells"] (g_m K):=by
 refine F.ok b_i (λvs H Q E h=> ?_) (λcdv A outer s H vs Q E hr h=> ?_)
 ·obtain⟨a,ns,rfl,_⟩:=h
  rfl
 ·obtain⟨a,ns,rfl,hS,X,fin⟩:=h
  have v:Room 3 _:=hr.mono (by decide);have I:Room 2 _:=hr.mono (by decide)
  refine⟨_,(a_c (a_w (i:=1) b_i.nd rfl (Or.inl rfl) (a_O a_d))
   (a_c (b_0 PassesOwn.never rfl (c_d rfl B.range (a_a (a_u a_1 (a_t a_x (by rfl) B.len s_F (a_a (pv 0) a_d)) a_g) a_d)) (a_9 (i:=2) b_i.nd rfl (Or.inl rfl))
   (a_c (a_w (i:=3) b_i.nd rfl (Or.inl rfl) (a_u a_S (a_u a_U (a_r a_P (pv 0) (a_u b_H a_g (pv 2)) (λ_ _=>rfl)) (a_u b_H a_g (pv 2))) a_g))
   (a_c (a_w (i:=4) b_i.nd rfl (Or.inl rfl) (a_u b_T (a_u a_S (a_u a_U (a_u a_1 (a_r a_P (pv 0) (a_u b_H a_g (pv 2)) (λ_ _=>rfl)) a_g) (a_u b_H a_g (pv 2))) a_g) a_g))
   (a_c (a_w (i:=5) b_i.nd rfl (Or.inl rfl) (a_r a_P (pv 0) (a_u a_U (a_u b_H a_g (pv 2)) a_g) (λ_ _=>rfl)))
   (a_f (a_C (a_l e_Z (pv 3) a_g (a_q _)) (a_f (a_z (b_y s_G s_I s_H a_N (pv 1) (a_a (a_j GCh v rfl gCh.mg gCh.kp gCh.b .nil a_v (a_a (pv 3) (a_a (pv 4) (a_a (pv 5) a_d)))) a_d)))) (a_f (a_C (a_l e_Z (pv 3) a_g (a_q _)) (a_f (a_z (b_y s_G s_I s_H a_N (pv 1) (a_a (a_j GQu I rfl gQu.mg gQu.kp gQu.b .nil a_v (a_a (a_u b_T (pv 3) a_g) (a_a (pv 4) (a_a (pv 5) a_d)))) a_d)))) (a_f (a_C (a_l e_Z (pv 3) a_g (a_q _)) (a_c (a_w (i:=6) b_i.nd rfl (Or.inl rfl) (a_O (a_a a_k (a_a a_k (a_a a_k (a_a a_k a_d))))))
   (a_f (a_z (b_y s_G s_I s_H a_N (pv 1) (a_a (a_G (a_a (a_r a_P (pv 6) (a_u b_T (pv 3) a_g) (λ_ _=>rfl)) a_d)) a_d))))) (a_c (a_w (i:=7) b_i.nd rfl (Or.inl rfl) (a_O a_d))
   (a_c (b_0 PassesOwn.never rfl (c_d rfl B.range (a_a a_g a_d)) (a_9 (i:=8) b_i.nd rfl (Or.inl rfl))
   (a_c (a_w (i:=9) b_i.nd rfl (Or.inl rfl) (a_u a_S (a_u a_U (pv 4) (a_u b_H a_g (pv 8))) a_g))
   (a_f (a_z (b_y s_G s_I s_H a_N (pv 7) (a_a (a_j GCh v rfl gCh.mg gCh.kp gCh.b .nil a_v (a_a (a_u a_U (pv 5) (pv 8)) (a_a (pv 9) (a_a (a_u a_U (pv 5) (a_u b_H a_g (pv 8))) a_d)))) a_d))))))
   (a_f (a_z (b_y s_G s_I s_H a_N (pv 1) (a_a (a_G (a_a a_k (a_a (pv 7) a_d))) a_d))))))))))))))))
   (a_f (a_n (pv 1))))),?_⟩
  refine⟨by show 0<=sizeLine;decide,λl hl=> ?_⟩;have s1:Same H (upd H l (.lst [])):=Same.upd_new hl;have a7:(((ns.map V.int).length:Nat):Int) / 2 < 32:=by rw[r_W];omega
  have z:0<=(((ns.map V.int).length:Nat):Int) / 2:=by rw[r_W];omega
  refine⟨_,rfl,a,_,rfl,.inl (s1.seq hS),_,_,rfl,rfl,⟨by decide,by decide⟩,_,rfl,by omega,by omega,c_k (lo:=0) (n:=((((ns.map V.int).length:Nat):Int) / 2).toNat) (λi σ Hx=>∃(ds:List Deed) (v2 v3 v4 v5 v6 v7 v8 v9:Option V),σ= [some (.ref a),some (.ref l),v2,v3,v4,v5,v6,v7,v8,v9]/\Same H Hx/\LD Hx l ds/\Oks i ds) ⟨[],none,none,none,none,none,none,none,none,rfl,s1,⟨[],a_b,.nil⟩,by simp[Oks]⟩ ?_ ?_⟩
  ·rintro i σ Hx hi ⟨ds,v2,v3,v4,v5,v6,v7,v8,v9,rfl,sx,⟨as,g,hP⟩,ho⟩
   have a5:2 * i+1 < ns.length:=by rw[r_W] at hi;omega
   have Z:i < 32:=by omega
   have a8:=Paired.length hP;have a6:=ho.1
   have m:(as.map V.ref).length < sizeLine:=by
    rw[r_W];exact a_F (by omega)
   have a1:atI (ns.map V.int) (2 * (0+(i:Int)))=some (.int (ns.getD (2 * i) 0)):=j_G (j:=2 * i) (by omega) (by omega);have a2:atI (ns.map V.int) (2 * (0+(i:Int))+1)=some (.int (ns.getD (2 * i+1) 0)):=j_G (j:=2 * i+1) (by omega) (by omega);refine⟨_,rfl,_,rfl,_,_,rfl,rfl,.inl ⟨by decide,by decide⟩,a,_,_,_,rfl,rfl,sx.seq hS,a1,_,rfl,_,_,rfl,rfl,.inl ⟨by decide,by decide⟩,_,_,rfl,rfl,_,_,rfl,rfl,(show (0:Int) < 16 by decide),?_⟩;refine⟨_,rfl,_,rfl,_,_,rfl,rfl,.inl ⟨by decide,by decide⟩,a,_,_,_,rfl,rfl,sx.seq hS,a1,_,_,rfl,rfl,⟨by decide,by decide⟩,_,rfl,_,_,rfl,rfl,.inl ⟨by decide,by decide⟩,_,_,rfl,rfl,_,_,rfl,rfl,(show (0:Int) < 27 by decide),_,_,rfl,rfl,?_⟩;refine⟨_,rfl,_,rfl,_,_,rfl,rfl,.inl ⟨by decide,by decide⟩,_,_,rfl,rfl,a,_,_,_,rfl,rfl,sx.seq hS,a2,?_⟩;dsimp only;generalize a0:(ns.getD (2 * i) 0+3 * (0+(i:Int))) % 16=way;generalize W:(ns.getD (2 * i) 0 / 16+5 * (0+(i:Int))) % 27 - 1=number;generalize Y:ns.getD (2 * i+1) 0=cell;have a3: -1<=number/\number<=25:=by omega
   have done:∀(t:Addr) (d:Deed) (H2:Hp),DNew Hx H2 t d->Same H (upd H2 l (.lst (as.map V.ref++ [V.ref t])))/\LD (upd H2 l (.lst (as.map V.ref++ [V.ref t]))) l (ds++ [d])/\Oks (i+1) (ds++ [d]):=λt d H2 N=>
    ⟨(Mov.upd (N.same _ _ g)).same (sx.trans N.same) λb hb=>by rw[r_1.mp hb];exact hl,LD.grow (N.same _ _ g) (d_b N.same hP) (N.by g),ho.snoc ⟨N.form,N.short⟩⟩
   refine⟨_,rfl,_,_,rfl,rfl,_,rfl,?_⟩;refine a_y (λ_=> ?_) (λ_=> ?_)
   ·refine⟨_,rfl,.inl ⟨rfl,_,SqL.of g⟩,_,rfl,_,rfl,_,rfl,_,_,_,rfl,by omega,by omega,λt ch H2 h0 s2 hc hs=> ?_⟩
    have N:=DNew.of_chg h0 s2 hc hs;obtain⟨d1,d2,d3⟩:=done t _ H2 N;exact⟨l,_,_,rfl,rfl,s2 _ _ g,m,_,_,_,_,_,_,_,_,_,rfl,d1,d2,d3⟩
   refine⟨_,rfl,_,_,rfl,rfl,_,rfl,?_⟩;refine a_y (λ_=> ?_) (λS=> ?_)
   ·refine⟨_,rfl,.inl ⟨rfl,_,SqL.of g⟩,_,rfl,_,_,rfl,rfl,_,rfl,_,rfl,_,_,_,rfl,by omega,by omega,λt d H2 N _=> ?_⟩
    obtain⟨d1,d2,d3⟩:=done t _ H2 N;exact⟨l,_,_,rfl,rfl,N.same _ _ g,m,_,_,_,_,_,_,_,_,_,rfl,d1,d2,d3⟩
   refine⟨_,rfl,_,_,rfl,rfl,_,rfl,?_⟩;refine a_y (λG=> ?_) (λ_=> ?_)
   ·have R:11≤way:=by
     have:¬ way < 11:=λq=>S (s_C q);omega
    obtain⟨x,d,hx,J,hd,U,T⟩:=l_l R (s_E G);refine⟨by show 4<=sizeLine;decide,λn1 z=> ?_⟩;have s2:=Same.upd_new (o:= .lst [V.str "begin",V.str "keep",V.str "break",V.str "begin"]) z;have C:=s2 _ _ g;refine⟨_,rfl,.inl ⟨rfl,_,SqL.of C⟩,_,rfl,_,rfl,_,_,rfl,rfl,n1,_,_,_,rfl,rfl,SqL.of a_b,hx,by show 1<=sizeLine;decide,λt ht=> ?_⟩;have s3:=Same.upd_new (o:= .tup [.str x]) ht;have N:DNew Hx _ t d:=⟨s2.free ht,s2.trans s3,hd _ _ a_b,U,T,b_d a_b J⟩;obtain⟨d1,d2,d3⟩:=done t _ _ N;exact⟨l,_,_,rfl,rfl,s3 _ _ C,m,_,_,_,_,_,_,_,_,_,rfl,d1,d2,d3⟩
   refine⟨by show 0<=sizeLine;decide,λsm u=> ?_⟩;have s2:=Same.upd_new (o:= .lst []) u
   refine⟨3,rfl,by decide,by decide,c_k (lo:=0) (n:=3) (λj σ Hy=>∃(cs:List Chg) (bs:List Addr) (v6 v8 v9:Option V),σ= [some (.ref a),some (.ref l),some (.int (0+(i:Int))),some (.int way),some (.int number),some (.int cell),v6,some (.ref sm),v8,v9]/\Same Hx Hy/\Hy sm=some (.lst (bs.map V.ref))/\Paired (ChgAt Hy) bs cs/\cs.length<=j/\∀c∈cs,c.short)
    ⟨[], [],_,_,_,rfl,s2,a_b,.nil,by simp,by simp⟩ ?_ ?_⟩
   ·rintro j σ Hy hj ⟨cs,bs,w6,w8,w9,rfl,sy,k,hC,L,r⟩
    have a4:=Paired.length hC;have M:(bs.map V.ref).length < sizeLine:=by rw[r_W];exact a_F (by omega)
    refine⟨_,rfl,_,rfl,_,_,rfl,rfl,.inl ⟨by decide,by decide⟩,_,_,rfl,rfl,_,_,rfl,rfl,(show (0:Int) < 26 by decide),?_⟩;refine⟨_,rfl,.inl ⟨rfl,_,SqL.of k⟩,_,rfl,_,rfl,_,_,rfl,rfl,_,rfl,_,rfl,_,rfl,_,_,rfl,rfl,.inl ⟨by decide,by decide⟩,_,_,rfl,rfl,_,_,_,rfl,by omega,by omega,λt ch H2 h0 s3 hc hs=> ?_⟩;have p:=s3 _ _ k;refine⟨sm,_,_,rfl,rfl,p,M,cs++ [ch],bs++ [t],_,_,_,rfl,(Mov.upd p).same (sy.trans s3) λb hb=>(by rw[r_1.mp hb];exact u),by rw[r_4];exact a_b,?_, by simp;omega,λc O=> ?_⟩
    ·exact b_c (NoTup.keep (NoTup.lst p)) (a_D (b_c (λb xs q=>s3 _ _ q) hC) (.cons hc .nil))
    ·rcases s_e.mp O with q | q
     ·exact r c q
     ·rw[r_1.mp q];exact hs
   ·rintro σ Hy ⟨cs,bs,w6,w8,w9,rfl,sy,k,hC,L,r⟩
    have y:=sy _ _ g;refine⟨_,rfl,.inl ⟨rfl,_,SqL.of y⟩,_,rfl,by show 2<=sizeLine;decide,λt ht=> ?_⟩;have s3:=Same.upd_new (o:= .tup [.str "all",.ref sm]) ht
    have N:DNew Hx (upd Hy t (.tup [.str "all",.ref sm])) t (.all cs):=⟨sy.free ht,sy.trans s3,⟨sm,bs,a_b,s3 _ _ k,b_c (λb xs q=>s3 _ _ q) hC⟩,(show cs.length<=24 by omega),r,λl' e=>by
     rw[a_b] at e;injection e with e
     injection e with e
     injection e with _ e
     injection e with e _
     injection e with e
     rw[<-e];exact u⟩
    obtain⟨d1,d2,d3⟩:=done t _ _ N;exact⟨l,_,_,rfl,rfl,s3 _ _ y,m,_,_,_,_,_,_,_,_,_,rfl,d1,d2,d3⟩
  ·rintro σ Hx ⟨ds,v2,v3,v4,v5,v6,v7,v8,v9,rfl,sx,hL,ho⟩
   exact⟨_,rfl,fin l ds Hx hl sx hL ⟨by have:=ho.1;omega,ho.2⟩⟩
end
def Deed.word:Deed->Str
 | .chg (.bring _)=>"bring"
 | .chg (.alter _)=>"alter"
 | .chg (.cut _)=>"cut"
 | .all _=>"all"
 | .begin=>"begin"
 | .keep=>"keep"
 | .brk=>"break"
 | .row _=>"row"
 | .within .. =>"within"
 | .both .. =>"both"
 | .from .. =>"from"
 | .spot .. =>"spot"
theorem DeedAt.word {H:Hp} {a:Addr} {d:Deed} (h:DeedAt H a d):∃r,H a=some (.tup (.str (Deed.word d)::r)):=by
 cases d with
 | chg c=>cases c with
   | bring ρ=>obtain⟨r,h1,_⟩:=h;exact⟨_,h1⟩
   | alter ρ=>obtain⟨r,h1,_⟩:=h;exact⟨_,h1⟩
   | cut n=>exact⟨_,h⟩
 | all cs=>obtain⟨l,as,h1,_⟩:=h;exact⟨_,h1⟩
 | _=>exact⟨_,h⟩
theorem l_6 {d:Deed} (h:Deed.word d="all"):∃cs,d= .all cs:=by
 cases d with
 | all cs=>exact⟨cs,rfl⟩
 | chg c=>cases c <;> exact absurd h (by dsimp only[Deed.word];decide+kernel)
 | _=>exact absurd h (by dsimp only[Deed.word];decide+kernel)
section
variable {P:Program} {w:World} {K:PySem.W.Frag} {mg:Str->Option Value} {base:Heap}
def h_1:Sp:=λvs H Q _=>∃c,vs= [.int c]/\∀i H',Same H H'->Q (.int i) H'
theorem o_h (a b c d e f z:Int):∃v:Int,atI [V.int a,V.int b,V.int c,V.int d,V.int e,V.int f] (z % 6)=some (.int v):=by
 rcases (show z % 6=0\/z % 6=1\/z % 6=2\/z % 6=3\/z % 6=4\/z % 6=5 by omega) with e | e | e | e | e | e <;> rw[e]
 ·exact⟨_,a_e (j:=0) rfl⟩
 ·exact⟨_,a_e (j:=1) rfl⟩
 ·exact⟨_,a_e (j:=2) rfl⟩
 ·exact⟨_,a_e (j:=3) rfl⟩
 ·exact⟨_,a_e (j:=4) rfl⟩
 ·exact⟨_,a_e (j:=5) rfl⟩
theorem l_E:a_s ["_law_cell"] ["_law_cell"] (a_m h_t):=⟨rfl,rfl,rfl,by decide+kernel,rfl,by decide+kernel,by decide+kernel⟩
theorem j_2 {f:Addr} {fd:FuncData} (F:Fun K "_law_room_of" "_law_room_of" h_t f fd):FnOk P w K mg base CX0 1 f fd ["_law_cell"] h_1:=by
 refine F.ok l_E (λvs H Q E h=> ?_) (λcdv A outer s H vs Q E hr h=> ?_)
 ·obtain⟨c,rfl,_⟩:=h
  rfl
 ·obtain⟨c,rfl,fin⟩:=h
  refine⟨_,(a_f (a_n (a_r a_P (a_O (a_a a_g (a_a a_g (a_a a_g (a_a a_g (a_a (a_u a_U a_g (a_u a_S (a_u a_1 (pv 0) a_g) a_g)) (a_a (a_u a_S (pv 0) (a_u h_J a_g a_g)) a_d))))))) (a_u a_S (pv 0) a_g) (λ_ _=>rfl)))),?_⟩;obtain⟨v,hv⟩:=o_h 40 12 26 1000000000000 (13+c / 6 % 60) (c % 10 ^ (30:Int).toNat) c;refine⟨_,rfl,_,_,rfl,rfl,⟨by decide,by decide⟩,_,_,rfl,rfl,(show (0:Int) < 60 by decide),_,_,rfl,rfl,_,rfl,_,_,rfl,rfl,⟨by decide,by decide,by decide⟩,_,_,rfl,rfl,(show (0:Int) < 10 ^ 30 by decide),by show 6<=sizeLine;decide,λl hl=> ?_⟩;exact⟨_,rfl,_,_,rfl,rfl,(show (0:Int) < 6 by decide),l,_,_,_,rfl,rfl,SqL.of a_b,hv,fin v _ (Same.upd_new hl)⟩
def i_j:Sp:=λvs H Q _=>∃(l:Addr) (ds:List Deed),vs= [.ref l]/\n_9 H l ds/\ds.length<=900/\∀(m:Addr) (H':Hp),H m=none->Same H H'->LD H' m ds->Q (.ref m) H'
theorem f_W:a_s ["_law_deeds","_law_made","_law_deed"] ["_law_deeds"] (a_m g_Z):=⟨rfl,rfl,rfl,by decide+kernel,rfl,by decide+kernel,by decide+kernel⟩
theorem j_l {f:Addr} {fd:FuncData} (F:Fun K "_law_copied" "_law_copied" g_Z f fd) (B:Bt mg):FnOk P w K mg base CX0 1 f fd ["_law_deeds"] i_j:=by
 refine F.ok f_W (λvs H Q E h=> ?_) (λcdv A outer s H vs Q E hr h=> ?_)
 ·obtain⟨l,ds,rfl,_⟩:=h
  rfl
 ·obtain⟨l,ds,rfl,⟨as,hl,hP⟩,hn,fin⟩:=h
  have z:=Paired.length hP
  refine⟨_,(a_c (a_w (i:=1) f_W.nd rfl (Or.inl rfl) (a_O a_d))
   (a_c (b_0 PassesOwn.never rfl (b_e (pv 0)) (a_9 (i:=2) f_W.nd rfl (Or.inl rfl))
   (a_f (a_C (a_l a_I (a_r a_o (pv 2) a_g (λ_ _=>rfl)) a_k (a_q _)) (a_f (a_z (b_y s_G s_I s_H a_N (pv 1) (a_a (a_G (a_a (a_r a_o (pv 2) a_g (λ_ _=>rfl)) (a_a (b_F g_N (by rfl) B.list e_v (a_a (a_r a_o (pv 2) a_g (λ_ _=>rfl)) a_d)) a_d))) a_d)))) (a_f (a_z (b_y s_G s_I s_H a_N (pv 1) (a_a (pv 2) a_d)))))))
   (a_f (a_n (pv 1))))),?_⟩
  refine⟨by show 0<=sizeLine;decide,λm hm=> ?_⟩;have s1:Same H (upd H m (.lst [])):=Same.upd_new hm;refine⟨_,rfl,l,rfl,⟨_,SqL.of (s1 _ _ hl)⟩,b_X (K:=K) (a:=l) (xs:=as.map V.ref) (λi σ Hx=>∃(v:Option V),σ= [some (.ref l),some (.ref m),v]/\Same H Hx/\LD Hx m (ds.take i)) ⟨none,rfl,s1, [],a_b,.nil⟩ (λi σ Hx _ ⟨_,_,sx,_⟩=>SqL.of (sx _ _ hl)) ?_ ?_⟩
  ·rintro i x σ Hx hi ⟨v,rfl,sx,bs,hb,hB⟩
   rw[r_8] at hi;cases e:as[i]? with
   | none=>rw[e] at hi;cases hi
   | some a=>
     rw[e] at hi;obtain rfl:V.ref a=x:=r_3 hi;have I:=(s_a.mp e).1;obtain⟨d,hd⟩:∃d,ds[i]? =some d:=⟨_,r_X (by omega)⟩;obtain⟨a',e',C⟩:=a_T hP hd;rw[e] at e';obtain rfl:a=a':=r_3 e';have k:=DeedAt.same sx C;obtain⟨r,hw⟩:=DeedAt.word k;have y:=Paired.length hB;rw[s_i] at y;have u:(bs.map V.ref).length < sizeLine:=by rw[r_W];exact a_F (by omega)
     have et:ds.take (i+1)=ds.take i++ [d]:=by rw[s_n,hd];rfl
     refine⟨_,rfl,a,_,_,_,rfl,rfl,SqT.of hw,a_e (j:=0) rfl,rfl,_,rfl,?_⟩;refine a_y (λq=> ?_) (λq=> ?_)
     ·obtain⟨cs,rfl⟩:=l_6 (by have:=s_E q;injection this)
      obtain⟨la,cas,h1,h2,h3⟩:=k;rw[h1] at hw;refine⟨_,rfl,.inl ⟨rfl,_,SqL.of hb⟩,_,rfl,a,_,_,_,rfl,rfl,SqT.of h1,a_e (j:=0) rfl,_,rfl,a,_,_,_,rfl,rfl,SqT.of h1,a_e (j:=1) rfl,la,_,rfl,.inl (SqL.of h2),λlc p=>⟨by show 2<=sizeLine;decide,λt ht=> ?_⟩⟩;have s2:=Same.upd_new (o:= .lst (cas.map V.ref)) p;have s3:=Same.upd_new (o:= .tup [.str "all",.ref lc]) ht;have c:=s2.trans s3;have g:=c _ _ hb;have G:lc≠m:=(a_h hb p).symm;refine⟨m,_,_,rfl,rfl,g,u,_,rfl,(Mov.upd g).same (sx.trans c) λb' n=>(by rw[r_1.mp n];exact hm),?_⟩;rw[et];refine LD.grow g (d_b c hB) ⟨⟨lc,cas,a_b,s3 _ _ a_b,b_c (λb xs q=>c _ _ q) h3⟩,λl' e=> ?_⟩;rw[a_b] at e;injection e with e
      injection e with e
      injection e with _ e
      injection e with e _
      injection e with e
      rw[<-e];exact G
     ·refine⟨_,rfl,.inl ⟨rfl,_,SqL.of hb⟩,_,rfl,m,_,_,rfl,rfl,hb,u,_,rfl,(Mov.upd hb).same sx λb' n=>(by rw[r_1.mp n];exact hm),?_⟩
      rw[et];refine LD.grow hb hB ⟨k,λl' e=> ?_⟩;rw[hw] at e;injection e with e
      injection e with e
      injection e with e _
      exact absurd (s_C e) q
  ·rintro σ Hx ⟨v,rfl,sx,hL⟩
   rw[r_W,z,s_g (r_5 _)] at hL;exact⟨_,rfl,fin m Hx hm sx hL⟩
theorem b_m:a_s ["_law_deed","_law_seed","_law_word","_law_low"] ["_law_deed","_law_seed"] (a_m b_8):=⟨rfl,rfl,rfl,by decide+kernel,rfl,by decide+kernel,by decide+kernel⟩
def r_a:Sp:=λ_ _ _ _=>False
theorem p_6 {f:Addr} {fd:FuncData} {k:Nat} (F:Fun K "_law_moved" "_law_moved" b_8 f fd):FnOk P w K mg base CX0 (k+1) f fd ["_law_deed","_law_seed"] r_a:=
 F.ok b_m (λvs H Q E h=>h.elim) (λcdv A outer s H vs Q E hr h=>h.elim)
def o_8:Sp:=λvs H Q _=>∃(a:Addr) (c:Chg) (sd:Int),vs= [.ref a,.int sd]/\ChgAt H a c/\c.short/\∀(b:Addr) (c':Chg) (H':Hp),H b=none->Same H H'->ChgAt H' b c'->c'.tell sd->Q (.ref b) H'
theorem o_Y {f fRa fRk fSg fRm:Addr} {fd fdRa fdRk fdSg fdRm:FuncData} (F:Fun K "_law_moved" "_law_moved" b_8 f fd) (gMv:Gf K mg "_law_moved" f fd ["_law_deed","_law_seed"])
 (gRa:Gf K mg "_law_raised" fRa fdRa ["_law_number","_law_seed"]) (GRa:FnOk P w K mg base CX0 2 fRa fdRa ["_law_number","_law_seed"] d_4) (gRk:Gf K mg "_law_ranked" fRk fdRk ["_law_rank","_law_seed"]) (GRk:FnOk P w K mg base CX0 2 fRk fdRk ["_law_rank","_law_seed"] d_0)
 (gSg:Gf K mg "_law_signed" fSg fdSg ["_law_letters","_law_seed"]) (GSg:FnOk P w K mg base CX0 1 fSg fdSg ["_law_letters","_law_seed"] d_3) (gRm:Gf K mg "_law_row_moved" fRm fdRm ["_law_row","_law_seed"]) (GRm:FnOk P w K mg base CX0 3 fRm fdRm ["_law_row","_law_seed"] h_j):
 FnOk P w K mg base CX0 5 f fd ["_law_deed","_law_seed"] o_8:=by
 have GMv:FnOk P w K mg base CX0 4 f fd ["_law_deed","_law_seed"] r_a:=p_6 F;refine F.ok b_m (λvs H Q E h=> ?_) (λcdv A outer s H vs Q E hr h=> ?_)
 ·obtain⟨a,c,sd,rfl,_⟩:=h
  rfl
 ·obtain⟨a,c,sd,rfl,hc,hs,fin⟩:=h
  have e:Room 1 _:=hr.mono (by decide);have d:Room 2 _:=hr.mono (by decide);have k:Room 3 _:=hr.mono (by decide);have g:Room 4 _:=hr.mono (by decide)
  refine⟨_,(a_c (a_w (i:=2) b_m.nd rfl (Or.inl rfl) (a_r a_o (pv 0) a_g (λ_ _=>rfl)))
   (a_c (a_C (PW.pt (c_G (a_l a_I (pv 2) a_k (a_q _)) (b_J (a_l a_I (pv 2) a_k (a_q _))))) (a_f (a_n (a_G (a_a (pv 2) (a_a (a_j GRm k rfl gRm.mg gRm.kp gRm.b .nil a_v (a_a (a_r a_o (pv 0) a_g (λ_ _=>rfl)) (a_a (pv 1) a_d))) a_d))))) a_p)
   (a_c (a_C (PW.pt (c_G (a_l a_I (pv 2) a_k (a_q _)) (b_J (a_l a_I (pv 2) a_k (a_q _))))) (a_f (a_n (a_G (a_a (pv 2) (a_a (a_j GRa d rfl gRa.mg gRa.kp gRa.b .nil a_v (a_a (a_r a_o (pv 0) a_g (λ_ _=>rfl)) (a_a (pv 1) a_d))) a_d))))) a_p)
   (a_c (a_C (a_l a_I (pv 2) a_k (a_q _)) (a_f (a_n (a_G (a_a (pv 2) (a_a (c_w (x:="_law_one") (fns:= ["_law_seed"]) (js:= [1]) rfl ⟨rfl,by decide+kernel,by decide+kernel,rfl,by decide+kernel,by decide+kernel,rfl,by simp[Env.kindOf];exact rfl,rfl,by decide+kernel⟩ (b_e (a_r a_o (pv 0) a_g (λ_ _=>rfl))) (λ_ _ _ _=>b_K) (λ_ _ _ _=>(a_j GMv g rfl gMv.mg gMv.kp gMv.b .nil a_v (a_a (pv 0) (a_a (pv 1) a_d))))) a_d))))) a_p)
   (a_c (a_C (a_l a_I (pv 2) a_k (a_q _)) (a_f (a_n (a_G (a_a (pv 2) (a_a (a_r a_o (pv 0) a_g (λ_ _=>rfl)) (a_a (a_j GRa d rfl gRa.mg gRa.kp gRa.b .nil a_v (a_a (a_r a_o (pv 0) a_g (λ_ _=>rfl)) (a_a (pv 1) a_d))) a_d)))))) a_p)
   (a_c (a_C (PW.pt (e_Q (a_l a_I (pv 2) a_k (a_q _)) (c_4 (a_l a_I (a_r a_o (pv 0) a_g (λ_ _=>rfl)) a_k (a_q _))))) (a_f (a_n (a_G (a_a (pv 2) (a_a (a_r a_o (pv 0) a_g (λ_ _=>rfl)) (a_a (a_j GSg e rfl gSg.mg gSg.kp gSg.b .nil a_v (a_a (a_r a_o (pv 0) a_g (λ_ _=>rfl)) (a_a (pv 1) a_d))) (a_a (a_j GSg e rfl gSg.mg gSg.kp gSg.b .nil a_v (a_a (a_r a_o (pv 0) a_g (λ_ _=>rfl)) (a_a (pv 1) a_d))) a_d))))))) a_p)
   (a_c (a_C (a_l a_I (pv 2) a_k (a_q _)) (a_f (a_n (a_G (a_a (pv 2) (a_a (a_r a_o (pv 0) a_g (λ_ _=>rfl)) (a_a (a_j GRk d rfl gRk.mg gRk.kp gRk.b .nil a_v (a_a (a_r a_o (pv 0) a_g (λ_ _=>rfl)) (a_a (pv 1) a_d))) (a_a (a_j GRk d rfl gRk.mg gRk.kp gRk.b .nil a_v (a_a (a_r a_o (pv 0) a_g (λ_ _=>rfl)) (a_a (pv 1) a_d))) a_d))))))) a_p)
   (a_c (a_C (a_l a_I (pv 2) a_k (a_q _)) (a_c (a_w (i:=3) b_m.nd rfl (Or.inl rfl) (a_j GRk d rfl gRk.mg gRk.kp gRk.b .nil a_v (a_a (a_r a_o (pv 0) a_g (λ_ _=>rfl)) (a_a (pv 1) a_d))))
   (a_f (a_n (a_G (a_a (pv 2) (a_a (pv 3) (a_a (a_j GRk d rfl gRk.mg gRk.kp gRk.b .nil a_v (a_a (a_r a_o (pv 0) a_g (λ_ _=>rfl)) (a_a (pv 1) a_d))) (a_a (a_j GSg e rfl gSg.mg gSg.kp gSg.b .nil a_v (a_a (a_r a_o (pv 0) a_g (λ_ _=>rfl)) (a_a (pv 1) a_d))) a_d)))))))) a_p)
   (a_f (a_n (pv 0))))))))))),?_⟩
  have body:True:=trivial;cases c with
  | bring ρ=>
    obtain⟨r,h1,hρ⟩:=hc;refine⟨_,rfl,a,_,_,_,rfl,rfl,SqT.of h1,a_e (j:=0) rfl,?_⟩;refine⟨_,rfl,rfl,_,rfl,a_y (λ_=>k_X ?_) (λq=>absurd (s_C rfl) q)⟩;refine⟨_,rfl,_,rfl,a,_,_,_,rfl,rfl,SqT.of h1,a_e (j:=1) rfl,_,rfl,r,ρ,sd,rfl,hρ,hs.1,λb ρ' H2 hb s2 hρ' en=>⟨by show 2<=sizeLine;decide,λt ht=> ?_⟩⟩;exact fin t (.bring ρ') _ (s2.free ht) (s2.trans (Same.upd_new ht)) ⟨b,a_b,Same.upd_new ht _ _ hρ'⟩ (show ρ'.n∈ML sd by rw[en];exact i_N hs.2)
  | alter ρ=>
    obtain⟨r,h1,hρ⟩:=hc;refine⟨_,rfl,a,_,_,_,rfl,rfl,SqT.of h1,a_e (j:=0) rfl,?_⟩;refine⟨_,rfl,rfl,_,rfl,a_y (λq=>absurd q (by decide+kernel)) (λ_=> ?_)⟩;refine⟨_,rfl,rfl,_,rfl,a_y (λ_=> ?_) (λq=>absurd (s_C rfl) q)⟩;refine⟨_,rfl,_,rfl,a,_,_,_,rfl,rfl,SqT.of h1,a_e (j:=1) rfl,_,rfl,r,ρ,sd,rfl,hρ,hs.1,λb ρ' H2 hb s2 hρ' en=>⟨by show 2<=sizeLine;decide,λt ht=> ?_⟩⟩;exact fin t (.alter ρ') _ (s2.free ht) (s2.trans (Same.upd_new ht)) ⟨b,a_b,Same.upd_new ht _ _ hρ'⟩ (show ρ'.n∈ML sd by rw[en];exact i_N hs.2)
  | cut n=>
    refine⟨_,rfl,a,_,_,_,rfl,rfl,SqT.of hc,a_e (j:=0) rfl,?_⟩;refine⟨_,rfl,rfl,_,rfl,a_y (λq=>absurd q (by decide+kernel)) (λ_=> ?_)⟩;refine⟨_,rfl,rfl,_,rfl,a_y (λq=>absurd q (by decide+kernel)) (λ_=> ?_)⟩;refine⟨_,rfl,rfl,_,rfl,a_y (λ_=>k_X ?_) (λq=>absurd (s_C rfl) q)⟩;refine⟨_,rfl,_,rfl,a,_,_,_,rfl,rfl,SqT.of hc,a_e (j:=1) rfl,_,rfl,n,sd,rfl,by show 2<=sizeLine;decide,λt ht=> ?_⟩;exact fin t (.cut (b_x n sd)) _ ht (Same.upd_new ht) a_b (i_N hs)
def r_k:Sp:=λvs H Q _=>∃(a:Addr) (d:Deed) (sd:Int),vs= [.ref a,.int sd]/\DeedAt H a d/\d.form/\d.short/\∀(b:Addr) (d':Deed) (H':Hp),Same H H'->DeedAt H' b d'->d'.form->d'.tell sd->(∀l',H' b=some (.tup [.str "all",.ref l'])->H l'=none)->(d.asks->d'.asks)->Q (.ref b) H'
theorem p_4 {f fRa fRk fSg fRm:Addr} {fd fdRa fdRk fdSg fdRm:FuncData} (F:Fun K "_law_moved" "_law_moved" b_8 f fd) (gMv:Gf K mg "_law_moved" f fd ["_law_deed","_law_seed"])
 (gRa:Gf K mg "_law_raised" fRa fdRa ["_law_number","_law_seed"]) (GRa:FnOk P w K mg base CX0 2 fRa fdRa ["_law_number","_law_seed"] d_4) (gRk:Gf K mg "_law_ranked" fRk fdRk ["_law_rank","_law_seed"]) (GRk:FnOk P w K mg base CX0 2 fRk fdRk ["_law_rank","_law_seed"] d_0)
 (gSg:Gf K mg "_law_signed" fSg fdSg ["_law_letters","_law_seed"]) (GSg:FnOk P w K mg base CX0 1 fSg fdSg ["_law_letters","_law_seed"] d_3) (gRm:Gf K mg "_law_row_moved" fRm fdRm ["_law_row","_law_seed"]) (GRm:FnOk P w K mg base CX0 3 fRm fdRm ["_law_row","_law_seed"] h_j):
 FnOk P w K mg base CX0 6 f fd ["_law_deed","_law_seed"] r_k:=by
 have GMv:FnOk P w K mg base CX0 5 f fd ["_law_deed","_law_seed"] o_8:=o_Y F gMv gRa GRa gRk GRk gSg GSg gRm GRm;refine F.ok b_m (λvs H Q E h=> ?_) (λcdv A outer s H vs Q E hr h=> ?_)
 ·obtain⟨a,d,sd,rfl,_⟩:=h
  rfl
 ·obtain⟨a,d,sd,rfl,hd,hf,hs,fin⟩:=h
  have z:Room 1 _:=hr.mono (by decide);have p:Room 2 _:=hr.mono (by decide);have J:Room 3 _:=hr.mono (by decide);have R:Room 5 _:=hr
  refine⟨_,(a_c (a_w (i:=2) b_m.nd rfl (Or.inl rfl) (a_r a_o (pv 0) a_g (λ_ _=>rfl)))
   (a_c (a_C (PW.pt (c_G (a_l a_I (pv 2) a_k (a_q _)) (b_J (a_l a_I (pv 2) a_k (a_q _))))) (a_f (a_n (a_G (a_a (pv 2) (a_a (a_j GRm J rfl gRm.mg gRm.kp gRm.b .nil a_v (a_a (a_r a_o (pv 0) a_g (λ_ _=>rfl)) (a_a (pv 1) a_d))) a_d))))) a_p)
   (a_c (a_C (PW.pt (c_G (a_l a_I (pv 2) a_k (a_q _)) (b_J (a_l a_I (pv 2) a_k (a_q _))))) (a_f (a_n (a_G (a_a (pv 2) (a_a (a_j GRa p rfl gRa.mg gRa.kp gRa.b .nil a_v (a_a (a_r a_o (pv 0) a_g (λ_ _=>rfl)) (a_a (pv 1) a_d))) a_d))))) a_p)
   (a_c (a_C (a_l a_I (pv 2) a_k (a_q _)) (a_f (a_n (a_G (a_a (pv 2) (a_a (c_w (x:="_law_one") (fns:= ["_law_seed"]) (js:= [1]) rfl ⟨rfl,by decide+kernel,by decide+kernel,rfl,by decide+kernel,by decide+kernel,rfl,by simp[Env.kindOf];exact rfl,rfl,by decide+kernel⟩ (b_e (a_r a_o (pv 0) a_g (λ_ _=>rfl))) (λ_ _ _ _=>b_K) (λ_ _ _ _=>(a_j GMv R rfl gMv.mg gMv.kp gMv.b .nil a_v (a_a (pv 0) (a_a (pv 1) a_d))))) a_d))))) a_p)
   (a_c (a_C (a_l a_I (pv 2) a_k (a_q _)) (a_f (a_n (a_G (a_a (pv 2) (a_a (a_r a_o (pv 0) a_g (λ_ _=>rfl)) (a_a (a_j GRa p rfl gRa.mg gRa.kp gRa.b .nil a_v (a_a (a_r a_o (pv 0) a_g (λ_ _=>rfl)) (a_a (pv 1) a_d))) a_d)))))) a_p)
   (a_c (a_C (PW.pt (e_Q (a_l a_I (pv 2) a_k (a_q _)) (c_4 (a_l a_I (a_r a_o (pv 0) a_g (λ_ _=>rfl)) a_k (a_q _))))) (a_f (a_n (a_G (a_a (pv 2) (a_a (a_r a_o (pv 0) a_g (λ_ _=>rfl)) (a_a (a_j GSg z rfl gSg.mg gSg.kp gSg.b .nil a_v (a_a (a_r a_o (pv 0) a_g (λ_ _=>rfl)) (a_a (pv 1) a_d))) (a_a (a_j GSg z rfl gSg.mg gSg.kp gSg.b .nil a_v (a_a (a_r a_o (pv 0) a_g (λ_ _=>rfl)) (a_a (pv 1) a_d))) a_d))))))) a_p)
   (a_c (a_C (a_l a_I (pv 2) a_k (a_q _)) (a_f (a_n (a_G (a_a (pv 2) (a_a (a_r a_o (pv 0) a_g (λ_ _=>rfl)) (a_a (a_j GRk p rfl gRk.mg gRk.kp gRk.b .nil a_v (a_a (a_r a_o (pv 0) a_g (λ_ _=>rfl)) (a_a (pv 1) a_d))) (a_a (a_j GRk p rfl gRk.mg gRk.kp gRk.b .nil a_v (a_a (a_r a_o (pv 0) a_g (λ_ _=>rfl)) (a_a (pv 1) a_d))) a_d))))))) a_p)
   (a_c (a_C (a_l a_I (pv 2) a_k (a_q _)) (a_c (a_w (i:=3) b_m.nd rfl (Or.inl rfl) (a_j GRk p rfl gRk.mg gRk.kp gRk.b .nil a_v (a_a (a_r a_o (pv 0) a_g (λ_ _=>rfl)) (a_a (pv 1) a_d))))
   (a_f (a_n (a_G (a_a (pv 2) (a_a (pv 3) (a_a (a_j GRk p rfl gRk.mg gRk.kp gRk.b .nil a_v (a_a (a_r a_o (pv 0) a_g (λ_ _=>rfl)) (a_a (pv 1) a_d))) (a_a (a_j GSg z rfl gSg.mg gSg.kp gSg.b .nil a_v (a_a (a_r a_o (pv 0) a_g (λ_ _=>rfl)) (a_a (pv 1) a_d))) a_d)))))))) a_p)
   (a_f (a_n (pv 0))))))))))),?_⟩
  have No:∀{x y:Str},(x == y)=false->¬ decide (V.str x=V.str y)=true:=λh q=>by
   have:=s_E q;injection this with this
   rw[this] at h;simp at h
  cases d with
  | chg c=>
    cases c with
    | bring ρ=>
      obtain⟨r,h1,hρ⟩:=hd;refine⟨_,rfl,a,_,_,_,rfl,rfl,SqT.of h1,a_e (j:=0) rfl,?_⟩;refine⟨_,rfl,rfl,_,rfl,a_y (λ_=>k_X ?_) (λq=>absurd (s_C rfl) q)⟩;refine⟨_,rfl,_,rfl,a,_,_,_,rfl,rfl,SqT.of h1,a_e (j:=1) rfl,_,rfl,r,ρ,sd,rfl,hρ,hs.1,λb ρ' H2 hb s2 hρ' en=>⟨by show 2<=sizeLine;decide,λt ht=> ?_⟩⟩;exact fin t (.chg (.bring ρ')) _ (s2.trans (Same.upd_new ht)) ⟨b,a_b,Same.upd_new ht _ _ hρ'⟩ trivial (show ρ'.n∈ML sd by rw[en];exact i_N hs.2) (b_d a_b (by decide+kernel)) id
    | alter ρ=>
      obtain⟨r,h1,hρ⟩:=hd;refine⟨_,rfl,a,_,_,_,rfl,rfl,SqT.of h1,a_e (j:=0) rfl,?_⟩;refine⟨_,rfl,rfl,_,rfl,a_y (λq=>absurd q (by decide+kernel)) (λ_=> ?_)⟩;refine⟨_,rfl,rfl,_,rfl,a_y (λ_=> ?_) (λq=>absurd (s_C rfl) q)⟩;refine⟨_,rfl,_,rfl,a,_,_,_,rfl,rfl,SqT.of h1,a_e (j:=1) rfl,_,rfl,r,ρ,sd,rfl,hρ,hs.1,λb ρ' H2 hb s2 hρ' en=>⟨by show 2<=sizeLine;decide,λt ht=> ?_⟩⟩;exact fin t (.chg (.alter ρ')) _ (s2.trans (Same.upd_new ht)) ⟨b,a_b,Same.upd_new ht _ _ hρ'⟩ trivial (show ρ'.n∈ML sd by rw[en];exact i_N hs.2) (b_d a_b (by decide+kernel)) id
    | cut n=>
      refine⟨_,rfl,a,_,_,_,rfl,rfl,SqT.of hd,a_e (j:=0) rfl,?_⟩;refine⟨_,rfl,rfl,_,rfl,a_y (λq=>absurd q (by decide+kernel)) (λ_=> ?_)⟩;refine⟨_,rfl,rfl,_,rfl,a_y (λq=>absurd q (by decide+kernel)) (λ_=> ?_)⟩;refine⟨_,rfl,rfl,_,rfl,a_y (λ_=>k_X ?_) (λq=>absurd (s_C rfl) q)⟩;refine⟨_,rfl,_,rfl,a,_,_,_,rfl,rfl,SqT.of hd,a_e (j:=1) rfl,_,rfl,n,sd,rfl,by show 2<=sizeLine;decide,λt ht=> ?_⟩;exact fin t (.chg (.cut (b_x n sd))) _ (Same.upd_new ht) a_b trivial (i_N hs) (b_d a_b (by decide+kernel)) id
  | row n=>
    refine⟨_,rfl,a,_,_,_,rfl,rfl,SqT.of hd,a_e (j:=0) rfl,?_⟩;refine⟨_,rfl,rfl,_,rfl,a_y (λq=>absurd q (by decide+kernel)) (λ_=> ?_)⟩;refine⟨_,rfl,rfl,_,rfl,a_y (λq=>absurd q (by decide+kernel)) (λ_=> ?_)⟩;refine⟨_,rfl,rfl,_,rfl,a_y (λq=>absurd q (by decide+kernel)) (λ_=> ?_)⟩;refine⟨_,rfl,rfl,_,rfl,a_y (λ_=> ?_) (λq=>absurd (s_C rfl) q)⟩;refine⟨_,rfl,_,rfl,a,_,_,_,rfl,rfl,SqT.of hd,a_e (j:=1) rfl,_,rfl,n,sd,rfl,by show 2<=sizeLine;decide,λt ht=> ?_⟩;exact fin t (.row (b_x n sd)) _ (Same.upd_new ht) a_b trivial (c_Z hs) (b_d a_b (by decide+kernel)) id
  | all cs=>
    obtain⟨l,as,h1,h2,h3⟩:=hd;refine⟨_,rfl,a,_,_,_,rfl,rfl,SqT.of h1,a_e (j:=0) rfl,?_⟩;refine⟨_,rfl,rfl,_,rfl,a_y (λq=>absurd q (by decide+kernel)) (λ_=> ?_)⟩;refine⟨_,rfl,rfl,_,rfl,a_y (λq=>absurd q (by decide+kernel)) (λ_=> ?_)⟩;refine⟨_,rfl,rfl,_,rfl,a_y (λq=>absurd q (by decide+kernel)) (λ_=> ?_)⟩;refine⟨_,rfl,rfl,_,rfl,a_y (λq=>absurd q (by decide+kernel)) (λ_=> ?_)⟩;refine⟨_,rfl,rfl,_,rfl,a_y (λ_=> ?_) (λq=>absurd (s_C rfl) q)⟩;refine⟨_,rfl,_,rfl,a,_,_,_,rfl,rfl,SqT.of h1,a_e (j:=1) rfl,l,rfl,⟨_,SqL.of h2⟩,λL hL=> ?_⟩;have s1:=Same.upd_new (o:= .lst []) hL;have U:=Paired.length h3;refine c_I (K:=K) (xs:=as.map V.ref) (λi ys Hx=>Same H Hx/\∃(bs:List Addr) (cs':List Chg),ys=bs.map V.ref/\Paired (ChgAt Hx) bs cs'/\cs'.length=i/\∀c∈cs',c.tell sd) ⟨s1, [], [],rfl,.nil,rfl,by simp⟩ (λi ys Hx _ _ h=>SqL.of (h.1 _ _ h2)) ?_ ?_
    ·rintro i v ys Hx hi hD ⟨sx,bs,cs',rfl,hB,I,B⟩
     rw[r_8] at hi;cases e:as[i]? with
     | none=>rw[e] at hi;cases hi
     | some b=>
       rw[e] at hi;obtain rfl:V.ref b=v:=r_3 hi;have T:=(s_a.mp e).1;obtain⟨c,hc⟩:∃c,cs[i]? =some c:=⟨_,r_X (by omega)⟩;obtain⟨b',e',M⟩:=a_T h3 hc;rw[e] at e';obtain rfl:b=b':=r_3 e';have S:=Paired.length hB;have g:cs.length<=24:=hf;refine⟨_,rfl,_,rfl,b,c,sd,rfl,M.mono (λx xs q=>sx _ _ q),hs c (s_m hc),λt c' H2 ht s2 O N=> ?_⟩;have C:=s2 _ _ hD;refine⟨C,by rw[r_W];exact a_F (by omega),(Mov.upd C).same (sx.trans s2) (λx hx=>by rw[r_1.mp hx];exact hL),bs++ [t],cs'++ [c'],by rw[r_4];rfl,?_, by simp;omega,λc hc=> ?_⟩
       ·exact b_c (NoTup.keep (NoTup.lst C)) (a_D (b_c (λx xs q=>s2 _ _ q) hB) (.cons O .nil))
       ·rcases s_e.mp hc with q | q
        ·exact B c q
        ·rw[r_1.mp q];exact N
    ·rintro ys Hx hD ⟨sx,bs,cs',rfl,hB,I,B⟩
     refine⟨by show 2<=sizeLine;decide,λt ht=> ?_⟩;have s2:=Same.upd_new (o:= .tup [.str "all",.ref L]) ht;refine fin t (.all cs') _ (sx.trans s2) ⟨L,bs,a_b,s2 _ _ hD,b_c (λx xs q=>s2 _ _ q) hB⟩ ?_ B (λl' e=> ?_) id
     ·have g:cs.length<=24:=hf
      rw[r_W] at I;show cs'.length<=24;omega
     ·rw[a_b] at e
      injection e with e
      injection e with e
      injection e with _ e
      injection e with e _
      injection e with e
      rw[<-e];exact hL
  | spot x n=>
    refine⟨_,rfl,a,_,_,_,rfl,rfl,SqT.of hd,a_e (j:=0) rfl,?_⟩;refine⟨_,rfl,rfl,_,rfl,a_y (λq=>absurd q (by decide+kernel)) (λ_=> ?_)⟩;refine⟨_,rfl,rfl,_,rfl,a_y (λq=>absurd q (by decide+kernel)) (λ_=> ?_)⟩;refine⟨_,rfl,rfl,_,rfl,a_y (λq=>absurd q (by decide+kernel)) (λ_=> ?_)⟩;refine⟨_,rfl,rfl,_,rfl,a_y (λq=>absurd q (by decide+kernel)) (λ_=> ?_)⟩;refine⟨_,rfl,rfl,_,rfl,a_y (λq=>absurd q (by decide+kernel)) (λ_=> ?_)⟩;refine⟨_,rfl,rfl,_,rfl,a_y (λ_=> ?_) (λq=>absurd (s_C rfl) q)⟩;refine⟨_,rfl,_,rfl,a,_,_,_,rfl,rfl,SqT.of hd,a_e (j:=1) rfl,_,rfl,a,_,_,_,rfl,rfl,SqT.of hd,a_e (j:=2) rfl,_,rfl,n,sd,rfl,by show 3<=sizeLine;decide,λt ht=> ?_⟩;exact fin t (.spot x (b_x n sd)) _ (Same.upd_new ht) a_b hf (c_Z hs) (b_d a_b (by decide+kernel)) id
  | within x lo hi=>
    refine⟨_,rfl,a,_,_,_,rfl,rfl,SqT.of hd,a_e (j:=0) rfl,?_⟩;refine⟨_,rfl,rfl,_,rfl,a_y (λq=>absurd q (by decide+kernel)) (λ_=> ?_)⟩;refine⟨_,rfl,rfl,_,rfl,a_y (λq=>absurd q (by decide+kernel)) (λ_=> ?_)⟩;refine⟨_,rfl,rfl,_,rfl,a_y (λq=>absurd q (by decide+kernel)) (λ_=> ?_)⟩;refine⟨_,rfl,rfl,_,rfl,a_y (λq=>absurd q (by decide+kernel)) (λ_=> ?_)⟩;refine⟨_,rfl,rfl,_,rfl,a_y (λq=>absurd q (by decide+kernel)) (λ_=> ?_)⟩;refine⟨_,rfl,rfl,_,rfl,a_y (λq=>absurd q (by decide+kernel)) (λ_=> ?_)⟩;refine⟨_,rfl,rfl,_,rfl,a_y (λ_=> ?_) (λq=>absurd (s_C rfl) q)⟩;refine⟨_,rfl,a,_,_,_,rfl,rfl,SqT.of hd,a_e (j:=1) rfl,rfl,_,rfl,?_⟩;have g:b_w x lo hi:=hf.1;have G:c_s x:=hf.2;refine a_y (λq=> ?_) (λq=> ?_)
    ·have hx:x="text":=by have:=s_E q;injection this
     rw[b_w,if_pos hx] at g;obtain⟨t1,t2,rfl,rfl⟩:=g;refine⟨_,rfl,_,rfl,a,_,_,_,rfl,rfl,SqT.of hd,a_e (j:=1) rfl,_,rfl,a,_,_,_,rfl,rfl,SqT.of hd,a_e (j:=2) rfl,_,rfl,t1,sd,rfl,hs.1 t1 rfl,λu1 H2 s2=> ?_⟩;refine⟨_,rfl,a,_,_,_,rfl,rfl,SqT.of (s2 _ _ hd),a_e (j:=3) rfl,_,rfl,t2,sd,rfl,hs.2 t2 rfl,λu2 H3 s3=>⟨by show 4<=sizeLine;decide,λt ht=> ?_⟩⟩;refine fin t (.within x (.str u1) (.str u2)) _ ((s2.trans s3).trans (Same.upd_new ht)) a_b ?_ trivial (b_d a_b (by decide+kernel)) id;show b_w x _ _/\c_s x;rw[b_w,if_pos hx];exact⟨⟨_,_,rfl,rfl⟩,G⟩
    ·have hx:¬ x="text":=λe=>q (by rw[e];exact s_C rfl)
     rw[b_w,if_neg hx] at g;obtain⟨i,j,rfl,rfl⟩:=g;refine⟨_,rfl,rfl,_,rfl,a_y (λ_=> ?_) (λq=>absurd (s_C rfl) q)⟩;refine⟨_,rfl,_,rfl,a,_,_,_,rfl,rfl,SqT.of hd,a_e (j:=1) rfl,_,rfl,a,_,_,_,rfl,rfl,SqT.of hd,a_e (j:=2) rfl,_,rfl,i,sd,rfl,λr1=> ?_⟩;refine⟨_,rfl,a,_,_,_,rfl,rfl,SqT.of hd,a_e (j:=3) rfl,_,rfl,j,sd,rfl,λr2=>⟨by show 4<=sizeLine;decide,λt ht=> ?_⟩⟩;refine fin t (.within x (.int r1) (.int r2)) _ (Same.upd_new ht) a_b ?_ trivial (b_d a_b (by decide+kernel)) id;show b_w x _ _/\c_s x;rw[b_w,if_neg hx];exact⟨⟨_,_,rfl,rfl⟩,G⟩
  | both lo hi t0=>
    refine⟨_,rfl,a,_,_,_,rfl,rfl,SqT.of hd,a_e (j:=0) rfl,?_⟩;refine⟨_,rfl,rfl,_,rfl,a_y (λq=>absurd q (by decide+kernel)) (λ_=> ?_)⟩;refine⟨_,rfl,rfl,_,rfl,a_y (λq=>absurd q (by decide+kernel)) (λ_=> ?_)⟩;refine⟨_,rfl,rfl,_,rfl,a_y (λq=>absurd q (by decide+kernel)) (λ_=> ?_)⟩;refine⟨_,rfl,rfl,_,rfl,a_y (λq=>absurd q (by decide+kernel)) (λ_=> ?_)⟩;refine⟨_,rfl,rfl,_,rfl,a_y (λq=>absurd q (by decide+kernel)) (λ_=> ?_)⟩;refine⟨_,rfl,rfl,_,rfl,a_y (λq=>absurd q (by decide+kernel)) (λ_=> ?_)⟩;refine⟨_,rfl,rfl,_,rfl,a_y (λq=>absurd q (by decide+kernel)) (λ_=>i_0 ?_)⟩;refine⟨_,rfl,rfl,_,rfl,a_y (λq=>absurd q (by decide+kernel)) (λ_=> ?_)⟩;refine⟨_,rfl,rfl,_,rfl,a_y (λ_=> ?_) (λq=>absurd (s_C rfl) q)⟩;refine⟨_,rfl,a,_,_,_,rfl,rfl,SqT.of hd,a_e (j:=1) rfl,_,rfl,lo,sd,rfl,λr1=> ?_⟩;refine⟨_,rfl,_,rfl,_,rfl,a,_,_,_,rfl,rfl,SqT.of hd,a_e (j:=2) rfl,_,rfl,hi,sd,rfl,λr2=> ?_⟩;refine⟨_,rfl,a,_,_,_,rfl,rfl,SqT.of hd,a_e (j:=3) rfl,_,rfl,t0,sd,rfl,hs,λu H3 s3=>⟨by show 4<=sizeLine;decide,λt ht=> ?_⟩⟩;exact fin t (.both r1 r2 u) _ (s3.trans (Same.upd_new ht)) a_b trivial trivial (b_d a_b (by decide+kernel)) id
  | begin=>
    refine⟨_,rfl,a,_,_,_,rfl,rfl,SqT.of hd,a_e (j:=0) rfl,?_⟩;refine⟨_,rfl,rfl,_,rfl,a_y (λq=>absurd q (by decide+kernel)) (λ_=> ?_)⟩;refine⟨_,rfl,rfl,_,rfl,a_y (λq=>absurd q (by decide+kernel)) (λ_=> ?_)⟩;refine⟨_,rfl,rfl,_,rfl,a_y (λq=>absurd q (by decide+kernel)) (λ_=> ?_)⟩;refine⟨_,rfl,rfl,_,rfl,a_y (λq=>absurd q (by decide+kernel)) (λ_=> ?_)⟩;refine⟨_,rfl,rfl,_,rfl,a_y (λq=>absurd q (by decide+kernel)) (λ_=> ?_)⟩;refine⟨_,rfl,rfl,_,rfl,a_y (λq=>absurd q (by decide+kernel)) (λ_=> ?_)⟩;refine⟨_,rfl,rfl,_,rfl,a_y (λq=>absurd q (by decide+kernel)) (λ_=>i_0 ?_)⟩;refine⟨_,rfl,rfl,_,rfl,a_y (λq=>absurd q (by decide+kernel)) (λ_=> ?_)⟩;refine⟨_,rfl,rfl,_,rfl,a_y (λq=>absurd q (by decide+kernel)) (λ_=> ?_)⟩;exact⟨_,rfl,fin a (.begin) H (Same.refl H) hd hf trivial (b_d hd (by decide+kernel)) id⟩
  | keep=>
    refine⟨_,rfl,a,_,_,_,rfl,rfl,SqT.of hd,a_e (j:=0) rfl,?_⟩;refine⟨_,rfl,rfl,_,rfl,a_y (λq=>absurd q (by decide+kernel)) (λ_=> ?_)⟩;refine⟨_,rfl,rfl,_,rfl,a_y (λq=>absurd q (by decide+kernel)) (λ_=> ?_)⟩;refine⟨_,rfl,rfl,_,rfl,a_y (λq=>absurd q (by decide+kernel)) (λ_=> ?_)⟩;refine⟨_,rfl,rfl,_,rfl,a_y (λq=>absurd q (by decide+kernel)) (λ_=> ?_)⟩;refine⟨_,rfl,rfl,_,rfl,a_y (λq=>absurd q (by decide+kernel)) (λ_=> ?_)⟩;refine⟨_,rfl,rfl,_,rfl,a_y (λq=>absurd q (by decide+kernel)) (λ_=> ?_)⟩;refine⟨_,rfl,rfl,_,rfl,a_y (λq=>absurd q (by decide+kernel)) (λ_=>i_0 ?_)⟩;refine⟨_,rfl,rfl,_,rfl,a_y (λq=>absurd q (by decide+kernel)) (λ_=> ?_)⟩;refine⟨_,rfl,rfl,_,rfl,a_y (λq=>absurd q (by decide+kernel)) (λ_=> ?_)⟩;exact⟨_,rfl,fin a (.keep) H (Same.refl H) hd hf trivial (b_d hd (by decide+kernel)) id⟩
  | brk=>
    refine⟨_,rfl,a,_,_,_,rfl,rfl,SqT.of hd,a_e (j:=0) rfl,?_⟩;refine⟨_,rfl,rfl,_,rfl,a_y (λq=>absurd q (by decide+kernel)) (λ_=> ?_)⟩;refine⟨_,rfl,rfl,_,rfl,a_y (λq=>absurd q (by decide+kernel)) (λ_=> ?_)⟩;refine⟨_,rfl,rfl,_,rfl,a_y (λq=>absurd q (by decide+kernel)) (λ_=> ?_)⟩;refine⟨_,rfl,rfl,_,rfl,a_y (λq=>absurd q (by decide+kernel)) (λ_=> ?_)⟩;refine⟨_,rfl,rfl,_,rfl,a_y (λq=>absurd q (by decide+kernel)) (λ_=> ?_)⟩;refine⟨_,rfl,rfl,_,rfl,a_y (λq=>absurd q (by decide+kernel)) (λ_=> ?_)⟩;refine⟨_,rfl,rfl,_,rfl,a_y (λq=>absurd q (by decide+kernel)) (λ_=>i_0 ?_)⟩;refine⟨_,rfl,rfl,_,rfl,a_y (λq=>absurd q (by decide+kernel)) (λ_=> ?_)⟩;refine⟨_,rfl,rfl,_,rfl,a_y (λq=>absurd q (by decide+kernel)) (λ_=> ?_)⟩;exact⟨_,rfl,fin a (.brk) H (Same.refl H) hd hf trivial (b_d hd (by decide+kernel)) id⟩
  | «from» x k m=>
    refine⟨_,rfl,a,_,_,_,rfl,rfl,SqT.of hd,a_e (j:=0) rfl,?_⟩;refine⟨_,rfl,rfl,_,rfl,a_y (λq=>absurd q (by decide+kernel)) (λ_=> ?_)⟩;refine⟨_,rfl,rfl,_,rfl,a_y (λq=>absurd q (by decide+kernel)) (λ_=> ?_)⟩;refine⟨_,rfl,rfl,_,rfl,a_y (λq=>absurd q (by decide+kernel)) (λ_=> ?_)⟩;refine⟨_,rfl,rfl,_,rfl,a_y (λq=>absurd q (by decide+kernel)) (λ_=> ?_)⟩;refine⟨_,rfl,rfl,_,rfl,a_y (λq=>absurd q (by decide+kernel)) (λ_=> ?_)⟩;refine⟨_,rfl,rfl,_,rfl,a_y (λq=>absurd q (by decide+kernel)) (λ_=> ?_)⟩;refine⟨_,rfl,rfl,_,rfl,a_y (λq=>absurd q (by decide+kernel)) (λ_=>i_0 ?_)⟩;refine⟨_,rfl,rfl,_,rfl,a_y (λq=>absurd q (by decide+kernel)) (λ_=> ?_)⟩;refine⟨_,rfl,rfl,_,rfl,a_y (λq=>absurd q (by decide+kernel)) (λ_=> ?_)⟩;exact⟨_,rfl,fin a (.from x k m) H (Same.refl H) hd hf trivial (b_d hd (by decide+kernel)) id⟩
end
def e_X (room:Int) (kd mk:Addr):List (Key×V):= [(Sum.inr "room",.int room),(Sum.inr "kept",.ref kd),(Sum.inr "marks",.ref mk)]
theorem q_T:¬ ((Sum.inr ("room":Str):Key)=Sum.inr ("kept":Str)):=by decide+kernel
theorem r_b:¬ ((Sum.inr ("room":Str):Key)=Sum.inr ("marks":Str)):=by decide+kernel
theorem r_d:¬ ((Sum.inr ("kept":Str):Key)=Sum.inr ("marks":Str)):=by decide+kernel
theorem l_c (room:Int) (kd mk:Addr):d_J (e_X room kd mk) (Sum.inr "room")=some (.int room):=b_1 rfl
theorem l_7 (room:Int) (kd mk:Addr):d_J (e_X room kd mk) (Sum.inr "kept")=some (.ref kd):=(b_t q_T).trans (b_1 rfl)
theorem k_x (room:Int) (kd mk:Addr):d_J (e_X room kd mk) (Sum.inr "marks")=some (.ref mk):=(b_t r_b).trans ((b_t r_d).trans (b_1 rfl))
theorem l_j {H:Hp} {st kd mk:Addr} {room:Int} (h:H st=some (.dK (e_X room kd mk))):DGet H st (.str "room") (some (.int room)):=l_c room kd mk ▸ DGet.k (k:=Sum.inr "room") h
theorem b_4 {H:Hp} {st kd mk:Addr} {room:Int} (h:H st=some (.dK (e_X room kd mk))):DGet H st (.str "kept") (some (.ref kd)):=l_7 room kd mk ▸ DGet.k (k:=Sum.inr "kept") h
theorem c_H {H:Hp} {st kd mk:Addr} {room:Int} (h:H st=some (.dK (e_X room kd mk))):DGet H st (.str "marks") (some (.ref mk)):=k_x room kd mk ▸ DGet.k (k:=Sum.inr "marks") h
theorem d_c {H:Hp} {d:Addr} {kvs:List (Key×V)} {n:Int} (h:H d=some (.dK kvs)):DGet H d (.int n) (d_J kvs (Sum.inl n)):=DGet.k (k:=Sum.inl n) h
theorem l_V {H:Hp} {d:Addr} {kvs:List (Key×V)} {o:HO} (h:H d=some (.dK kvs)):∀b xs,H b=some (.tup xs)->(upd H d o) b=some (.tup xs):=λb xs e=>by
 rw[a_i (λq=>by rw[q,h] at e;cases e)];exact e
theorem m_3 {H:Hp} {o:HO} (d:Addr):∀b u,H b=some u->b≠d->(upd H d o) b=some u:=λb u e hn=>by rw[a_i hn];exact e
section
variable {P:Program} {w:World} {K:PySem.W.Frag} {mg:Str->Option Value} {base:Heap}
def e_N:Sp:=λvs H Q _=>∃(st kd mk a:Addr) (room:Int) (l:List Row) (c:Chg),vs= [.ref st,.ref a]/\H st=some (.dK (e_X room kd mk))/\KeptAt H kd l/\ChgAt H a c/\l.length<=1000/\
 ∀H',KeptAt H' kd (b_j room l c).1->(∀b u,H b=some u->b≠kd->H' b=some u)->Q (.str (b_j room l c).2) H'
theorem g_L:a_s ["_law_store","_law_deed","_law_kept"] ["_law_store","_law_deed"] (a_m f_S):=⟨rfl,rfl,rfl,by decide+kernel,rfl,by decide+kernel,by decide+kernel⟩
theorem i_V {f:Addr} {fd:FuncData} (F:Fun K "_law_changed" "_law_changed" f_S f fd) (B:Bt mg):FnOk P w K mg base CX0 1 f fd ["_law_store","_law_deed"] e_N:=by
 refine F.ok g_L (λvs H Q E h=> ?_) (λcdv A outer s H vs Q E hr h=> ?_)
 ·obtain⟨st,kd,mk,a,room,l,c,rfl,_⟩:=h
  rfl
 ·obtain⟨st,kd,mk,a,room,l,c,rfl,p,⟨rs,hk,hR⟩,hc,hl,fin⟩:=h
  have g:=e_Y hr
  refine⟨_,(a_c (a_w (i:=2) g_L.nd rfl (Or.inl rfl) (b_o g (pv 0) a_k (λ_ _=>rfl)))
   (a_c (a_C (a_l a_I (a_r a_o (pv 1) a_g (λ_ _=>rfl)) a_k (a_q _)) (a_c (a_C (d_R (m_c g (a_r a_o (a_r a_o (pv 1) a_g (λ_ _=>rfl)) a_g (λ_ _=>rfl)) (pv 2))) (a_f (a_n a_k)) a_p)
   (a_c (a_C (a_l j_o (a_t g_K (by rfl) B.len s_F (a_a (pv 2) a_d)) (b_o g (pv 0) a_k (λ_ _=>rfl)) (a_q _)) (a_f (a_n a_k)) a_p)
   (a_f (e_q g (pv 2) (a_r a_o (a_r a_o (pv 1) a_g (λ_ _=>rfl)) a_g (λ_ _=>rfl)) (a_r a_o (pv 1) a_g (λ_ _=>rfl)) rfl)))) (a_f (a_C (a_l a_I (a_r a_o (pv 1) a_g (λ_ _=>rfl)) a_k (a_q _)) (a_c (a_C (d_R (d_v g (a_r a_o (a_r a_o (pv 1) a_g (λ_ _=>rfl)) a_g (λ_ _=>rfl)) (pv 2))) (a_f (a_n a_k)) a_p)
   (a_f (e_q g (pv 2) (a_r a_o (a_r a_o (pv 1) a_g (λ_ _=>rfl)) a_g (λ_ _=>rfl)) (a_r a_o (pv 1) a_g (λ_ _=>rfl)) rfl))) (a_c (a_C (d_R (d_v g (a_r a_o (pv 1) a_g (λ_ _=>rfl)) (pv 2))) (a_f (a_n a_k)) a_p)
   (a_f (a_z (h_Q (pv 2) (a_r a_o (pv 1) a_g (λ_ _=>rfl)) ⟨rfl,rfl,rfl,rfl⟩)))))))
   (a_f (a_n a_k)))),?_⟩
  have o:(a_L rs l).length < sizeLine:=by rw[c_V hR];exact a_F hl
  refine⟨_,rfl,st,_,rfl,b_4 p,?_⟩;have same:∀b u,H b=some u->b≠kd->H b=some u:=λb u h _=>h;cases c with
  | bring ρ=>
    obtain⟨r,h1,hρ⟩:=hc;obtain⟨v1,v2⟩:=b_6 (n:=ρ.n) hR;refine⟨_,rfl,a,_,_,_,rfl,rfl,SqT.of h1,a_e (j:=0) rfl,rfl,_,rfl,a_y (λ_=> ?_) (λq=>absurd (s_C rfl) q)⟩;refine⟨_,rfl,a,_,_,_,rfl,rfl,SqT.of h1,a_e (j:=1) rfl,r,_,_,_,rfl,rfl,SqT.of hρ,a_e (j:=0) rfl,_,rfl,kd,_,rfl,d_c hk,_,rfl,?_⟩;rw[v1];refine a_y (λc1=> ?_) (λc1=> ?_)
    ·have e:b_j room l (.bring ρ)=(l,("taken":Str)):=by simp[b_j,c1]
     have:=fin H;rw[e] at this;exact this ⟨rs,hk,hR⟩ same
    refine⟨_,rfl,kd,_,rfl,hk,_,rfl,st,_,rfl,l_j p,_,_,rfl,rfl,_,rfl,?_⟩;refine a_y (λc2=> ?_) (λc2=> ?_)
    ·have m:room<=(l.length:Int):=by have:=s_E c2;rw[c_V hR] at this;exact this
     have e:b_j room l (.bring ρ)=(l,("full":Str)):=by simp[b_j,c1,m]
     have:=fin H;rw[e] at this;exact this ⟨rs,hk,hR⟩ same
    have m:¬ room<=(l.length:Int):=λq=>c2 (s_C (by rw[c_V hR];exact q));obtain⟨rs',e1,e2⟩:=g_9 hρ hR;refine⟨_,rfl,a,_,_,_,rfl,rfl,SqT.of h1,a_e (j:=1) rfl,_,rfl,_,rfl,a,_,_,_,rfl,rfl,SqT.of h1,a_e (j:=1) rfl,r,_,_,_,rfl,rfl,SqT.of hρ,a_e (j:=0) rfl,kd,_,rfl,DPut.k (k:=Sum.inl ρ.n) hk o,?_⟩;have e:b_j room l (.bring ρ)=(c_o l ρ,("done":Str)):=by simp only[b_j,if_neg c1,if_neg m]
    have:=fin (upd H kd (.dK (d_q (a_L rs l) (Sum.inl ρ.n) (V.ref r))));rw[e] at this;exact this ⟨rs',by rw[e1];exact a_b,e2.same (l_V hk)⟩ (m_3 kd)
  | alter ρ=>
    obtain⟨r,h1,hρ⟩:=hc;obtain⟨v1,v2⟩:=b_6 (n:=ρ.n) hR;refine⟨_,rfl,a,_,_,_,rfl,rfl,SqT.of h1,a_e (j:=0) rfl,rfl,_,rfl,a_y (λq=>absurd q (by decide+kernel)) (λ_=> ?_)⟩;refine⟨_,rfl,a,_,_,_,rfl,rfl,SqT.of h1,a_e (j:=0) rfl,rfl,_,rfl,a_y (λ_=> ?_) (λq=>absurd (s_C rfl) q)⟩;refine⟨_,rfl,a,_,_,_,rfl,rfl,SqT.of h1,a_e (j:=1) rfl,r,_,_,_,rfl,rfl,SqT.of hρ,a_e (j:=0) rfl,_,rfl,kd,_,rfl,d_c hk,_,rfl,?_⟩;rw[v1];refine a_y (λc1=> ?_) (λc1=> ?_)
    ·have d:¬ b_v l ρ.n=true:=λq=>by rw[q] at c1;cases c1
     have e:b_j room l (.alter ρ)=(l,("missing":Str)):=by simp only[b_j,if_neg d]
     have:=fin H;rw[e] at this;exact this ⟨rs,hk,hR⟩ same
    have d:b_v l ρ.n=true:=by
     cases q:b_v l ρ.n with
     | true=>rfl
     | false=>rw[q] at c1;exact absurd rfl c1
    obtain⟨rs',e1,e2⟩:=g_9 hρ hR;refine⟨_,rfl,a,_,_,_,rfl,rfl,SqT.of h1,a_e (j:=1) rfl,_,rfl,_,rfl,a,_,_,_,rfl,rfl,SqT.of h1,a_e (j:=1) rfl,r,_,_,_,rfl,rfl,SqT.of hρ,a_e (j:=0) rfl,kd,_,rfl,DPut.k (k:=Sum.inl ρ.n) hk o,?_⟩;have e:b_j room l (.alter ρ)=(c_o l ρ,("done":Str)):=by simp only[b_j,if_pos d]
    have:=fin (upd H kd (.dK (d_q (a_L rs l) (Sum.inl ρ.n) (V.ref r))));rw[e] at this;exact this ⟨rs',by rw[e1];exact a_b,e2.same (l_V hk)⟩ (m_3 kd)
  | cut n=>
    obtain⟨v1,v2⟩:=b_6 (n:=n) hR;refine⟨_,rfl,a,_,_,_,rfl,rfl,SqT.of hc,a_e (j:=0) rfl,rfl,_,rfl,a_y (λq=>absurd q (by decide+kernel)) (λ_=> ?_)⟩;refine⟨_,rfl,a,_,_,_,rfl,rfl,SqT.of hc,a_e (j:=0) rfl,rfl,_,rfl,a_y (λq=>absurd q (by decide+kernel)) (λ_=> ?_)⟩;refine⟨_,rfl,a,_,_,_,rfl,rfl,SqT.of hc,a_e (j:=1) rfl,_,rfl,kd,_,rfl,d_c hk,_,rfl,?_⟩;rw[v1];refine a_y (λc1=> ?_) (λc1=> ?_)
    ·have d:¬ b_v l n=true:=λq=>by rw[q] at c1;cases c1
     have e:b_j room l (.cut n)=(l,("missing":Str)):=by simp only[b_j,if_neg d]
     have:=fin H;rw[e] at this;exact this ⟨rs,hk,hR⟩ same
    have d:b_v l n=true:=by
     cases q:b_v l n with
     | true=>rfl
     | false=>rw[q] at c1;exact absurd rfl c1
    obtain⟨rs',e1,e2⟩:=f_q (n:=n) hR;obtain⟨r,ρ,g1,_⟩:=v2 d;refine⟨_,rfl,kd,rfl,.inl ⟨_,.inl hk⟩,_,rfl,a,_,_,_,rfl,rfl,SqT.of hc,a_e (j:=1) rfl,_,Sum.inl n,_,hk,rfl,g1,?_⟩;have e:b_j room l (.cut n)=(a_8 l n,("done":Str)):=by simp only[b_j,if_pos d]
    have:=fin (upd H kd (.dK (d_M (a_L rs l) (Sum.inl n))));rw[e] at this;exact this ⟨rs',by rw[e1];exact a_b,e2.same (l_V hk)⟩ (m_3 kd)
end
end K1
namespace L2
open PySem PySem.Spec PyProof.Rows
section
variable {X:Cx}
def p_a:V->List V->Hp->VK->Prop:=λx vs H Q=>∃a kvs,x= .ref a/\vs= []/\H a=some (.dK kvs)/\∀p,H p=none->Q (.ref p) (upd H p (.dK kvs))
theorem h_M:MtM X "dict.copy" p_a:=by
 intro pins s σ H x vs v us Q I rx rv h;obtain⟨a,kvs,rfl,rfl,hH,q⟩:=h;cases rx;cases rv;obtain⟨z,hd,ws,rel,dd⟩:=i_S I.hok hH;refine call_meetsIn PySem.F.slot_dict_copy dd.typeIs PySem.F.entry_dict_copy (PySem.F.args_dict_copy_1 _) (meets_dict_copy (a_X X.prog X.w) a hd) ⟨ws,dd,by rw[<-rel.length];exact z,λh' d1 d2 hs=> ?_⟩;exact⟨.ref s.heap.objs.size,_,I.laid (a:=s.heap.objs.size) (o:= .dK kvs) (t':=s.toks) hs (r_5 _) (g_F z (beq_eq_false_iff_ne.mpr (Ne.symm (s_k I.big))) rel d1),rfl,q _ (I.hok.fresh (r_5 _))⟩
end
end L2
namespace K1
open PySem L2 TO
section
variable {P:Program} {w:World} {K:PySem.W.Frag} {mg:Str->Option Value} {base:Heap}
def f_j:Sp:=λvs H Q _=>∃room,vs= [.int room]/\∀(st kd mk:Addr) (H':Hp),H st=none->H kd=none->H mk=none-> [st,kd,mk].Nodup->Same H H'->H' st=some (.dK (e_X room kd mk))->H' kd=some (.dK [])->H' mk=some (.lst [])->Q (.ref st) H'
def d_Q:Sp:=λvs H Q _=>∃(st kd mk la:Addr) (as:List Addr) (room:Int) (l:List Row) (cs:List Chg),vs= [.ref st,.ref la]/\H st=some (.dK (e_X room kd mk))/\KeptAt H kd l/\H la=some (.lst (as.map V.ref))/\Paired (ChgAt H) as cs/\cs.length+l.length<=1000/\kd≠st/\
 ∀(v:V) (kd':Addr) (H':Hp),H' st=some (.dK (e_X room kd' mk))->KeptAt H' kd' (d_W room l 0 l cs).1->(kd'=kd\/H kd'=none)->(∀b u,H b=some u->b≠kd->b≠st->H' b=some u)->Bears H' (d_W room l 0 l cs).2 v->Q v H'
theorem b_3:a_s ["_law_store","_law_deeds","_law_before","_law_place","_law_told"] ["_law_store","_law_deeds"] (a_m c_Y):=⟨rfl,rfl,rfl,by decide+kernel,rfl,by decide+kernel,by decide+kernel⟩
theorem r_N:¬ ((Sum.inr ("marks":Str):Key)=Sum.inr ("kept":Str)):=by decide+kernel
theorem j_k (room:Int) (kd mk bd:Addr):d_q (e_X room kd mk) (Sum.inr ("kept":Str)) (.ref bd)=e_X room bd mk:=by
 unfold d_q e_X;simp only[List.any_cons,s_b,List.map_nil,if_neg q_T,if_neg r_N,if_true,decide_true,Bool.true_or,Bool.or_true]
theorem m_Y (l:List Row) (ρ:Row):(c_o l ρ).length<=l.length+1:=by
 unfold c_o
 split <;> simp
theorem n_S (room:Int) (l:List Row) (c:Chg):(b_j room l c).1.length<=l.length+1:=by
 cases c <;> unfold b_j <;> (repeat' split) <;> first | exact Nat.le_succ _ | exact m_Y _ _ | exact Nat.le_succ_of_le (s_x _ _)
theorem f_s {f fCd:Addr} {fd fdCd:FuncData} (F:Fun K "_law_all_changed" "_law_all_changed" c_Y f fd) (B:Bt mg) (gCd:Gf K mg "_law_changed" fCd fdCd ["_law_store","_law_deed"]) (GCd:FnOk P w K mg base CX0 1 fCd fdCd ["_law_store","_law_deed"] e_N):FnOk P w K mg base CX0 2 f fd ["_law_store","_law_deeds"] d_Q:=by
 refine F.ok b_3 (λvs H Q E h=> ?_) (λcdv A outer s H vs Q E hr h=> ?_)
 ·obtain⟨st,kd,mk,la,as,room,l,cs,rfl,_⟩:=h
  rfl
 ·obtain⟨st,kd,mk,la,as,room,l,cs,rfl,v,hk,r,hC,a0,W,fin⟩:=h
  have x:=e_Y hr;have N:Room 1 _:=hr.mono (by decide)
  refine⟨_,(a_c (a_w (i:=2) b_3.nd rfl (Or.inl rfl) (e_u PySem.F.plainAttrs_dict PySem.F.slot_dict_copy PySem.F.type_dict_copy h_M (b_o x (pv 0) a_k (λ_ _=>rfl))))
   (a_c (b_0 PassesOwn.never rfl (c_d rfl B.range (a_a (a_t a_x (by rfl) B.len s_F (a_a (pv 1) a_d)) a_d)) (a_9 (i:=3) b_3.nd rfl (Or.inl rfl))
   (a_c (a_w (i:=4) b_3.nd rfl (Or.inl rfl) (a_j GCd N rfl gCd.mg gCd.kp gCd.b .nil a_v (a_a (pv 0) (a_a (a_r a_P (pv 1) (pv 3) (λ_ _=>rfl)) a_d))))
   (a_f (a_C (a_l d_e (pv 4) a_k (a_q _)) (a_c (e_q x (pv 0) a_k (pv 2) rfl)
   (a_f (a_n (a_G (a_a (pv 3) (a_a (pv 4) a_d)))))) a_p))))
   (a_f (a_n a_k)))),?_⟩
  obtain⟨rs,g,hR⟩:=id hk;have a2:=Paired.length hC;refine⟨_,rfl,st,_,rfl,b_4 v,.inr (.inr (.inl ⟨rfl,.inl ⟨_,g⟩⟩)),kd,_,rfl,rfl,g,λbd p=> ?_⟩;have s1:Same H (upd H bd (.dK (a_L rs l))):=Same.upd_new p;have Y:bd≠kd:=(a_h g p).symm;have S:bd≠st:=(a_h v p).symm;have L:KeptAt (upd H bd (.dK (a_L rs l))) bd l:=⟨rs,a_b,hR.same λb xs q=>s1 _ _ q⟩;have hn:((((as.map V.ref).length:Nat):Int)).toNat=cs.length:=by rw[r_W];omega
  refine⟨_,rfl,la,_,rfl,.inl (SqL.of (s1 _ _ r)),_,rfl,by omega,by rw[r_W];omega,c_k (lo:=0) (n:=((((as.map V.ref).length:Nat):Int)).toNat) (λi σ Hx=>∃(li:List Row) (v3 v4:Option V),σ= [some (.ref st),some (.ref la),some (.ref bd),v3,v4]/\d_W room l i li (cs.drop i)=d_W room l 0 l cs/\Hx st=some (.dK (e_X room kd mk))/\KeptAt Hx kd li/\KeptAt Hx bd l/\li.length<=l.length+i/\∀b u,H b=some u->b≠kd->Hx b=some u)
   ⟨l,none,none,rfl,rfl,s1 _ _ v,KeptAt.same hk s1,L,by omega,λb u h _=>s1 _ _ h⟩ ?_ ?_⟩
  ·rintro i σ Hx hi ⟨li,v3,v4,rfl,hA,d,m,y,M,kp⟩
   rw[hn] at hi;obtain⟨c,hc⟩:∃c,cs[i]? =some c:=⟨_,r_X hi⟩;obtain⟨a,ea,U⟩:=a_T hC hc;have T:la≠kd:=λe=>by rw[e,g] at r;cases r
   have ga:(as.map V.ref)[i]? =some (V.ref a):=by rw[r_8,ea];rfl
   have gi:atI (as.map V.ref) (0+(i:Int))=some (V.ref a):=by rw[Int.zero_add];exact a_e ga
   obtain⟨rs',O,a1⟩:=id m;have R:ChgAt Hx a c:=U.mono λb xs q=>kp _ _ q λe=>by rw[e,g] at q;cases q
   refine⟨_,rfl,_,rfl,_,rfl,la,_,_,_,rfl,rfl,SqL.of (kp _ _ r T),gi,st,kd,mk,a,room,li,c,rfl,d,m,R,by omega,λH2 k2 s2=> ?_⟩
   have ed:cs.drop i=c::cs.drop (i+1):=by
    rw[List.drop_eq_getElem_cons hi];have:=(s_a.mp hc).2;rw[this]
   have j:=s2 _ _ d W.symm;have G:KeptAt H2 bd l:=KeptAt.but y O Y s2;have C:∀b u,H b=some u->b≠kd->H2 b=some u:=λb u h hn=>s2 _ _ (kp _ _ h hn) hn;have Z:=n_S room li c;rw[ed] at hA;refine⟨_,rfl,rfl,_,rfl,a_y (λq=> ?_) (λq=> ?_)⟩
   ·have hq:¬ (b_j room li c).2="done":=λe=>by rw[e] at q;exact absurd q (by decide+kernel)
    refine⟨_,rfl,_,rfl,st,_,rfl,DPut.k (k:=Sum.inr ("kept":Str)) j (by show 3 < sizeLine;decide),?_⟩;rw[j_k];refine⟨_,rfl,_,rfl,by show 2<=sizeLine;decide,λt ht=> ?_⟩;have s3:=Same.upd_new (o:= .tup [V.int (0+(i:Int)),V.str (b_j room li c).2]) ht
    have eA:d_W room l 0 l cs=(l,D.tup [.int (i:Int),.str (b_j room li c).2]):=by
     rw[<-hA];simp only[d_W,if_neg hq]
    have f:=fin (.ref t) bd (upd (upd H2 st (.dK (e_X room bd mk))) t (.tup [V.int (0+(i:Int)),V.str (b_j room li c).2]));rw[eA] at f;obtain⟨rb,I,J⟩:=id G;have X:KeptAt (upd H2 st (.dK (e_X room bd mk))) bd l:=⟨rb,by rw[a_i S];exact I,J.same (l_V j)⟩;refine f (s3 _ _ a_b) (KeptAt.same X s3) (.inr p) (λb u h h1 h2=>s3 _ _ (by rw[a_i h2];exact C _ _ h h1)) ?_;refine .tup a_b (.cons ?_ (.cons (.str _) .nil));rw[Int.zero_add];exact .int _
   ·have hq:(b_j room li c).2="done":=by
     cases e:decide ((b_j room li c).2=("done":Str)) with
     | true=>exact s_E e
     | false=>
       exfalso;apply q;have:¬ V.str (b_j room li c).2=V.str "done":=λz=>(of_decide_eq_false e) (by injection z);rw[s_D this];rfl
    refine⟨(b_j room li c).1,_,_,rfl,?_, j,k2,G,by omega,C⟩;rw[<-hA];simp only[d_W,if_pos hq]
  ·rintro σ Hx ⟨li,v3,v4,rfl,hA,d,m,y,M,kp⟩
   rw[hn,List.drop_of_length_le (r_5 _)] at hA;have f:=fin (.str "done") kd Hx;rw[<-hA] at f;exact f d m (.inl rfl) (λb u h h1 _=>kp _ _ h h1) (.str _)
theorem i_m:a_s ["_law_room"] ["_law_room"] (a_m e_z):=⟨rfl,rfl,rfl,by decide+kernel,rfl,by decide+kernel,by decide+kernel⟩
theorem p_x (x y z:V):e_C [] [((Sum.inr ("room":Str):Key),x),(Sum.inr ("kept":Str),y),(Sum.inr ("marks":Str),z)]= [(Sum.inr ("room":Str),x),(Sum.inr ("kept":Str),y),(Sum.inr ("marks":Str),z)]:=by
 have e1:d_q ([]:List (Key×V)) (Sum.inr ("room":Str)) x= [(Sum.inr ("room":Str),x)]:=d_8 _ rfl;have e2:d_q [((Sum.inr ("room":Str):Key),x)] (Sum.inr ("kept":Str)) y= [(Sum.inr ("room":Str),x),(Sum.inr ("kept":Str),y)]:=d_8 _ (b_t q_T);have e3:d_q [((Sum.inr ("room":Str):Key),x),(Sum.inr ("kept":Str),y)] (Sum.inr ("marks":Str)) z= [(Sum.inr ("room":Str),x),(Sum.inr ("kept":Str),y),(Sum.inr ("marks":Str),z)]:=d_8 _ ((b_t r_b).trans (b_t r_d));simp only[e_C,List.foldl_cons,List.foldl_nil,e1,e2,e3]
theorem g_Y {f:Addr} {fd:FuncData} (F:Fun K "_law_new_store" "_law_new_store" e_z f fd):FnOk P w K mg base CX0 1 f fd ["_law_room"] f_j:=by
 refine F.ok i_m (λvs H Q E h=> ?_) (λcdv A outer s H vs Q E hr h=> ?_)
 ·obtain⟨room,rfl,_⟩:=h
  rfl
 ·obtain⟨room,rfl,fin⟩:=h
  refine⟨_,(a_f (a_n (n_L (f_J a_k (pv 0) (f_J a_k h_R (f_J a_k (a_O a_d) n_Z))) rfl rfl (by simp) (by decide)))),?_⟩;intro st c;refine⟨_,rfl,λkd d=>⟨by show 0<=sizeLine;decide,λmk a=> ?_⟩⟩;have s1:Same H (upd H st (.dK [])):=Same.upd_new c;have s2:=Same.upd_new (o:= .dK []) d;have s3:=Same.upd_new (o:= .lst []) a;have n1:st≠kd:=a_h a_b d;have n2:st≠mk:=a_h (s2 _ _ a_b) a;have n3:kd≠mk:=a_h a_b a;refine⟨s3 _ _ (s2 _ _ a_b), [(Sum.inr ("room":Str),.int room),(Sum.inr ("kept":Str),.ref kd),(Sum.inr ("marks":Str),.ref mk)],rfl,by show 3<=15;decide,?_⟩;rw[p_x];refine fin st kd mk _ c (s1.free d) (s1.free (s2.free a)) (by simp[n1,n2,n3]) (λb u h=> ?_) a_b (by rw[a_i n1.symm];exact s3 _ _ a_b) (by rw[a_i n2.symm];exact a_b);rw[a_i (a_h h c)];exact s3 _ _ (s2 _ _ (s1 _ _ h))
def m_v:Sp:=λvs H Q _=>∃(lo v hi:V),vs= [lo,v,hi]/\b_h lo v=true/\b_h v hi=true/\Q (.bl (!ltV v lo&& !ltV hi v)) H
theorem o_w:a_s ["_law_low","_law_value","_law_high"] ["_law_low","_law_value","_law_high"] (a_m n_8):=⟨rfl,rfl,rfl,by decide+kernel,rfl,by decide+kernel,by decide+kernel⟩
theorem n_t {f:Addr} {fd:FuncData} (F:Fun K "_law_lies" "_law_lies" n_8 f fd):FnOk P w K mg base CX0 1 f fd ["_law_low","_law_value","_law_high"] m_v:=by
 refine F.ok o_w (λvs H Q E h=> ?_) (λcdv A outer s H vs Q E hr h=> ?_)
 ·obtain⟨lo,v,hi,rfl,_⟩:=h
  rfl
 ·obtain⟨lo,v,hi,rfl,h1,h2,q⟩:=h
  refine⟨_,(a_f (a_n (k_R (c_n m_G (pv 0) (pv 1) (a_q _)) (k_h (c_n m_G (pv 1) (pv 2) (a_q _)))))),?_⟩;refine⟨_,rfl,_,rfl,h1,_,rfl,a_y (λc=> ?_) (λc=> ?_)⟩
  ·refine⟨_,rfl,_,rfl,h2,?_⟩
   have c':(!ltV v lo)=true:=c;rw[c',Bool.true_and] at q;exact q
  ·have c':(!ltV v lo)=false:=by
    cases e:(!ltV v lo) with
    | false=>rfl
    | true=>exact absurd e c
   rw[c',Bool.false_and] at q;exact q
end
end K1
namespace TO
open PySem L2
theorem k_S {H:Hp}:∀{rs:List Addr} {l:List Row} {i:Nat} {k:Key} {v:V},RowsAt H rs l->(a_L rs l)[i]? =some (k,v)->∃r ρ,v=V.ref r/\rs[i]? =some r/\l[i]? =some ρ/\RowAt H r ρ
 | _,_,i,k,v,.nil,e=>by simp[a_L] at e
 | r::rs,ρ::l,0,k,v,.cons h t,e=>by
   simp[a_L] at e;exact⟨r,ρ,e.2.symm,rfl,rfl,h⟩
 | r::rs,ρ::l,i+1,k,v,.cons h t,e=>by
   obtain⟨r',ρ',h1,h2,h3,h4⟩:=k_S (i:=i) t (by simpa[a_L] using e);exact⟨r',ρ',h1,by simpa using h2,by simpa using h3,h4⟩
end TO
namespace K1
open PySem L2 TO
theorem j_d:bootBuiltins "sorted"=some (.builtin "sorted"):=by decide+kernel
def p_r (w:Bool):Int:=if w=true then 2 else 1
theorem h_X (w:Bool) (ρ:Row):atI (d_Y ρ) (p_r w)=some (c_u w ρ):=by
 cases w with
 | false=>exact a_e (j:=1) rfl
 | true=>exact a_e (j:=2) rfl
theorem e_a (w:Bool):1+(if decide (V.str (e_n w)=V.str "text")=true then (1:Int) else 0)=p_r w:=by cases w <;> decide+kernel
section
variable {P:Program} {w:World} {K:PySem.W.Frag} {mg:Str->Option Value} {base:Heap}
def f_B:Sp:=λvs H Q _=>∃(st kd mk:Addr) (room:Int) (l:List Row) (w:Bool),vs= [.ref st,.str (e_n w)]/\H st=some (.dK (e_X room kd mk))/\KeptAt H kd l/\b_9 l/\l.length < 64/\
 ∀(d:Addr) (H':Hp),H d=none->Same H H'->LstAt H' d (a_V w l)->Q (.ref d) H'
theorem f_R:a_s ["_law_store","_law_word","_law_spot","_law_pairs"] ["_law_store","_law_word"] (a_m h_n):=⟨rfl,rfl,rfl,by decide+kernel,rfl,by decide+kernel,by decide+kernel⟩
theorem k_u {f:Addr} {fd:FuncData} (F:Fun K "_law_rows_by" "_law_rows_by" h_n f fd) (B:Bt mg):FnOk P w K mg base CX0 1 f fd ["_law_store","_law_word"] f_B:=by
 refine F.ok f_R (λvs H Q E h=> ?_) (λcdv A outer s H vs Q E hr h=> ?_)
 ·obtain⟨st,kd,mk,room,l,w,rfl,_⟩:=h
  rfl
 ·obtain⟨st,kd,mk,room,l,w,rfl,U,hk,I,a6,fin⟩:=h
  obtain⟨rs,p,hR⟩:=id hk;have a5:=hR.len;have G:=e_Y hr
  refine⟨_,a_c (a_w (i:=2) f_R.nd rfl (Or.inr rfl) (a_u a_U a_g (b_F b_S (by rfl) B.int g_J (a_a (c_n a_I (pv 1) a_k (a_q _)) a_d))))
   (a_c (n_g (c_c (k:=3) (x:="_law_row") (fns:= ["_law_spot"]) (js:= [2]) rfl
     ⟨rfl,by decide+kernel,by decide+kernel,rfl,by decide+kernel,by decide+kernel,rfl,by simp[Env.kindOf];rfl,rfl,by decide+kernel⟩
     (k_A (b_o G (pv 0) a_k (λ_ _=>rfl))) (λ_ _ _ _=>b_K)
     (λ_ _ _ _=>a_G (a_a (a_r (b_f K) (pv 0) (pv 1) (λ_ _=>rfl)) (a_a (a_r (b_f K) (pv 0) a_g (λ_ _=>rfl)) a_d)))
     f_R.nd rfl (Or.inl rfl)))
   (a_f (a_n (l_i (x:="_law_value") (x2:="_law_number") (fns:= ["_law_store"]) (js:= [0]) rfl
     ⟨rfl,by decide+kernel,by decide+kernel,rfl,rfl,by decide+kernel,by decide+kernel,rfl,by simp[Env.kindOf];rfl,rfl,by decide+kernel⟩
     (b_e (a_t g_3 (by rfl) B.sorted j_d (a_a (pv 3) a_d))) (λ_ _ _ _=>b_K)
     (λ_ _ _ _=>b_o G (b_o G (pv 2) a_k (λ_ _=>rfl)) (pv 1) (λ_ _=>rfl)))))),?_⟩
  refine⟨_,rfl,rfl,.inr ⟨_,rfl,_,_,rfl,rfl,?_⟩⟩;dsimp only;rw[e_a];refine⟨kd,_,p,_,rfl,st,_,rfl,b_4 U,kd,_,rfl,p,λob L hL=> ?_⟩;have R:L≠kd:=λe=>by rw[e,a_b] at hL;cases hL
  have a7:H L=none:=by rw[a_i R] at hL;exact hL
  refine j_u (λi ys H3=>Same (upd H kd (.frz ob (.dK (a_L rs l)))) H3/\∃tas:List Addr,ys=tas.map V.ref/\c_b H3 tas ((l.take i).map (a_H w))) ⟨Same.upd_new hL, [],rfl,.nil⟩ (λi ys H3 _ _ h=>h.1 _ _ a_b) ?_ ?_
  ·rintro i k v ys H3 hi m ⟨s3,tas,rfl,d⟩
   obtain⟨r,ρ,rfl,er,hρ,y⟩:=k_S hR hi;have N:RowAt H3 r ρ:=s3 _ _ (by rw[a_i (λe=>by rw[e] at y;unfold RowAt at y;rw[p] at y;cases y)];exact y);refine⟨_,rfl,_,rfl,r,_,_,_,rfl,rfl,SqT.of N,h_X w ρ,?_⟩;refine⟨_,rfl,r,_,_,_,rfl,rfl,SqT.of N,a_e (j:=0) rfl,by show 2<=sizeLine;decide,λt ht=> ?_⟩;have a0:L≠t:=a_h m ht;have s4:Same H3 (upd H3 t (.tup [c_u w ρ,.int ρ.n])):=Same.upd_new ht;refine⟨s4 _ _ m,?_, λb u hb=> ?_, tas++ [t],by rw[r_4];rfl,?_⟩
   ·have:=Paired.length d
    rw[r_W,s_i] at this;rw[r_W];exact a_F (by omega)
   ·rw[a_i (a_h hb hL)]
    exact s4 _ _ (s3 _ _ hb)
   ·rw[s_n,hρ]
    show c_b _ _ ((l.take i++ [ρ]).map (a_H w));rw[r_4];refine a_D ?_ (.cons ?_ .nil)
    ·exact Paired.mapP d λx k q=>NoTup.keep (NoTup.lst (s4 _ _ m)) _ _ (s4 _ _ q)
    ·rw[a_i a0.symm]
     exact a_b
  ·rintro ys H3 m ⟨s3,tas,rfl,d⟩
   rw[c_V hR,s_g (r_5 _)] at d;have S:tas.length=l.length:=by rw[Paired.length d,r_W]
   have J:=s3 _ _ (a_b (H:=H) (a:=kd) (o:= .frz ob (.dK (a_L rs l))));refine⟨ob,J,?_⟩
   have sk:Same H (upd H3 kd (.dK (a_L rs l))):=λb u hb=>by
    by_cases e:b=kd
    ·rw[e] at hb ⊢;rw[a_b,<-hb,p]
    ·rw[a_i e];exact s3 _ _ (by rw[a_i e];exact hb)
   have C:c_b (upd H3 kd (.dK (a_L rs l))) tas (l.map (a_H w)):=Paired.mapP d λx k q=>by
    show upd H3 kd (.dK (a_L rs l)) x=_;rw[a_i (λe=>by rw[e] at q;rw[show H3 kd=some (.tup k) from q] at J;cases J)];exact q
   have O:upd H3 kd (.dK (a_L rs l)) L=some (.lst (tas.map V.ref)):=by rw[a_i R];exact m
   generalize upd H3 kd (.dK (a_L rs l))=H4 at sk C O ⊢;refine⟨_,rfl,L,tas,l.map (a_H w),rfl,SqL.of O,C,by omega,λk hk=> ?_, λk hk k' Y=> ?_, by rw[S];exact j_z I,λla is W c X=> ?_⟩
   ·obtain⟨ρ,_,rfl⟩:=s_r.mp hk
    exact⟨_,_,rfl⟩
   ·obtain⟨ρ,_,rfl⟩:=s_r.mp hk
    obtain⟨ρ',_,rfl⟩:=s_r.mp Y;exact⟨⟨c_N w ρ ρ',rfl,trivial⟩,rfl⟩
   rw[S] at c X;have a2:∀i∈is,i < l.length:=λi hi=>by simpa using c.mem_iff.mp hi
   have s4:Same H4 (upd H4 la (.lst (is.map λi=>V.ref (tas.getD i 0)))):=Same.upd_new W;have a4:H la=none:=sk.free W;refine⟨la,rfl,⟨_,SqL.of a_b⟩,λD hD=> ?_⟩;have s5:=Same.upd_new (o:= .lst []) hD;have a3:la≠D:=a_h a_b hD;have T:H4 D=none:=s4.free hD;have Z:H D=none:=sk.free T;have a8:is.length=l.length:=by rw[c.length_eq,List.length_range]
   refine i_D (K:=K) (xs:=is.map λi=>V.ref (tas.getD i 0)) (λj ys H5=>Same H4 H5/\H5 la=some (.lst (is.map λi=>V.ref (tas.getD i 0)))/\∃bs:List Addr,ys=bs.map V.ref/\RowsAt H5 bs ((is.take j).map λi=>l.getD i i_e))
    ⟨s4.trans s5,s5 _ _ a_b, [],rfl,.nil⟩ (λj ys H5 _ _ h=>SqL.of h.2.1) ?_ ?_
   ·rintro j v ys H5 hj z ⟨s6,M,bs,rfl,g⟩
    rw[r_8] at hj;cases ej:is[j]? with
    | none=>rw[ej] at hj;cases hj
    | some i=>
      rw[ej] at hj;obtain rfl:V.ref (tas.getD i 0)=v:=r_3 hj;have hi:=a2 i (s_m ej);have ht:=(c_Q C (i:=i) (by omega)).1;rw[d_y hi] at ht
      have hm:l.getD i i_e∈l:=by
       rw[s_f,r_X hi];exact List.getElem_mem hi
      have a1:RowsAt H5 rs l:=hR.same λb xs q=>s6 _ _ (sk _ _ q);obtain⟨_,v2⟩:=b_6 (n:=(l.getD i i_e).n) a1;obtain⟨r,ρ,g1,g2,g3,_⟩:=v2 (b_z.mpr ⟨_,hm,rfl⟩);rw[i_g I hm] at g2;obtain rfl:=r_3 g2;refine⟨_,_,_,rfl,s6 _ _ ht,?_⟩;refine⟨_,rfl,st,_,rfl,b_4 (s6 _ _ (sk _ _ U)),_,rfl,kd,_,rfl,g1 ▸ d_c (s6 _ _ (sk _ _ p)),z,?_, λb u hb=> ?_, ?_, bs++ [r],by rw[r_4];rfl,?_⟩
      ·have:=g.len
       rw[r_W,s_i] at this;rw[r_W];exact a_F (by omega)
      ·rw[a_i (a_h hb T)]
       exact s6 _ _ hb
      ·rw[a_i a3]
       exact M
      ·rw[s_n,ej,r_4]
       exact (RowsAt.app g (.cons g3 .nil)).same (NoTup.keep (NoTup.lst z))
   ·rintro ys H5 z ⟨s6,M,bs,rfl,g⟩
    rw[r_W,s_g (r_5 _)] at g;rw[d_5 I (h_8 c X) (g_h c)] at g;exact fin D H5 Z (sk.trans s6) ⟨bs,z,g⟩
end
end K1
namespace TO
open PySem L2
section
variable {X:Cx}
def p_l:V->List V->Hp->VK->Prop:=λx vs H Q=>∃l,∃as:List Addr,∃a,∃ρs:List Row,∃ρ,x= .ref l/\vs= [.ref a]/\H l=some (.lst (as.map .ref))/\RowsAt H as ρs/\RowAt H a ρ/\ρ∈ρs/\ρs.length < 10000/\Q (.int ((ρs.idxOf ρ:Nat):Int)) H
theorem l_a (hu:X.A.units+1 < cLine):MtM X "list.index" p_l:=by
 intro pins s σ H x vs v us Q I rx rv h;obtain⟨l,as,a,ρs,ρ,rfl,rfl,hH,hR,ha,hm,j,q⟩:=h;cases rx;obtain⟨u,rfl,ru⟩:=rv.one;cases ru;obtain⟨z,its,n,r,hl,e⟩:=I.lstM hH;have e1:=b_E r;subst e1;have i:=hR.len;have hj:ρs.idxOf ρ < ρs.length:=List.idxOf_lt_length_of_mem hm
 let ev:Value->Bool:=λv=>match v with
  | .ref b=>(match H b with | some (.tup ys)=>decide (ys=d_Y ρ) | _=>false)
  | _=>false
 have c:∀b ρ',RowAt H b ρ'->ev (.ref b)=decide (ρ'=ρ):=λb ρ' hb=>by
  show (match H b with | some (.tup ys)=>decide (ys=d_Y ρ) | _=>false)=_;rw[show H b=_ from hb];by_cases q:ρ'=ρ
  ·subst q;simp
  ·rw[s_D q]
   exact s_D λq'=>q (e_b q')
 have d:ρs.idxOf ρ < (as.map Value.ref).toArray.size:=by simp;omega
 have item:∀m (hm:m < (as.map Value.ref).toArray.size),∃b ρ',(as.map Value.ref).toArray[m]= .ref b/\ρs[m]? =some ρ'/\RowAt H b ρ':=λm hm=>by
  have g:m < as.length:=by simpa using hm
  obtain⟨ρ',h1,h2⟩:=hR.get' (r_X g);exact⟨as[m],ρ',by simp,h1,h2⟩
 refine call_meets F.slot_list_index ⟨_,e,rfl⟩ F.entry_list_index (F.args_list_index_2 _ _) (SeqAt.list_indexAt l (as.map Value.ref).toArray n _ _ (.ref a) ev (ρs.idxOf ρ) d (by omega) ?_ ?_) ⟨e,λy hy=> ?_, ?_⟩
 ·obtain⟨b,ρ',e1,e2,hb⟩:=item _ d
  rw[e1,c b ρ' hb];rw[r_X hj,List.getElem_idxOf hj] at e2;cases e2;exact s_C rfl
 ·intro m hm f
  obtain⟨b,ρ',e1,e2,hb⟩:=item m hm;rw[e1,c b ρ' hb];refine s_D λq=> ?_;subst q;exact e_s f e2
 ·obtain⟨m,hm,e1⟩:=Array.getElem_of_mem hy
  obtain⟨b,ρ',e2,e3,hb⟩:=item m hm;rw[<-e1,e2,c b ρ' hb];exact p_G I hb ha (by first | exact hu | simpa using hu)
 ·exact⟨.int _,H,I.tok _,⟨_,rfl⟩,q⟩
end
theorem j_5 {w:Bool} {ρ:Row}:∀{s:List Row},Srt (ltR w) s->ρ∈s->s.idxOf ρ=(s.filter λy=>ltR w y ρ).length
 | [],_,h=>by cases h
 | x::r,hs,h=>by
   have a:=s_A.mp hs;rw[List.idxOf_cons];by_cases e:x=ρ
   ·subst e
    have hf:(r.filter λy=>ltR w y x)= []:=by
     refine List.filter_eq_nil_iff.mpr λy hy q=> ?_;have:=c_D w _ _ _ (a.1 y hy) q;rw[b_M] at this;cases this
    rw[s_l,if_neg (by rw[b_M];decide),hf];simp
   ·have hm:ρ∈r:=by
     rcases r_7.mp h with q | q
     ·exact absurd q.symm e
     ·exact q
    rw[s_l,if_pos (a.1 ρ hm),r_2,<-j_5 a.2 hm];have:(x == ρ)=false:=by simpa using e
    rw[this];rfl
end TO
namespace K1
open PySem L2 TO
section
variable {P:Program} {w:World} {K:PySem.W.Frag} {mg:Str->Option Value} {base:Heap}
theorem d_L {x:Str} (h:c_s x):(inV (.str x) [V.str "rank",V.str "text"]=false/\c_f x=none)\/∃w,x=e_n w/\inV (.str x) [V.str "rank",V.str "text"]=true/\c_f x=some w:=by
 rcases h with e | e | e
 ·subst e;exact .inr ⟨false,rfl,by decide+kernel,rfl⟩
 ·subst e;exact .inr ⟨true,rfl,by decide+kernel,by decide+kernel⟩
 ·subst e;exact .inl ⟨by decide+kernel,by decide+kernel⟩
theorem i_z {w:Bool} {lo hi:V} (h:b_w (e_n w) lo hi) (ρ:Row):b_h lo (c_u w ρ)=true/\b_h (c_u w ρ) hi=true:=by
 unfold b_w at h;cases w with
 | false=>
   rw[if_neg (by decide+kernel)] at h;obtain⟨i,j,rfl,rfl⟩:=h;exact⟨rfl,rfl⟩
 | true=>
   rw[if_pos (by decide+kernel)] at h;obtain⟨i,j,rfl,rfl⟩:=h;exact⟨rfl,rfl⟩
def m_r:Sp:=λvs H Q _=>∃(st kd mk a:Addr) (room:Int) (l:List Row) (d:Deed) (f:List Addr),vs= [.ref st,.ref a]/\H st=some (.dK (e_X room kd mk))/\KeptAt H kd l/\DeedAt H a d/\d.asks/\d.form/\l.length < 64/\b_9 l/\(∀b∈f,H b≠none)/\
 ∀(v:V) (H':Hp),Same H H'->Ans H' f (b_V l d) v->NewA H H' v->Q v H'
theorem g_t:a_s ["_law_store","_law_deed","_law_rows","_law_spot","_law_last"] ["_law_store","_law_deed"] (a_m d_E):=⟨rfl,rfl,rfl,by decide+kernel,rfl,by decide+kernel,by decide+kernel⟩
theorem n_B {f fRb fLi:Addr} {fd fdRb fdLi:FuncData} (F:Fun K "_law_told_by_all" "_law_told_by_all" d_E f fd) (B:Bt mg) (gRb:Gf K mg "_law_rows_by" fRb fdRb ["_law_store","_law_word"]) (GRb:FnOk P w K mg base CX0 1 fRb fdRb ["_law_store","_law_word"] f_B)
 (gLi:Gf K mg "_law_lies" fLi fdLi ["_law_low","_law_value","_law_high"]) (GLi:FnOk P w K mg base CX0 1 fLi fdLi ["_law_low","_law_value","_law_high"] m_v):FnOk P w K mg base CX0 2 f fd ["_law_store","_law_deed"] m_r:=by
 refine F.ok g_t (λvs H Q E h=> ?_) (λcdv A outer s H vs Q E hr h=> ?_)
 ·obtain⟨st,kd,mk,a,room,l,d,f,rfl,_⟩:=h
  rfl
 ·obtain⟨st,kd,mk,a,room,l,d,ff,rfl,J,hk,hd,has,hf,Y,W,a8,fin⟩:=h
  have I:=e_Y hr;have S:Room 1 _:=hr.mono (by decide);obtain⟨rs,Z,hR⟩:=id hk
  refine⟨_,(a_c (a_C (a_l a_I (a_r a_o (pv 1) a_g (λ_ _=>rfl)) a_k (a_q _)) (a_f (a_n (l_H I (b_o I (pv 0) a_k (λ_ _=>rfl)) (a_r a_o (pv 1) a_g (λ_ _=>rfl)) a_k ⟨rfl,rfl,rfl,rfl⟩))) a_p)
   (a_c (a_C (a_l a_I (a_r a_o (pv 1) a_g (λ_ _=>rfl)) a_k (a_q _)) (a_c (a_w (i:=2) g_t.nd rfl (Or.inr rfl) (c_w (x:="_law_row") (fns:= ["_law_deed"]) (js:= [1]) rfl ⟨rfl,by decide+kernel,by decide+kernel,rfl,by decide+kernel,by decide+kernel,rfl,by simp[Env.kindOf];exact rfl,rfl,by decide+kernel⟩ (b_e (a_j GRb S rfl gRb.mg gRb.kp gRb.b .nil a_v (a_a (pv 0) (a_a a_k a_d)))) (λ_ _ _ _=>(d_B (a_l a_I (a_r (b_f K) (pv 0) a_g (λ_ _=>rfl)) (a_r (b_f K) (pv 1) a_g (λ_ _=>rfl)) (a_q _)))) (λ_ _ _ _=>(pv 0))))
   (a_f (a_n (c_w (x:="_law_row") (fns:= ["_law_deed"]) (js:= [1]) rfl ⟨rfl,by decide+kernel,by decide+kernel,rfl,by decide+kernel,by decide+kernel,rfl,by simp[Env.kindOf];exact rfl,rfl,by decide+kernel⟩ (b_e (pv 2)) (λ_ _ _ _=>(d_B (b_r (a_j GLi S rfl gLi.mg gLi.kp gLi.b .nil a_v (a_a (a_r (b_f K) (pv 1) a_g (λ_ _=>rfl)) (a_a (a_r (b_f K) (pv 0) a_g (λ_ _=>rfl)) (a_a (a_r (b_f K) (pv 1) a_g (λ_ _=>rfl)) a_d))))))) (λ_ _ _ _=>(pv 0)))))) a_p)
   (a_c (a_C (a_l d_S (a_r a_o (pv 1) a_g (λ_ _=>rfl)) (a_O (a_a a_k (a_a a_k a_d))) (by with_unfolding_all rfl)) (a_f (a_n a_k)) a_p)
   (a_c (a_w (i:=2) g_t.nd rfl (Or.inr rfl) (a_j GRb S rfl gRb.mg gRb.kp gRb.b .nil a_v (a_a (pv 0) (a_a (a_r a_o (pv 1) a_g (λ_ _=>rfl)) a_d))))
   (a_c (a_w (i:=3) g_t.nd rfl (Or.inr rfl) (a_u a_U a_g (b_F b_S (by rfl) B.int g_J (a_a (c_n a_I (a_r a_o (pv 1) a_g (λ_ _=>rfl)) a_k (a_q _)) a_d))))
   (a_c (a_C (a_l a_I (a_r a_o (pv 1) a_g (λ_ _=>rfl)) a_k (a_q _)) (a_f (a_n (c_w (x:="_law_row") (fns:= ["_law_spot","_law_deed"]) (js:= [3,1]) rfl ⟨rfl,by decide+kernel,by decide+kernel,rfl,by decide+kernel,by decide+kernel,rfl,by simp[Env.kindOf];exact⟨rfl,rfl⟩,rfl,by decide+kernel⟩ (b_e (pv 2)) (λ_ _ _ _=>(d_B (b_r (a_j GLi S rfl gLi.mg gLi.kp gLi.b .nil a_v (a_a (a_r (b_f K) (pv 2) a_g (λ_ _=>rfl)) (a_a (a_r (b_f K) (pv 0) (pv 1) (λ_ _=>rfl)) (a_a (a_r (b_f K) (pv 2) a_g (λ_ _=>rfl)) a_d))))))) (λ_ _ _ _=>(pv 0))))) a_p)
   (a_c (a_C (a_l a_I (a_r a_o (pv 1) a_g (λ_ _=>rfl)) a_k (a_q _)) (a_c (a_w (i:=4) g_t.nd rfl (Or.inr rfl) (a_u b_T (a_u a_U (a_r a_o (pv 1) a_g (λ_ _=>rfl)) (a_r a_o (pv 1) a_g (λ_ _=>rfl))) a_g))
   (a_f (a_n (c_w (x:="_law_k") (fns:= ["_law_rows","_law_last","_law_deed"]) (js:= [2,4,1]) rfl ⟨rfl,by decide+kernel,by decide+kernel,rfl,by decide+kernel,by decide+kernel,rfl,by simp[Env.kindOf];exact⟨rfl,rfl,rfl⟩,rfl,by decide+kernel⟩ (c_d rfl B.range (a_a (a_t a_x (by rfl) B.len s_F (a_a (pv 2) a_d)) a_d)) (λ_ _ _ _=>(d_B (b_r (a_j GLi S rfl gLi.mg gLi.kp gLi.b .nil a_v (a_a (a_r (b_f K) (pv 3) a_g (λ_ _=>rfl)) (a_a (pv 0) (a_a (pv 2) a_d))))))) (λ_ _ _ _=>(a_r (l_Z K) (pv 1) (pv 0) (λ_ _=>rfl))))))) a_p)
   (a_c (a_C (d_R (d_v I (a_r a_o (pv 1) a_g (λ_ _=>rfl)) (b_o I (pv 0) a_k (λ_ _=>rfl)))) (a_f (a_n a_k)) a_p)
   (a_f (a_n (b_y s_G PySem.F.slot_list_index PySem.F.type_list_index (l_a I) (pv 2) (a_a (b_o I (b_o I (pv 0) a_k (λ_ _=>rfl)) (a_r a_o (pv 1) a_g (λ_ _=>rfl)) (λ_ _=>rfl)) a_d)))))))))))),?_⟩
  have free:∀t,H t=none->t∉ff:=λt ht hc=>a8 t hc ht;have tell:∀{t:Addr} {m:List Row} {H':Hp},H t=none->Same H H'->LstAt H' t m->b_V l d=e_j m->Q (.ref t) H':=λ{t m H'} ht s' hL e=>fin (.ref t) H' s' (by rw[e];exact .rows hL (free t ht)) λt' xs e' _=>by cases e';exact ht
  have kv:=λn=>b_6 (n:=n) hR;cases d with
  | row n=>
    obtain⟨v1,v2⟩:=kv n;refine⟨_,rfl,a,_,_,_,rfl,rfl,SqT.of hd,a_e (j:=0) rfl,rfl,_,rfl,a_y (λ_=> ?_) (λq=>absurd (s_C rfl) q)⟩;refine⟨_,rfl,st,_,rfl,b_4 J,kd,rfl,.inl ⟨_,.inl Z⟩,_,rfl,a,_,_,_,rfl,rfl,SqT.of hd,a_e (j:=1) rfl,_,d_c Z,?_⟩;by_cases c:b_v l n=true
    ·obtain⟨r,ρ,g1,g2,g3,_⟩:=v2 c
     rw[g1];refine fin _ H (Same.refl H) ?_ (NewA.tup g3);simp only[b_V,g2];exact .row g3
    ·have c':b_v l n=false:=by simpa using c
     have g1:d_J (a_L rs l) (Sum.inl n)=none:=by
      cases e:d_J (a_L rs l) (Sum.inl n) with
      | none=>rfl
      | some u=>rw[e,c'] at v1;cases v1
     rw[g1];refine fin _ H (Same.refl H) ?_ (NewA.str _);simp only[b_V,b_P c'];exact .str _
  | both lo hi t0=>
    refine⟨_,rfl,a,_,_,_,rfl,rfl,SqT.of hd,a_e (j:=0) rfl,rfl,_,rfl,a_y (λq=>absurd q (by decide+kernel)) (λ_=> ?_)⟩;refine⟨_,rfl,a,_,_,_,rfl,rfl,SqT.of hd,a_e (j:=0) rfl,rfl,_,rfl,a_y (λ_=> ?_) (λq=>absurd (s_C rfl) q)⟩;refine⟨_,rfl,st,kd,mk,room,l,false,rfl,J,hk,W,Y,λd1 H1 O s1 L=> ?_⟩;obtain⟨M,v,y⟩:=id L;have a0:(a_V false l).length=l.length:=a_3 false l;refine⟨d1,rfl,⟨_,SqL.of v⟩,λLa ab=>c_m (λx=>decide (V.str x.t=V.str t0)) v y ab (by omega) ?_ (λr H2 Q q=>⟨_,rfl,q⟩) λH3 s3 a7=> ?_⟩
    ·intro r ρ H2 Qb s2 hρ k
     exact⟨_,rfl,r,_,_,_,rfl,rfl,SqT.of hρ,a_e (j:=2) rfl,_,rfl,a,_,_,_,rfl,rfl,SqT.of (s2 _ _ (s1 _ _ hd)),a_e (j:=3) rfl,rfl,_,rfl,k H2 (Same.refl H2)⟩
    obtain⟨ae,a4,a6⟩:=id a7;have ag:((a_V false l).filter λx=>decide (V.str x.t=V.str t0)).length<=l.length:=by rw[<-a0];exact s_x _ _
    refine⟨_,rfl,La,rfl,⟨_,SqL.of a4⟩,λLb G=>c_m (i_L false (.int lo) (.int hi)) a4 a6 G (by omega) ?_ (λr H2 Q q=>⟨_,rfl,q⟩) λH4 s4 a1=> ?_⟩
    ·intro r ρ H2 Qb s2 hρ k
     exact⟨_,rfl,a,_,_,_,rfl,rfl,SqT.of (s2 _ _ (s3 _ _ (s1 _ _ hd))),a_e (j:=1) rfl,_,rfl,r,_,_,_,rfl,rfl,SqT.of hρ,a_e (j:=1) rfl,_,rfl,a,_,_,_,rfl,rfl,SqT.of (s2 _ _ (s3 _ _ (s1 _ _ hd))),a_e (j:=2) rfl,_,_,_,rfl,rfl,rfl,_,rfl,k H2 (Same.refl H2)⟩
    refine tell (s1.free (s3.free G)) ((s1.trans s3).trans s4) a1 ?_;simp only[b_V];congr 2;exact List.filter_congr λx _=>by simp
  | within x lo hi=>
    refine⟨_,rfl,a,_,_,_,rfl,rfl,SqT.of hd,a_e (j:=0) rfl,rfl,_,rfl,a_y (λq=>absurd q (by decide+kernel)) (λ_=> ?_)⟩;refine⟨_,rfl,a,_,_,_,rfl,rfl,SqT.of hd,a_e (j:=0) rfl,rfl,_,rfl,a_y (λq=>absurd q (by decide+kernel)) (λ_=> ?_)⟩;refine⟨_,rfl,a,_,_,_,rfl,rfl,SqT.of hd,a_e (j:=1) rfl,by show 2<=sizeLine;decide,λn1 T=> ?_⟩;have s0:=Same.upd_new (o:= .lst [V.str "rank",V.str "text"]) T;refine⟨n1,_,rfl,.inl (SqL.of a_b),rfl,rfl,_,rfl,?_⟩;generalize upd H n1 (.lst [V.str "rank",V.str "text"])=H0 at s0 ⊢;have U:=s0 _ _ hd;rcases d_L hf.2 with⟨C,R⟩ | ⟨w,rfl,C,N⟩
    ·refine a_y (λ_=> ?_) (λq=>absurd (by rw[if_pos rfl,C];rfl) q)
     refine fin _ H0 s0 ?_ (NewA.str _);simp only[b_V,R];exact .str _
    refine a_y (λq=>by rw[if_pos rfl,C] at q;cases q) (λ_=> ?_);refine⟨_,rfl,_,rfl,a,_,_,_,rfl,rfl,SqT.of U,a_e (j:=1) rfl,st,kd,mk,room,l,w,rfl,s0 _ _ J,KeptAt.same hk s0,W,Y,λd1 H1 O s1 L=> ?_⟩;have p:=s0.trans s1;have g:=p _ _ hd;refine⟨_,rfl,a,_,_,_,rfl,rfl,SqT.of g,a_e (j:=1) rfl,rfl,.inr ⟨_,rfl,_,_,rfl,rfl,?_⟩⟩;dsimp only;rw[e_a];have a2:H d1=none:=s0.free O;obtain⟨M,v,y⟩:=id L;have a0:(a_V w l).length=l.length:=a_3 w l;refine⟨_,rfl,a,_,_,_,rfl,rfl,SqT.of g,a_e (j:=0) rfl,rfl,_,rfl,a_y (λ_=> ?_) (λq=>absurd (s_C rfl) q)⟩;refine⟨_,rfl,d1,rfl,⟨_,SqL.of v⟩,λLb G=>c_m (i_L w lo hi) v y G (by omega) ?_ (λr H2 Q q=>⟨_,rfl,q⟩) λH4 s4 a1=> ?_⟩
    ·intro r ρ H2 Qb s2 hρ k
     obtain⟨q1,q2⟩:=i_z hf.1 ρ;exact⟨_,rfl,a,_,_,_,rfl,rfl,SqT.of (s2 _ _ g),a_e (j:=2) rfl,_,rfl,_,rfl,r,_,_,_,rfl,rfl,SqT.of hρ,h_X w ρ,_,rfl,a,_,_,_,rfl,rfl,SqT.of (s2 _ _ g),a_e (j:=3) rfl,_,_,_,rfl,q1,q2,_,rfl,k H2 (Same.refl H2)⟩
    refine tell (p.free G) (p.trans s4) a1 ?_;simp only[b_V,N]
  | «from» x k m=>
    refine⟨_,rfl,a,_,_,_,rfl,rfl,SqT.of hd,a_e (j:=0) rfl,rfl,_,rfl,a_y (λq=>absurd q (by decide+kernel)) (λ_=> ?_)⟩;refine⟨_,rfl,a,_,_,_,rfl,rfl,SqT.of hd,a_e (j:=0) rfl,rfl,_,rfl,a_y (λq=>absurd q (by decide+kernel)) (λ_=> ?_)⟩;refine⟨_,rfl,a,_,_,_,rfl,rfl,SqT.of hd,a_e (j:=1) rfl,by show 2<=sizeLine;decide,λn1 T=> ?_⟩;have s0:=Same.upd_new (o:= .lst [V.str "rank",V.str "text"]) T;refine⟨n1,_,rfl,.inl (SqL.of a_b),rfl,rfl,_,rfl,?_⟩;generalize upd H n1 (.lst [V.str "rank",V.str "text"])=H0 at s0 ⊢;have U:=s0 _ _ hd;rcases d_L hf.1 with⟨C,R⟩ | ⟨w,rfl,C,N⟩
    ·refine a_y (λ_=> ?_) (λq=>absurd (by rw[if_pos rfl,C];rfl) q)
     refine fin _ H0 s0 ?_ (NewA.str _);simp only[b_V,R];exact .str _
    refine a_y (λq=>by rw[if_pos rfl,C] at q;cases q) (λ_=> ?_);refine⟨_,rfl,_,rfl,a,_,_,_,rfl,rfl,SqT.of U,a_e (j:=1) rfl,st,kd,mk,room,l,w,rfl,s0 _ _ J,KeptAt.same hk s0,W,Y,λd1 H1 O s1 L=> ?_⟩;have p:=s0.trans s1;have g:=p _ _ hd;refine⟨_,rfl,a,_,_,_,rfl,rfl,SqT.of g,a_e (j:=1) rfl,rfl,.inr ⟨_,rfl,_,_,rfl,rfl,?_⟩⟩;dsimp only;rw[e_a];have a2:H d1=none:=s0.free O;obtain⟨M,v,y⟩:=id L;have a0:(a_V w l).length=l.length:=a_3 w l;refine⟨_,rfl,a,_,_,_,rfl,rfl,SqT.of g,a_e (j:=0) rfl,rfl,_,rfl,a_y (λq=>absurd q (by decide+kernel)) (λ_=> ?_)⟩;refine⟨_,rfl,a,_,_,_,rfl,rfl,SqT.of g,a_e (j:=0) rfl,rfl,_,rfl,a_y (λ_=> ?_) (λq=>absurd (s_C rfl) q)⟩;refine⟨_,rfl,a,_,_,_,rfl,rfl,SqT.of g,a_e (j:=2) rfl,_,rfl,a,_,_,_,rfl,rfl,SqT.of g,a_e (j:=3) rfl,_,_,rfl,rfl,_,_,rfl,rfl,?_⟩;have af:=y.len;have a3:((((M.map V.ref).length:Nat):Int)).toNat=(a_V w l).length:=by rw[r_W];omega
    refine⟨_,rfl,d1,_,rfl,.inl (SqL.of v),_,rfl,by omega,by rw[r_W];omega,λLb G=> ?_⟩;refine i_s (lo:=0) (λi ys H5=>Same H1 H5/\∃bs:List Addr,ys=bs.map V.ref/\RowsAt H5 bs (c_q k (k+m) 0 ((a_V w l).take i))) ⟨Same.upd_new G, [],rfl,.nil⟩ ?_ ?_
    ·rintro i ys H5 hi X ⟨s5,bs,rfl,hb⟩
     rw[a3] at hi;obtain⟨ρ,hρ⟩:∃ρ,(a_V w l)[i]? =some ρ:=⟨_,r_X hi⟩;obtain⟨r,er,aa⟩:=y.get hρ;have gr:(M.map V.ref)[i]? =some (V.ref r):=by rw[r_8,er];rfl
     have e0:(0:Int)+(i:Int)=(i:Int):=by omega
     rw[e0];refine⟨_,rfl,a,_,_,_,rfl,rfl,SqT.of (s5 _ _ g),a_e (j:=2) rfl,_,rfl,_,rfl,_,_,_,rfl,rfl,rfl,_,rfl,?_⟩;have ad:=hb.len
     have ac:(c_q k (k+m) 0 ((a_V w l).take i)).length<=i:=by
      rw[c_g,List.length_drop,s_i,s_i];omega
     have et:(a_V w l).take (i+1)=(a_V w l).take i++ [ρ]:=by rw[s_n,hρ];rfl
     have a9:((a_V w l).take i).length=i:=by rw[s_i];omega
     have eone:c_q k (k+m) 0 ((a_V w l).take (i+1))=c_q k (k+m) 0 ((a_V w l).take i)++if k<=(i:Int)/\(i:Int) < k+m then [ρ] else []:=by
      rw[et,e_O,a9,Nat.zero_add];congr 1;unfold c_q;rw[List.zipIdx_cons,List.filterMap_cons];by_cases c:k<=(i:Int)/\(i:Int) < k+m
      ·rw[if_pos c,if_pos c];rfl
      ·rw[if_neg c,if_neg c];rfl
     refine a_y (λc=> ?_) (λc=> ?_)
     ·have c':k≤(i:Int)∧(i:Int) < k+m:=by
       have:((!decide ((i:Int) < k))&& !decide (k+m - 1 < (i:Int)))=true:=c;simp at this;omega
      refine⟨_,rfl,_,rfl,d1,_,_,_,rfl,rfl,SqL.of (s5 _ _ v),a_e gr,X,?_, λb u a5=> ?_, bs++ [r],by rw[r_4];rfl,?_⟩
      ·rw[r_W];exact a_F (by omega)
      ·rw[a_i (a_h a5 G)];exact s5 _ _ a5
      ·rw[eone,if_pos c']
       exact (RowsAt.app hb (.cons (s5 _ _ aa) .nil)).same (NoTup.keep (NoTup.lst X))
     ·have c':¬ (k≤(i:Int)∧(i:Int) < k+m):=fun z=>c (by
       show ((!decide ((i:Int) < k))&& !decide (k+m - 1 < (i:Int)))=true;simp;omega)
      refine⟨X,s5,bs,rfl,?_⟩;rw[eone,if_neg c',s_t];exact hb
    ·rintro ys H5 X ⟨s5,bs,rfl,hb⟩
     rw[a3,s_g (r_5 _)] at hb;refine tell (p.free G) (p.trans s5) ⟨bs,X,hb⟩ ?_;simp only[b_V,N,e_H]
  | spot x n=>
    obtain⟨v1,v2⟩:=kv n;refine⟨_,rfl,a,_,_,_,rfl,rfl,SqT.of hd,a_e (j:=0) rfl,rfl,_,rfl,a_y (λq=>absurd q (by decide+kernel)) (λ_=> ?_)⟩;refine⟨_,rfl,a,_,_,_,rfl,rfl,SqT.of hd,a_e (j:=0) rfl,rfl,_,rfl,a_y (λq=>absurd q (by decide+kernel)) (λ_=> ?_)⟩;refine⟨_,rfl,a,_,_,_,rfl,rfl,SqT.of hd,a_e (j:=1) rfl,by show 2<=sizeLine;decide,λn1 T=> ?_⟩;have s0:=Same.upd_new (o:= .lst [V.str "rank",V.str "text"]) T;refine⟨n1,_,rfl,.inl (SqL.of a_b),rfl,rfl,_,rfl,?_⟩;generalize upd H n1 (.lst [V.str "rank",V.str "text"])=H0 at s0 ⊢;have U:=s0 _ _ hd;rcases d_L hf with⟨C,R⟩ | ⟨w,rfl,C,N⟩
    ·refine a_y (λ_=> ?_) (λq=>absurd (by rw[if_pos rfl,C];rfl) q)
     refine fin _ H0 s0 ?_ (NewA.str _);simp only[b_V,R];exact .str _
    refine a_y (λq=>by rw[if_pos rfl,C] at q;cases q) (λ_=> ?_);refine⟨_,rfl,_,rfl,a,_,_,_,rfl,rfl,SqT.of U,a_e (j:=1) rfl,st,kd,mk,room,l,w,rfl,s0 _ _ J,KeptAt.same hk s0,W,Y,λd1 H1 O s1 L=> ?_⟩;have p:=s0.trans s1;have g:=p _ _ hd;refine⟨_,rfl,a,_,_,_,rfl,rfl,SqT.of g,a_e (j:=1) rfl,rfl,.inr ⟨_,rfl,_,_,rfl,rfl,?_⟩⟩;dsimp only;rw[e_a];have a2:H d1=none:=s0.free O;obtain⟨M,v,y⟩:=id L;have a0:(a_V w l).length=l.length:=a_3 w l;refine⟨_,rfl,a,_,_,_,rfl,rfl,SqT.of g,a_e (j:=0) rfl,rfl,_,rfl,a_y (λq=>absurd q (by decide+kernel)) (λ_=> ?_)⟩;refine⟨_,rfl,a,_,_,_,rfl,rfl,SqT.of g,a_e (j:=0) rfl,rfl,_,rfl,a_y (λq=>absurd q (by decide+kernel)) (λ_=> ?_)⟩;refine⟨_,rfl,a,_,_,_,rfl,rfl,SqT.of g,a_e (j:=2) rfl,_,rfl,st,_,rfl,b_4 (p _ _ J),kd,_,rfl,d_c (p _ _ Z),_,rfl,?_⟩;rw[v1];by_cases c:b_v l n=true
    ·obtain⟨r,ρ,g1,g2,g3,_⟩:=v2 c
     refine a_y (λq=>by rw[c] at q;cases q) (λ_=> ?_);have hm:ρ∈a_V w l:=(a_4 w l).mem_iff.mpr (List.mem_of_find?_eq_some g2);refine⟨_,rfl,.inl ⟨rfl,_,SqL.of v⟩,_,rfl,st,_,rfl,b_4 (p _ _ J),_,rfl,a,_,_,_,rfl,rfl,SqT.of g,a_e (j:=2) rfl,kd,_,rfl,g1 ▸ d_c (p _ _ Z),d1,M,r,_,ρ,rfl,rfl,v,y,p _ _ g3,hm,by omega,?_⟩;refine fin _ H1 p ?_ (λt xs e=>by cases e);simp only[b_V,N,g2];rw[j_5 (c_A w W) hm,((a_4 w l).filter _).length_eq];exact .int _
    ·have c':b_v l n=false:=by simpa using c
     refine a_y (λ_=> ?_) (λq=>absurd (by rw[c'];rfl) q);refine fin _ H1 p ?_ (NewA.str _);simp only[b_V,N,b_P c'];exact .str _
  | _=>exact has.elim
end
end K1
namespace TO
open PySem L2
structure Sto.nums (s:Sto):Prop where
 kept:b_9 s.kept
 marks:∀k∈s.marks,b_9 k
theorem f_8 {room:Int} {l0:List Row} (h0:b_9 l0):∀{cs:List Chg} {i:Nat} {l:List Row},b_9 l->b_9 (d_W room l0 i l cs).1
 | [],i,l,h=>h
 | c::r,i,l,h=>by
   unfold d_W;dsimp only;split
   ·exact f_8 h0 (g_O h)
   ·exact h0
theorem g_c {room:Int} {s:Sto} {d:Deed} (h:s.nums):(s.step room d).1.nums:=by
 cases d with
 | chg c=>exact⟨g_O h.kept,h.marks⟩
 | all cs=>exact⟨f_8 h.kept h.kept,h.marks⟩
 | begin=>exact⟨h.kept,fun k hk=>by
    rcases r_7.mp hk with e | e
    ·rw[e];exact h.kept
    ·exact h.marks k e⟩
 | keep=>
   unfold Sto.step;cases e:s.marks with
   | nil=>exact h
   | cons a r=>exact⟨h.kept,λk hk=>h.marks k (by rw[e];exact r_Z _ hk)⟩
 | brk=>
   unfold Sto.step;cases e:s.marks with
   | nil=>exact h
   | cons a r=>exact⟨h.marks a (by rw[e];exact r_0 ..),λk hk=>h.marks k (by rw[e];exact r_Z _ hk)⟩
 | _=>exact h
theorem i_v {room:Int} {s:Sto} {d:Deed}:(s.step room d).1.marks.length<=s.marks.length+1:=by
 cases d with
 | keep=>
   unfold Sto.step;cases e:s.marks with
   | nil=>simp[e]
   | cons a r=>simp;omega
 | brk=>
   unfold Sto.step;cases e:s.marks with
   | nil=>simp[e]
   | cons a r=>simp;omega
 | begin=>simp[Sto.step]
 | _=>exact Nat.le_succ _
theorem e_A {room:Int} {s:Sto} {d:Deed} (h:d.asks):s.step room d=(s,b_V s.kept d):=by
 cases d <;> first | rfl | exact h.elim
theorem b_L {H H':Hp} (tk:K1.a_M H H'):∀{ms:List Addr} {ls:List (List Row)},Paired (KeptAt H) ms ls->(∀b∈ms,∀u,H b=some u->H' b=some u)->Paired (KeptAt H') ms ls
 | _,_,.nil,_=> .nil
 | _,_,.cons h t,hk=> .cons (by
    obtain⟨rs,h1,h2⟩:=h;exact⟨rs,hk _ (r_0 ..) _ h1,h2.same tk⟩) (b_L tk t λb hb=>hk b (r_Z _ hb))
end TO
namespace K1
open PySem L2 TO
structure StoAt (H:Hp) (st kd mk:Addr) (mas:List Addr) (room:Int) (s:Sto):Prop where
 sto:H st=some (.dK (e_X room kd mk))
 kept:KeptAt H kd s.kept
 marks:H mk=some (.lst (mas.map V.ref))
 ms:Paired (KeptAt H) mas s.marks.reverse
 nd:(st::mk::kd::mas).Nodup
theorem StoAt.same {H H':Hp} {st kd mk:Addr} {mas:List Addr} {room:Int} {s:Sto} (S:StoAt H st kd mk mas room s) (h:Same H H'):StoAt H' st kd mk mas room s:=
 ⟨h _ _ S.sto,KeptAt.same S.kept h,h _ _ S.marks,b_L (λb xs q=>h _ _ q) S.ms λb _ u q=>h _ _ q,S.nd⟩
theorem StoAt.dicts {H:Hp} {st kd mk:Addr} {mas:List Addr} {room:Int} {s:Sto} (S:StoAt H st kd mk mas room s):∀b∈mas,∃kvs,H b=some (.dK kvs):=by
 have aux:∀{ms:List Addr} {ls:List (List Row)},Paired (KeptAt H) ms ls->∀b∈ms,∃kvs,H b=some (.dK kvs):=by
  intro ms ls h;induction h with
  | nil=>intro b hb;cases hb
  | cons h t ih=>
    intro b hb;rcases r_7.mp hb with e | e
    ·obtain⟨rs,q,_⟩:=h;rw[e];exact⟨_,q⟩
    ·exact ih b e
 exact aux S.ms
theorem StoAt.fpin {H:Hp} {st kd mk:Addr} {mas:List Addr} {room:Int} {s:Sto} (S:StoAt H st kd mk mas room s):∀b∈st::mk::kd::mas,(∃u,H b=some u)/\∀xs,H b≠some (.tup xs):=λb hb=>by
 rcases r_7.mp hb with e | hb
 ·rw[e];exact⟨⟨_,S.sto⟩,λxs q=>by rw[S.sto] at q;cases q⟩
 rcases r_7.mp hb with e | hb
 ·rw[e];exact⟨⟨_,S.marks⟩,λxs q=>by rw[S.marks] at q;cases q⟩
 rcases r_7.mp hb with e | hb
 ·obtain⟨rs,q,_⟩:=S.kept
  rw[e];exact⟨⟨_,q⟩,λxs q'=>by rw[q] at q';cases q'⟩
 ·obtain⟨kvs,q⟩:=S.dicts b hb
  exact⟨⟨_,q⟩,λxs q'=>by rw[q] at q';cases q'⟩
def WD (x:Str):Deed->Prop
 | .chg _=>inV (.str x) [V.str "bring",V.str "alter",V.str "cut"]=true
 | .all _=>x="all"
 | .begin=>x="begin"
 | .keep=>x="keep"
 | .brk=>x="break"
 | _=>inV (.str x) [V.str "bring",V.str "alter",V.str "cut"]=false/\¬ V.str x=V.str "all"/\¬ V.str x=V.str "begin"/\inV (.str x) [V.str "keep",V.str "break"]=false
theorem j_D {H:Hp} {a:Addr} {d:Deed} (hd:DeedAt H a d):∃(x:Str) (r:List V),H a=some (.tup (.str x::r))/\WD x d:=by
 cases d with
 | chg c=>
   cases c with
   | bring ρ=>obtain⟨r,h1,h2⟩:=id hd;exact⟨"bring",_,h1,show inV _ _=true by decide+kernel⟩
   | alter ρ=>obtain⟨r,h1,h2⟩:=id hd;exact⟨"alter",_,h1,show inV _ _=true by decide+kernel⟩
   | cut n=>exact⟨"cut",_,hd,show inV _ _=true by decide+kernel⟩
 | all cs=>obtain⟨l,as,h1,_⟩:=id hd;exact⟨_,_,h1,rfl⟩
 | begin=>exact⟨_,_,hd,rfl⟩
 | keep=>exact⟨_,_,hd,rfl⟩
 | brk=>exact⟨_,_,hd,rfl⟩
 | row n=>exact⟨_,_,hd,by decide+kernel,by decide+kernel,by decide+kernel,by decide+kernel⟩
 | within x lo hi=>exact⟨_,_,hd,by decide+kernel,by decide+kernel,by decide+kernel,by decide+kernel⟩
 | both lo hi t=>exact⟨_,_,hd,by decide+kernel,by decide+kernel,by decide+kernel,by decide+kernel⟩
 | «from» x k m=>exact⟨_,_,hd,by decide+kernel,by decide+kernel,by decide+kernel,by decide+kernel⟩
 | spot x n=>exact⟨_,_,hd,by decide+kernel,by decide+kernel,by decide+kernel,by decide+kernel⟩
theorem e_l {room:Int} {l0:List Row}:∀{cs:List Chg} {i:Nat} {l:List Row},(d_W room l0 i l cs).2= .str "done"\/∃j x,(d_W room l0 i l cs).2= .tup [.int j,.str x]
 | [],i,l=> .inl rfl
 | c::r,i,l=>by
   unfold d_W;dsimp only;split
   ·exact e_l
   ·exact .inr ⟨_,_,rfl⟩
theorem n_O {H H':Hp} {f:List Addr} {d:D} {v:V} (h:d= .str "done"\/∃j x,d= .tup [.int j,.str x]) (hb:Bears H' d v):Ans H' f d v/\NewA H H' v:=by
 rcases h with rfl | ⟨j,x,rfl⟩
 ·cases hb
  exact⟨.str _,NewA.str _⟩
 ·cases hb with
  | tup h1 h2=>
    cases h2 with
    | cons a b=>
      cases a;cases b with
      | cons a b=>
        cases a;cases b;exact⟨.pair h1,NewA.tup h1⟩
theorem c_6 {α β:Type} {F:α->β->Prop} {b:β}:∀{l:List α} {B:List β},Paired F l (B++ [b])->∃l0 a,l=l0++ [a]/\Paired F l0 B/\F a b
 | [],B,h=>by have:=Paired.length h;simp at this
 | x::r, [],h=>by
   cases h with
   | cons h t=>
     cases t;exact⟨[],x,rfl,.nil,h⟩
 | x::r,c::B,h=>by
   cases h with
   | cons h t=>
     obtain⟨l0,a,e,p,q⟩:=c_6 t;exact⟨x::l0,a,by rw[e];rfl,.cons h p,q⟩
abbrev n_Q (H:Hp) (st kd mk:Addr) (mas:List Addr) (room:Int) (Q:VK) (r:Sto×D):Prop:=∀(v:V) (kd':Addr) (mas':List Addr) (H':Hp),StoAt H' st kd' mk mas' room r.1->Stp H H' (st::mk::kd::mas) (st::mk::kd'::mas')->a_M H H'->Ans H' (st::mk::kd'::mas') r.2 v->NewA H H' v->Q v H'
section
variable {P:Program} {w:World} {K:PySem.W.Frag} {mg:Str->Option Value} {base:Heap}
def f_a:Sp:=λvs H Q _=>∃(st kd mk a:Addr) (mas:List Addr) (room sd:Int) (s:Sto) (d:Deed),vs= [.ref st,.ref a]/\StoAt H st kd mk mas room s/\DeedAt H a d/\d.form/\d.tell sd/\s.inML sd/\s.nums/\s.marks.length<=900/\d.wsz<=900/\n_Q H st kd mk mas room Q (s.step room d)
theorem f_e:a_s ["_law_store","_law_deed","_law_before"] ["_law_store","_law_deed"] (a_m e_D):=⟨rfl,rfl,rfl,by decide+kernel,rfl,by decide+kernel,by decide+kernel⟩
theorem h_p {f fCd fAl fTo:Addr} {fd fdCd fdAl fdTo:FuncData} (F:Fun K "_law_answered" "_law_answered" e_D f fd) (B:Bt mg) (gCd:Gf K mg "_law_changed" fCd fdCd ["_law_store","_law_deed"]) (GCd:FnOk P w K mg base CX0 1 fCd fdCd ["_law_store","_law_deed"] e_N)
 (gAl:Gf K mg "_law_all_changed" fAl fdAl ["_law_store","_law_deeds"]) (GAl:FnOk P w K mg base CX0 2 fAl fdAl ["_law_store","_law_deeds"] d_Q) (gTo:Gf K mg "_law_told_by_all" fTo fdTo ["_law_store","_law_deed"]) (GTo:FnOk P w K mg base CX0 2 fTo fdTo ["_law_store","_law_deed"] m_r):FnOk P w K mg base CX0 3 f fd ["_law_store","_law_deed"] f_a:=by
 refine F.ok f_e (λvs H Q E h=> ?_) (λcdv A outer s H vs Q E hr h=> ?_)
 ·obtain⟨st,kd,mk,a,mas,room,sd,so,d,rfl,_⟩:=h
  rfl
 ·obtain⟨st,kd,mk,a,mas,room,sd,so,d,rfl,S,hd,hf,ai,ag,X,hm,ad,fin⟩:=h
  have O:=e_Y hr;have hu:=hr.units0;have ac:Room 1 _:=hr.mono (by decide);have a6:Room 2 _:=hr.mono (by decide)
  refine⟨_,(a_c (a_C (a_l d_d (a_r a_o (pv 1) a_g (λ_ _=>rfl)) (a_O (a_a a_k (a_a a_k (a_a a_k a_d)))) (by with_unfolding_all rfl)) (a_f (a_n (a_j GCd ac rfl gCd.mg gCd.kp gCd.b .nil a_v (a_a (pv 0) (a_a (pv 1) a_d))))) a_p)
   (a_c (a_C (a_l a_I (a_r a_o (pv 1) a_g (λ_ _=>rfl)) a_k (a_q _)) (a_f (a_n (a_j GAl a6 rfl gAl.mg gAl.kp gAl.b .nil a_v (a_a (pv 0) (a_a (a_r a_o (pv 1) a_g (λ_ _=>rfl)) a_d))))) a_p)
   (a_c (a_C (a_l a_I (a_r a_o (pv 1) a_g (λ_ _=>rfl)) a_k (a_q _)) (a_c (a_z (b_y s_G s_I s_H a_N (b_o O (pv 0) a_k (λ_ _=>rfl)) (a_a (e_u PySem.F.plainAttrs_dict PySem.F.slot_dict_copy PySem.F.type_dict_copy h_M (b_o O (pv 0) a_k (λ_ _=>rfl))) a_d)))
   (a_f (a_n a_k))) a_p)
   (a_c (a_C (a_l d_d (a_r a_o (pv 1) a_g (λ_ _=>rfl)) (a_O (a_a a_k (a_a a_k a_d))) (by with_unfolding_all rfl)) (a_c (a_C (a_l (i_k hu) (b_o O (pv 0) a_k (λ_ _=>rfl)) (a_O a_d) (a_q _)) (a_f (a_n a_k)) a_p)
   (a_c (a_w (i:=2) f_e.nd rfl (Or.inl rfl) (e_u s_G PySem.F.slot_list_pop PySem.F.type_list_pop g_e (b_o O (pv 0) a_k (λ_ _=>rfl))))
   (a_c (a_C (a_l a_I (a_r a_o (pv 1) a_g (λ_ _=>rfl)) a_k (a_q _)) (a_f (e_q O (pv 0) a_k (pv 2) rfl)) a_p)
   (a_f (a_n a_k))))) a_p)
   (a_f (a_n (a_j GTo a6 rfl gTo.mg gTo.kp gTo.b .nil a_v (a_a (pv 0) (a_a (pv 1) a_d))))))))),?_⟩
  obtain⟨C,hk,I,M,p⟩:=id S;have aa:so.kept.length < 64:=c_P X.kept ag.kept;have Z:mas.length=so.marks.length:=by rw[Paired.length M,s_y]
  have n_sm:st≠mk:=λe=>by simp[e] at p
  have n_sk:st≠kd:=λe=>by simp[e] at p
  have n_mk:mk≠kd:=λe=>by simp[e] at p
  have n_s:∀b∈mas,b≠st:=λb hb e=>by rw[e] at hb;simp[hb] at p
  have n_m:∀b∈mas,b≠mk:=λb hb e=>by rw[e] at hb;simp[hb] at p
  have n_k:∀b∈mas,b≠kd:=λb hb e=>by rw[e] at hb;simp[hb] at p
  have n_d:mas.Nodup:=by simp at p;exact p.2.2.2
  obtain⟨rs,W,hR⟩:=id hk;have tkO:∀{H1 H2:Hp},Same H H1->(∀b u,H1 b=some u->b∉st::mk::kd::mas->H2 b=some u)->a_M H H2:=λs1 k2 b xs q=>k2 _ _ (s1 _ _ q) λhb=>(S.fpin b hb).2 xs q;have stp:∀{H1 H2:Hp} {f:List Addr},Same H H1->(∀b u,H1 b=some u->b∉st::mk::kd::mas->H2 b=some u)->(∀b∈f,b∈st::mk::kd::mas\/H b=none)->Stp H H2 (st::mk::kd::mas) f:=λs1 k2 hf=>⟨λb u q hb=>k2 _ _ (s1 _ _ q) hb,hf⟩;have msK:∀{H1 H2:Hp},Same H H1->a_M H H2->(∀b∈mas,∀u,H1 b=some u->H2 b=some u)->Paired (KeptAt H2) mas so.marks.reverse:=λs1 tk k=>b_L tk M λb hb u q=>k b hb u (s1 _ _ q);obtain⟨x,rr,hw,y⟩:=j_D hd;refine⟨_,rfl,a,_,_,_,rfl,rfl,SqT.of hw,a_e (j:=0) rfl,by show 3<=sizeLine;decide,λn1 ae=> ?_⟩;have s1:=Same.upd_new (o:= .lst [V.str "bring",V.str "alter",V.str "cut"]) ae;refine⟨n1,_,rfl,.inl (SqL.of a_b),rfl,rfl,_,rfl,?_⟩;generalize upd H n1 (.lst [V.str "bring",V.str "alter",V.str "cut"])=H1 at s1 ⊢;have G:=s1 _ _ hw;by_cases has:d.asks
  ·have hq:inV (.str x) [V.str "bring",V.str "alter",V.str "cut"]=false∧¬ V.str x=V.str "all"∧¬ V.str x=V.str "begin"∧inV (.str x) [V.str "keep",V.str "break"]=false:=by
    cases d <;> first | exact y | exact has.elim
   obtain⟨w1,w2,w3,w4⟩:=hq;refine a_y (λq=>absurd (show inV _ _=true from q) (by rw[w1];decide)) (λ_=> ?_);refine⟨_,rfl,a,_,_,_,rfl,rfl,SqT.of G,a_e (j:=0) rfl,rfl,_,rfl,a_y (λq=>absurd (s_E q) w2) (λ_=> ?_)⟩;refine⟨_,rfl,a,_,_,_,rfl,rfl,SqT.of G,a_e (j:=0) rfl,rfl,_,rfl,a_y (λq=>absurd (s_E q) w3) (λ_=> ?_)⟩;refine⟨_,rfl,a,_,_,_,rfl,rfl,SqT.of G,a_e (j:=0) rfl,by show 2<=sizeLine;decide,λn2 N=> ?_⟩;have s2:=Same.upd_new (o:= .lst [V.str "keep",V.str "break"]) N;refine⟨n2,_,rfl,.inl (SqL.of a_b),rfl,rfl,_,rfl,?_⟩;generalize upd H1 n2 (.lst [V.str "keep",V.str "break"])=H2 at s2 ⊢;have g:=s1.trans s2;refine a_y (λq=>absurd (show inV _ _=true from q) (by rw[w4];decide)) (λ_=> ?_);rw[e_A has] at fin;refine⟨_,rfl,_,rfl,st,kd,mk,a,room,so.kept,d,st::mk::kd::mas,rfl,g _ _ C,KeptAt.same hk g,DeedAt.same g hd,has,hf,aa,X.kept,λb hb=> ?_, λv H' s' hA ab=> ?_⟩
   ·obtain⟨⟨u,q⟩,_⟩:=S.fpin b hb
    rw[g _ _ q];exact λz=>by cases z
   ·exact fin v kd mas H' (S.same (g.trans s')) (stp (g.trans s') (λb u h _=>h) λb hb=> .inl hb) (tkO (g.trans s') λb u h _=>h) hA λt xs e q=>g.free (ab t xs e q)
  cases d with
  | chg c=>
    refine a_y (λ_=> ?_) (λq=>absurd (show inV _ _=true from y) q);refine⟨_,rfl,_,rfl,st,kd,mk,a,room,so.kept,c,rfl,s1 _ _ C,KeptAt.same hk s1,ChgAt.mono (H:=H) (λb xs q=>s1 _ _ q) hd,by omega,λH2 k2 s2=> ?_⟩;have R:∀b u,H1 b=some u->b∉st::mk::kd::mas->H2 b=some u:=λb u h hn=>s2 _ _ h λe=>hn (by rw[e];simp);have tk:=tkO s1 R;exact fin (.str (b_j room so.kept c).2) kd mas H2 ⟨s2 _ _ (s1 _ _ C) n_sk,k2,s2 _ _ (s1 _ _ I) n_mk,msK s1 tk λb hb u h=>s2 _ _ h (n_k b hb),p⟩ (stp s1 R λb hb=> .inl hb) tk (.str _) (NewA.str _)
  | all cs=>
    obtain⟨la,as,h1,h2,h3⟩:=id hd;have af:=s1 _ _ h1;have y:x="all":=y;subst y;refine a_y (λq=>absurd (show inV _ _=true from q) (by decide+kernel)) (λ_=> ?_);refine⟨_,rfl,a,_,_,_,rfl,rfl,SqT.of G,a_e (j:=0) rfl,rfl,_,rfl,a_y (λ_=> ?_) (λq=>absurd (s_C rfl) q)⟩;refine⟨_,rfl,_,rfl,a,_,_,_,rfl,rfl,SqT.of af,a_e (j:=1) rfl,st,kd,mk,la,as,room,so.kept,cs,rfl,s1 _ _ C,KeptAt.same hk s1,s1 _ _ h2,b_c (λb xs q=>s1 _ _ q) h3,?_, n_sk.symm,λv kd' H' q1 q2 q3 q4 q5=> ?_⟩
    ·have:cs.length<=900:=ad
     omega
    have R:∀b u,H1 b=some u->b∉st::mk::kd::mas->H' b=some u:=λb u h hn=>q4 _ _ h (λe=>hn (by rw[e];simp)) (λe=>hn (by rw[e];simp));have tk:=tkO s1 R;obtain⟨a1,a2⟩:=n_O (H:=H) (f:=st::mk::kd'::mas) e_l q5;have a5:kd'=kd\/H kd'=none:=q3.imp id λq=>s1.free q;refine fin v kd' mas H' ⟨q1,q2,q4 _ _ (s1 _ _ I) n_mk n_sm.symm,msK s1 tk λb hb u h=>q4 _ _ h (n_k b hb) (n_s b hb),?_⟩ (stp s1 R λb hb=> ?_) tk a1 a2
    ·rcases a5 with e | e
     ·rw[e];exact p
     ·have nn:∀b∈st::mk::kd::mas,b≠kd':=fun b hb z=>by
       obtain⟨⟨u,q⟩,_⟩:=S.fpin b hb;rw[z,e] at q;cases q
      have i1:=nn st (by simp);have i2:=nn mk (by simp);have i3:kd'∉mas:=λz=>nn kd' (by simp[z]) rfl;simp at p ⊢;grind
    ·rcases a5 with e | e
     ·rw[e] at hb;exact .inl hb
     ·simp at hb ⊢;grind
  | begin=>
    have y:x="begin":=y;subst y;refine a_y (λq=>absurd (show inV _ _=true from q) (by decide+kernel)) (λ_=> ?_);refine⟨_,rfl,a,_,_,_,rfl,rfl,SqT.of G,a_e (j:=0) rfl,rfl,_,rfl,a_y (λq=>absurd q (by decide+kernel)) (λ_=> ?_)⟩;refine⟨_,rfl,a,_,_,_,rfl,rfl,SqT.of G,a_e (j:=0) rfl,rfl,_,rfl,a_y (λ_=> ?_) (λq=>absurd (s_C rfl) q)⟩;refine⟨_,rfl,st,_,rfl,c_H (s1 _ _ C),.inl ⟨rfl,_,SqL.of (s1 _ _ I)⟩,_,rfl,st,_,rfl,b_4 (s1 _ _ C),.inr (.inr (.inl ⟨rfl,.inl ⟨_,s1 _ _ W⟩⟩)),kd,_,rfl,rfl,s1 _ _ W,λbd U=> ?_⟩;have s2:=Same.upd_new (o:= .dK (a_L rs so.kept)) U;have Y:(upd H1 bd (.dK (a_L rs so.kept))) bd=some (.dK (a_L rs so.kept)):=a_b;generalize upd H1 bd (.dK (a_L rs so.kept))=H2 at s2 Y ⊢;have g:=s1.trans s2;have a9:H bd=none:=s1.free U;refine⟨mk,_,_,rfl,rfl,g _ _ I,by rw[r_W];exact a_F (by omega),?_⟩;have k3:∀b u,H2 b=some u->b∉st::mk::kd::mas->(upd H2 mk (.lst (mas.map V.ref++ [V.ref bd]))) b=some u:=λb u h hn=>by rw[a_i (λe=>hn (by rw[e];simp))];exact h
    have k4:∀b u,H2 b=some u->b≠mk->(upd H2 mk (.lst (mas.map V.ref++ [V.ref bd]))) b=some u:=λb u h hn=>by rw[a_i hn];exact h
    have tk:=tkO g k3
    have nn:∀b∈st::mk::kd::mas,b≠bd:=λb hb z=>by
     obtain⟨⟨u,q⟩,_⟩:=S.fpin b hb;rw[z,a9] at q;cases q
    have i1:=nn st (by simp);have i2:=nn mk (by simp);have i4:=nn kd (by simp);have i3:bd∉mas:=λz=>nn bd (by simp[z]) rfl;refine fin (.str "done") kd (mas++ [bd]) _ ⟨k4 _ _ (g _ _ C) n_sm,⟨rs,k4 _ _ (g _ _ W) n_mk.symm,hR.same tk⟩,?_, ?_, ?_⟩ (stp g k3 λb hb=> ?_) tk (.str _) (NewA.str _)
    ·rw[a_b,r_4];rfl
    ·show Paired _ _ (so.kept::so.marks).reverse
     rw[List.reverse_cons];exact a_D (msK g tk λb hb u h=>k4 _ _ h (n_m b hb)) (.cons ⟨rs,k4 _ _ Y i2.symm,hR.same tk⟩ .nil)
    ·simp[List.nodup_append] at p ⊢;grind
    ·simp at hb ⊢;grind
  | keep=>
    have y:x="keep":=y;subst y;refine a_y (λq=>absurd (show inV _ _=true from q) (by decide+kernel)) (λ_=> ?_);refine⟨_,rfl,a,_,_,_,rfl,rfl,SqT.of G,a_e (j:=0) rfl,rfl,_,rfl,a_y (λq=>absurd q (by decide+kernel)) (λ_=> ?_)⟩;refine⟨_,rfl,a,_,_,_,rfl,rfl,SqT.of G,a_e (j:=0) rfl,rfl,_,rfl,a_y (λq=>absurd q (by decide+kernel)) (λ_=> ?_)⟩;refine⟨_,rfl,a,_,_,_,rfl,rfl,SqT.of G,a_e (j:=0) rfl,by show 2<=sizeLine;decide,λn2 N=> ?_⟩;have s2:=Same.upd_new (o:= .lst [V.str "keep",V.str "break"]) N;refine⟨n2,_,rfl,.inl (SqL.of a_b),rfl,rfl,_,rfl,?_⟩;generalize upd H1 n2 (.lst [V.str "keep",V.str "break"])=H2 at s2 ⊢;have g:=s1.trans s2;refine a_y (λ_=> ?_) (λq=>absurd (show inV _ _=true by decide+kernel) q);refine⟨_,rfl,st,_,rfl,c_H (g _ _ C),by show 0<=sizeLine;decide,λn3 a3=> ?_⟩;have s3:=Same.upd_new (o:= .lst []) a3;refine⟨mk,n3,_,rfl,rfl,SqL.of (s3 _ _ (g _ _ I)),a_b,_,rfl,?_⟩;generalize upd H2 n3 (.lst [])=H3 at s3 ⊢;have l:=g.trans s3;cases em:so.marks with
    | nil=>
      have e0:mas= []:=s_s.mp (by rw[Z,em];rfl);refine a_y (λ_=> ?_) (λq=>absurd (by rw[e0];rfl) q);have es:so.step room .keep=(so,.str "not begun"):=by simp only[Sto.step,em]
      rw[es] at fin;exact fin _ kd mas H3 (S.same l) (stp l (λb u h _=>h) λb hb=> .inl hb) (tkO l λb u h _=>h) (.str _) (NewA.str _)
    | cons m r=>
      rw[em,List.reverse_cons] at M;obtain⟨n,bd,rfl,a0,a8⟩:=c_6 M;refine a_y (λq=>absurd (show ((n++ [bd]).map V.ref).isEmpty=true from q) (by simp)) (λ_=> ?_);have es:so.step room .keep=({ so with marks:=r },.str "done"):=by simp only[Sto.step,em]
      rw[es] at fin;have J:=l _ _ I;refine⟨_,rfl,st,_,rfl,c_H (l _ _ C),.inl ⟨rfl,_,SqL.of J⟩,mk,_,V.ref bd,rfl,rfl,J,by simp,?_⟩;have edl:((n++ [bd]).map V.ref).dropLast=n.map V.ref:=by rw[r_4];exact List.dropLast_concat
      rw[edl];have k4:∀b u,H3 b=some u->b≠mk->(upd H3 mk (.lst (n.map V.ref))) b=some u:=λb u h hn=>by rw[a_i hn];exact h
      have L:(upd H3 mk (.lst (n.map V.ref))) mk=some (.lst (n.map V.ref)):=a_b;generalize upd H3 mk (.lst (n.map V.ref))=H4 at k4 L ⊢;have T:=k4 _ _ (l _ _ C) n_sm;have a4:=k4 _ _ (l _ _ hw) λe=>by rw[e,I] at hw;cases hw
      refine⟨_,rfl,a,_,_,_,rfl,rfl,SqT.of a4,a_e (j:=0) rfl,rfl,_,rfl,a_y (λq=>absurd q (by decide+kernel)) (λ_=> ?_)⟩;have a7:∀b u,H3 b=some u->b∉st::mk::kd::(n++ [bd])->H4 b=some u:=λb u h hn=>k4 b u h λe=>hn (by rw[e];simp);have tk:=tkO l a7;refine fin _ kd n H4 ⟨T,?_, L,?_, ?_⟩ (stp l a7 λb hb=> .inl ?_) tk (.str _) (NewA.str _)
      ·exact⟨rs,k4 _ _ (l _ _ W) n_mk.symm,hR.same tk⟩
      ·exact b_L tk a0 λb hb u h=>k4 _ _ (l _ _ h) (n_m b (s_v _ hb))
      ·simp at p ⊢;grind
      ·simp at hb ⊢;grind
  | brk=>
    have y:x="break":=y;subst y;refine a_y (λq=>absurd (show inV _ _=true from q) (by decide+kernel)) (λ_=> ?_);refine⟨_,rfl,a,_,_,_,rfl,rfl,SqT.of G,a_e (j:=0) rfl,rfl,_,rfl,a_y (λq=>absurd q (by decide+kernel)) (λ_=> ?_)⟩;refine⟨_,rfl,a,_,_,_,rfl,rfl,SqT.of G,a_e (j:=0) rfl,rfl,_,rfl,a_y (λq=>absurd q (by decide+kernel)) (λ_=> ?_)⟩;refine⟨_,rfl,a,_,_,_,rfl,rfl,SqT.of G,a_e (j:=0) rfl,by show 2<=sizeLine;decide,λn2 N=> ?_⟩;have s2:=Same.upd_new (o:= .lst [V.str "keep",V.str "break"]) N;refine⟨n2,_,rfl,.inl (SqL.of a_b),rfl,rfl,_,rfl,?_⟩;generalize upd H1 n2 (.lst [V.str "keep",V.str "break"])=H2 at s2 ⊢;have g:=s1.trans s2;refine a_y (λ_=> ?_) (λq=>absurd (show inV _ _=true by decide+kernel) q);refine⟨_,rfl,st,_,rfl,c_H (g _ _ C),by show 0<=sizeLine;decide,λn3 a3=> ?_⟩;have s3:=Same.upd_new (o:= .lst []) a3;refine⟨mk,n3,_,rfl,rfl,SqL.of (s3 _ _ (g _ _ I)),a_b,_,rfl,?_⟩;generalize upd H2 n3 (.lst [])=H3 at s3 ⊢;have l:=g.trans s3;cases em:so.marks with
    | nil=>
      have e0:mas= []:=s_s.mp (by rw[Z,em];rfl);refine a_y (λ_=> ?_) (λq=>absurd (by rw[e0];rfl) q);have es:so.step room .brk=(so,.str "not begun"):=by simp only[Sto.step,em]
      rw[es] at fin;exact fin _ kd mas H3 (S.same l) (stp l (λb u h _=>h) λb hb=> .inl hb) (tkO l λb u h _=>h) (.str _) (NewA.str _)
    | cons m r=>
      rw[em,List.reverse_cons] at M;obtain⟨n,bd,rfl,a0,a8⟩:=c_6 M;refine a_y (λq=>absurd (show ((n++ [bd]).map V.ref).isEmpty=true from q) (by simp)) (λ_=> ?_);have es:so.step room .brk=(⟨m,r⟩,.str "done"):=by simp only[Sto.step,em]
      rw[es] at fin;have J:=l _ _ I;refine⟨_,rfl,st,_,rfl,c_H (l _ _ C),.inl ⟨rfl,_,SqL.of J⟩,mk,_,V.ref bd,rfl,rfl,J,by simp,?_⟩;have edl:((n++ [bd]).map V.ref).dropLast=n.map V.ref:=by rw[r_4];exact List.dropLast_concat
      rw[edl];have k4:∀b u,H3 b=some u->b≠mk->(upd H3 mk (.lst (n.map V.ref))) b=some u:=λb u h hn=>by rw[a_i hn];exact h
      have L:(upd H3 mk (.lst (n.map V.ref))) mk=some (.lst (n.map V.ref)):=a_b;generalize upd H3 mk (.lst (n.map V.ref))=H4 at k4 L ⊢;have T:=k4 _ _ (l _ _ C) n_sm;have a4:=k4 _ _ (l _ _ hw) λe=>by rw[e,I] at hw;cases hw
      refine⟨_,rfl,a,_,_,_,rfl,rfl,SqT.of a4,a_e (j:=0) rfl,rfl,_,rfl,a_y (λ_=> ?_) (λq=>absurd (s_C rfl) q)⟩;refine⟨_,rfl,_,rfl,st,_,rfl,DPut.k (k:=Sum.inr ("kept":Str)) T (by show 3 < sizeLine;decide),?_⟩;rw[j_k]
      have k5:∀b u,H3 b=some u->b∉st::mk::kd::(n++ [bd])->(upd H4 st (.dK (e_X room bd mk))) b=some u:=λb u h hn=>by
       rw[a_i (λe=>hn (by rw[e];simp))];exact k4 b u h λe=>hn (by rw[e];simp)
      have k6:∀b∈n++ [bd],∀u,H b=some u->(upd H4 st (.dK (e_X room bd mk))) b=some u:=λb hb u h=>by
       rw[a_i (n_s b hb)];exact k4 _ _ (l _ _ h) (n_m b hb)
      have tk:=tkO l k5;obtain⟨rb,U,ah⟩:=a8;refine fin _ bd n _ ⟨a_b,?_, ?_, ?_, ?_⟩ (stp l k5 λb hb=> .inl ?_) tk (.str _) (NewA.str _)
      ·exact⟨rb,k6 bd (by simp) _ U,ah.same tk⟩
      ·rw[a_i n_sm.symm];exact L
      ·exact b_L tk a0 λb hb u h=>k6 b (s_v _ hb) u h
      ·simp[List.nodup_append] at p ⊢;grind
      ·simp at hb ⊢;grind
  | _=>exact absurd trivial has
end
mutual
theorem Bears.same {H H':Hp} (s:Same H H'):∀{d:D} {v:V},Bears H d v->Bears H' d v
 | _,_,.int i=> .int i
 | _,_,.str x=> .str x
 | _,_,.lst h t=> .lst (s _ _ h) (BearsL.same s t)
 | _,_,.tup h t=> .tup (s _ _ h) (BearsL.same s t)
theorem BearsL.same {H H':Hp} (s:Same H H'):∀{ds:List D} {vs:List V},BearsL H ds vs->BearsL H' ds vs
 | _,_,.nil=> .nil
 | _,_,.cons h t=> .cons (Bears.same s h) (BearsL.same s t)
end
theorem p_d (ρ:Row):(j_i ρ).wt=4:=by simp[j_i,D.wt,D.wts]
theorem m_i {k:Nat}:∀{l:List D},(∀d∈l,d.wt<=k)->D.wts l<=k * l.length
 | [],_=>by simp[D.wts]
 | d::r,h=>by
   have h1:=h d (r_0 ..);have h2:=m_i (l:=r) λx hx=>h x (r_Z _ hx);simp only[D.wts,r_2,Nat.mul_add];omega
theorem d_l (l:List Row):(e_j l).wt=1+4 * l.length:=by
 show 1+D.wts (l.map j_i)=_;rw[j_p]
theorem m_t {l:List Row} {d:Deed} (hl:l.length < 64):(b_V l d).wt<=300:=by
 have hw:∀w,(a_V w l).length < 64:=λw=>by rw[a_3];exact hl
 have hf:∀(m:List Row) (p:Row->Bool),(m.filter p).length<=m.length:=λm p=>s_x _ _;cases d with
 | row n=>
   simp only[b_V];split
   ·rw[p_d];omega
   ·simp[D.wt]
 | both lo hi t=>
   simp only[b_V];rw[d_l];have h1:=hf ((a_V false l).filter λx=>decide (x.t=t)) (i_L false (.int lo) (.int hi));have h2:=hf (a_V false l) λx=>decide (x.t=t);have h3:=hw false;omega
 | within x lo hi=>
   simp only[b_V];split
   ·rename_i w _
    rw[d_l];have h1:=hf (a_V w l) (i_L w lo hi);have h3:=hw w;omega
   ·simp[D.wt]
 | «from» x k m=>
   simp only[b_V];split
   ·rename_i w _
    rw[d_l,e_H,c_g,List.length_drop,s_i];have h3:=hw w;omega
   ·simp[D.wt]
 | spot x n=>
   simp only[b_V];split
   ·split <;> simp[D.wt]
   ·simp[D.wt]
 | _=>simp[b_V,D.wt]
theorem m_2 {room sd:Int} {s:Sto} {d:Deed} (hm:s.inML sd) (hn:s.nums):(s.step room d).2.wt<=300:=by
 by_cases has:d.asks
 ·rw[e_A has];exact m_t (c_P hn.kept hm.kept)
 ·cases d with
  | chg c=>simp[Sto.step,D.wt]
  | all cs=>
    simp only[Sto.step]
    rcases e_l (room:=room) (l0:=s.kept) (cs:=cs) (i:=0) (l:=s.kept) with e | ⟨j,x,e⟩ <;> rw[e] <;> simp[D.wt,D.wts]
  | begin=>simp[Sto.step,D.wt]
  | keep=>simp only[Sto.step];split <;> simp[D.wt]
  | brk=>simp only[Sto.step];split <;> simp[D.wt]
  | _=>exact absurd trivial has
theorem f_x (room:Int):∀(ds:List Deed) (s:Sto),(s.run room ds).2.length=ds.length
 | [],s=>rfl
 | d::r,s=>by simp only[Sto.run,r_2,f_x room r]
theorem k_k {room sd:Int}:∀{ds:List Deed} {s:Sto},(∀d∈ds,d.tell sd)->s.inML sd->s.nums->D.wts (s.run room ds).2<=300 * ds.length
 | [],s,_,_,_=>by simp[Sto.run,D.wts]
 | d::r,s,hd,hm,hn=>by
   have h1:=m_2 (room:=room) (d:=d) hm hn;have h2:=k_k (room:=room) (ds:=r) (s:=(s.step room d).1) (λe he=>hd e (r_Z _ he)) (j_Q (hd d (r_0 ..)) hm) (g_c hn);simp only[Sto.run,D.wts,r_2];omega
theorem f_N {room:Int}:∀{ds:List Deed} {s:Sto},s.nums->(s.run room ds).1.nums
 | [],s,h=>h
 | d::r,s,h=>f_N (ds:=r) (g_c h)
theorem d_j {room:Int}:∀{ds:List Deed} {s:Sto},(s.run room ds).1.marks.length<=s.marks.length+ds.length
 | [],s=>r_5 _
 | d::r,s=>by
   have h1:=i_v (room:=room) (s:=s) (d:=d);have h2:=d_j (room:=room) (ds:=r) (s:=(s.step room d).1);show ((s.step room d).1.run room r).1.marks.length<=_;rw[r_2];omega
theorem f_X {d:Deed} (h:d.form):d.wsz<=24:=by
 cases d <;> first | exact h | exact s_o _
theorem g_f:∀{ds:List Deed},(∀d∈ds,d.form)->tot ds<=25 * ds.length
 | [],_=>by simp[tot]
 | d::r,h=>by
   have h1:=f_X (h d (r_0 ..));have h2:=g_f (ds:=r) λx hx=>h x (r_Z _ hx);have e:tot (d::r)=(d.wsz+1)+tot r:=by simp[tot]
   rw[e,r_2];omega
theorem e_5 {K:PySem.W.Frag} {a Da:Addr} {σ:L2.St} {js:List Nat} {tt:TT} {te:TE} {QQ:Hp->Prop} {H:Hp} {as:List Addr} {ds:List Deed} (sd:Int) (ha:H a=some (.lst (as.map .ref))) (hP:Paired (DeedAt H) as ds) (hf:∀d∈ds,d.form/\d.short) (hD:H Da=none) (hsz:ds.length<=900)
 (ht:∀σ H2 (Qb:Bool->Hp->Prop),Qb true H2->tt σ H2 Qb)
 (he:∀b d H2 (Q:VK),Same H H2->DeedAt H2 b d->d.form->d.short->(∀(b':Addr) (d':Deed) (H3:Hp),Same H2 H3->DeedAt H3 b' d'->d'.form->d'.tell sd->(∀l',H3 b'=some (.tup [.str "all",.ref l'])->H2 l'=none)->(d.asks->d'.asks)->Q (.ref b') H3)->te (b_q σ js (some (.ref b))) H2 Q)
 (hd:∀H' bs ds',Same H H'->H' Da=some (.lst (bs.map V.ref))->Paired (DeedAt H') bs ds'->ds'.length=ds.length->(∀d∈ds',d.form/\d.tell sd)->((∀d∈ds,d.asks)->∀d∈ds',d.asks)->QQ H'):∃W:Nat->Nat->Hp->Prop,(∃m,W 0 m (upd H Da (.lst [])))/\e_W (Itl K a) Da σ js tt te QQ W:=by
 have k:=Paired.length hP;refine c_I (K:=K) (xs:=as.map V.ref) (λi ys H5=>Same H H5/\∃(bs:List Addr) (ds':List Deed),ys=bs.map V.ref/\Paired (DeedBy Da H5) bs ds'/\ds'.length=i/\∀d∈ds',(d.form/\d.tell sd)/\((∀e∈ds,e.asks)->d.asks)) ⟨Same.upd_new hD, [], [],rfl,.nil,rfl,by simp⟩ (λi ys H5 _ _ h=>SqL.of (h.1 _ _ ha)) ?_ ?_
 ·rintro i v ys H5 hi c ⟨s5,bs,ds',rfl,hb,hl,hg⟩
  rw[r_8] at hi;cases e:as[i]? with
  | none=>rw[e] at hi;cases hi
  | some r=>
    rw[e] at hi;obtain rfl:V.ref r=v:=r_3 hi;have l:=(s_a.mp e).1;obtain⟨d,hdd⟩:∃d,ds[i]? =some d:=⟨_,r_X (by omega)⟩;obtain⟨a',e',j⟩:=a_T hP hdd;rw[e] at e';obtain rfl:r=a':=r_3 e';obtain⟨f1,f2⟩:=hf d (s_m hdd);refine ht _ _ _ (k_X (he r d H5 _ s5 (DeedAt.same s5 j) f1 f2 λb' d' H6 s6 h1 h2 h3 h4 h5=>⟨s6 _ _ c,?_, λb u g=> ?_, bs++ [b'],ds'++ [d'],by rw[r_4];rfl,?_, by simp[hl],λx hx=> ?_⟩))
    ·have:=Paired.length hb
     rw[r_W];exact a_F (by omega)
    ·rw[a_i (a_h g hD)]
     exact s6 _ _ (s5 _ _ g)
    ·refine j_g (s6 _ _ c) (a_D (d_b s6 hb) (.cons ⟨h1,λl' q z=> ?_⟩ .nil))
     have:=h4 l' q;rw[z,c] at this;cases this
    ·rcases s_e.mp hx with q | q
     ·exact hg x q
     ·rw[r_1.mp q];exact⟨⟨h2,h3⟩,λz=>h5 (z d (s_m hdd))⟩
 ·rintro ys H5 c ⟨s5,bs,ds',rfl,hb,hl,hg⟩
  rw[r_W] at hl;exact hd H5 bs ds' s5 c (f_t hb) (by omega) (λd f=>(hg d f).1) λz d f=>(hg d f).2 z
theorem g_Q {K:PySem.W.Frag} {a Da st mk:Addr} {σ:L2.St} {js:List Nat} {tt:TT} {te:TE} {QQ:Hp->Prop} {H0 H:Hp} {as:List Addr} {ds:List Deed} {kd:Addr} {mas:List Addr} {room sd:Int} {s0:Sto} (ha:H0 a=some (.lst (as.map .ref))) (hP:Paired (DeedAt H0) as ds) (hf:∀d∈ds,d.form/\d.tell sd) (sm0:Same H0 H) (hD:H Da=none) (hsz:s0.marks.length+ds.length<=900)
 (S0:StoAt H st kd mk mas room s0) (hfp:∀b∈st::mk::kd::mas,H0 b=none) (hm0:s0.inML sd) (hn0:s0.nums)
 (ht:∀σ H2 (Qb:Bool->Hp->Prop),Qb true H2->tt σ H2 Qb)
 (he:∀b d H2 (Q:VK) kd mas s,StoAt H2 st kd mk mas room s->DeedAt H2 b d->d.form->d.tell sd->s.inML sd->s.nums->s.marks.length<=900->n_Q H2 st kd mk mas room Q (s.step room d)->te (b_q σ js (some (.ref b))) H2 Q)
 (hd:∀H' vs kd' mas',Same H0 H'->H' Da=some (.lst vs)->Paired (Ans H' (Da::st::mk::kd'::mas')) (s0.run room ds).2 vs->StoAt H' st kd' mk mas' room (s0.run room ds).1->(∀b∈st::mk::kd'::mas',H0 b=none)->Da∉st::mk::kd'::mas'->QQ H'):∃W:Nat->Nat->Hp->Prop,(∃m,W 0 m (upd H Da (.lst [])))/\e_W (Itl K a) Da σ js tt te QQ W:=by
 have E:=Paired.length hP;have M:H0 Da=none:=sm0.free hD
 have DaF:∀{H kd mas s},H Da=none->StoAt H st kd mk mas room s->Da∉st::mk::kd::mas:=λhD S hc=>by
  obtain⟨⟨u,q⟩,_⟩:=S.fpin _ hc;rw[hD] at q;cases q
 refine c_I (K:=K) (xs:=as.map V.ref) (λi ys H5=>Same H0 H5/\∃(g:Addr) (c:List Addr),StoAt H5 st g mk c room (s0.run room (ds.take i)).1/\(∀b∈st::mk::g::c,H0 b=none)/\Da∉st::mk::g::c/\ys.length=i/\Paired (Ans H5 (Da::st::mk::g::c)) (s0.run room (ds.take i)).2 ys)
  ⟨sm0.trans (Same.upd_new hD),kd,mas,S0.same (Same.upd_new hD),hfp,DaF hD S0,rfl,.nil⟩ (λi ys H5 _ _ h=>SqL.of (h.1 _ _ ha)) ?_ ?_
 ·rintro i v ys H1 hi l ⟨k,g,c,S1,p,n,x,o⟩
  rw[r_8] at hi;cases e:as[i]? with
  | none=>rw[e] at hi;cases hi
  | some r=>
    rw[e] at hi;obtain rfl:V.ref r=v:=r_3 hi;have R:=(s_a.mp e).1;obtain⟨d,hdd⟩:∃d,ds[i]? =some d:=⟨_,r_X (by omega)⟩;obtain⟨a',e',O⟩:=a_T hP hdd;rw[e] at e';obtain rfl:r=a':=r_3 e';obtain⟨L,P⟩:=hf d (s_m hdd);have et:ds.take (i+1)=ds.take i++ [d]:=by rw[s_n,hdd];rfl
    have tl:∀e∈ds.take i,e.tell sd:=λe he=>(hf e (List.mem_of_mem_take he)).2;have C:=d_j (room:=room) (ds:=ds.take i) (s:=s0);rw[s_i] at C;refine ht _ _ _ (k_X (he r d H1 _ g c _ S1 (DeedAt.same k O) L P (g_r tl hm0) (f_N hn0) (by omega) λu j f H2 S2 F2 G J B=> ?_));have A:H2 Da=some (.lst ys):=F2.keep _ _ l n
    have y:Da∉st::mk::j::f:=λhc=>by
     rcases F2.new _ hc with q | q
     ·exact n q
     ·rw[l] at q;cases q
    have I:Same H0 H2:=λb u hb=>F2.keep _ _ (k _ _ hb) λhc=>by rw[p b hc] at hb;cases hb
    have N:∀b∈st::mk::j::f,H0 b=none:=λb hb=>by
     rcases F2.new b hb with q | q
     ·exact p b q
     ·exact k.free q
    have F3:Stp H1 H2 (Da::st::mk::g::c) (Da::st::mk::j::f):=F2.wide (λb hb=>r_Z _ hb) λb hb=>by
     rcases r_7.mp hb with q | q
     ·exact .inl (by rw[q];exact r_0 ..)
     ·exact .inr q
    have w:a_M H2 (upd H2 Da (.lst (ys++ [u]))):=λb xs e=>by rw[a_i (λq=>by rw[q,A] at e;cases e)];exact e
    have k4:∀b u',H2 b=some u'->b≠Da->(upd H2 Da (.lst (ys++ [u]))) b=some u':=λb u' e hn=>by rw[a_i hn];exact e
    have F4:Stp H2 (upd H2 Da (.lst (ys++ [u]))) (Da::st::mk::j::f) (Da::st::mk::j::f):=⟨λb u' e hn=>k4 b u' e λq=>hn (by rw[q];exact r_0 ..),λb hb=> .inl hb⟩
    have F:=J.more (lf:=Da) λt xs e1 e2 q=>by
     have:=B t xs e1 e2;rw[q,l] at this;cases this
    refine⟨A,by rw[x];exact a_F (by omega),λb u' hb=> ?_, j,f,?_, N,y,by simp[x],?_⟩
    ·rw[a_i (a_h hb M)];exact I _ _ hb
    ·rw[et,c_L]
     obtain⟨rs,q1,q2⟩:=S2.kept;have ne:∀b∈st::mk::j::f,b≠Da:=λb hb z=>y (by rw[<-z];exact hb);exact⟨k4 _ _ S2.sto (ne st (by simp)),⟨rs,k4 _ _ q1 (ne j (by simp)),q2.same w⟩,k4 _ _ S2.marks (ne mk (by simp)),b_L w S2.ms λb hb u h=>k4 _ _ h (ne b (by simp[hb])),S2.nd⟩
    ·rw[et,c_L]
     exact d_K F4 w (a_D (d_K F3 G o) (.cons F .nil))
 ·rintro ys H1 l ⟨k,g,c,S1,p,n,x,o⟩
  rw[r_W,E,s_g (r_5 _)] at S1 o;exact hd H1 ys g c k l o S1 p n
theorem k_0 {K:PySem.W.Frag} {a Da st mk:Addr} {σ:L2.St} {js:List Nat} {tt:TT} {te:TE} {QQ:Hp->Prop} {H0 H:Hp} {as:List Addr} {ds:List Deed} {kd:Addr} {mas:List Addr} {room sd:Int} {s0:Sto} (ha:H0 a=some (.lst (as.map .ref))) (hP:Paired (DeedAt H0) as ds) (hf:∀d∈ds,d.form/\d.tell sd) (sm0:Same H0 H) (hD:H Da=none) (hsz:s0.marks.length+ds.length<=900)
 (S0:StoAt H st kd mk mas room s0) (hfp:∀b∈st::mk::kd::mas,H0 b=none) (hm0:s0.inML sd) (hn0:s0.nums)
 (ht:∀σ H2 (Qb:Bool->Hp->Prop),Qb true H2->tt σ H2 Qb)
 (he:∀b d H2 (Q:VK) kd mas s,StoAt H2 st kd mk mas room s->DeedAt H2 b d->d.form->d.tell sd->s.inML sd->s.nums->s.marks.length<=900->n_Q H2 st kd mk mas room Q (s.step room d)->te (b_q σ js (some (.ref b))) H2 Q)
 (hd:∀H' vs kd' mas',Same H0 H'->H' Da=some (.lst vs)->BearsL H' (s0.run room ds).2 vs->StoAt H' st kd' mk mas' room (s0.run room ds).1->(∀b∈st::mk::kd'::mas',H0 b=none)->QQ H'):∃W:Nat->Nat->Hp->Prop,(∃m,W 0 m (upd H Da (.lst [])))/\e_W (Itl K a) Da σ js tt te QQ W:=
 g_Q ha hP hf sm0 hD hsz S0 hfp hm0 hn0 ht he λH' vs kd' mas' h1 h2 h3 h4 h5 _=>hd H' vs kd' mas' h1 h2 (b_Z h3) h4 h5
end K1
namespace TO
open PySem L2
theorem c_8 (room:Int):∀(ds es:List Deed) (s:Sto),s.run room (ds++es)=(((s.run room ds).1.run room es).1,(s.run room ds).2++((s.run room ds).1.run room es).2)
 | [],es,s=>rfl
 | d::r,es,s=>by
   show (((s.step room d).1.run room (r++es)).1,(s.step room d).2::((s.step room d).1.run room (r++es)).2)=_;rw[c_8 room r];rfl
theorem d_6 {room:Int}:∀{qs:List Deed} {s:Sto},(∀d∈qs,d.asks)->s.run room qs=(s,qs.map (b_V s.kept))
 | [],s,_=>rfl
 | d::r,s,h=>by
   unfold Sto.run;rw[e_A (h d (r_0 ..))];dsimp only;rw[d_6 λe he=>h e (r_Z _ he)];rfl
end TO
namespace K1
open PySem L2 TO
theorem BearsL.drop {H:Hp}:∀{ds:List D} {vs:List V} (n:Nat),BearsL H ds vs->BearsL H (ds.drop n) (vs.drop n)
 | _,_,0,h=>h
 | _,_,_+1,.nil=> .nil
 | _,_,n+1,.cons _ t=>BearsL.drop n t
theorem c_v {xs:List V} {n:Nat} (h:n<=xs.length):g_u xs (some (n:Int)) none=xs.drop n:=by
 have e1:HT.sIx xs.length 0 (some (n:Int))=n:=by
  unfold HT.sIx;have h0:¬ ((n:Int) < 0):=by omega
  simp[h0];omega
 have e2:HT.sIx xs.length xs.length none=xs.length:=by simp[HT.sIx]
 unfold g_u;rw[e1,e2];exact s_g (by rw[List.length_drop];omega)
theorem l_v (ns:List Int) (lo hi:Option Int):∃ns':List Int,g_u (ns.map V.int) lo hi=ns'.map V.int/\ns'.length<=ns.length:=by
 refine⟨(ns.drop (HT.sIx (ns.map V.int).length 0 lo)).take (HT.sIx (ns.map V.int).length (ns.map V.int).length hi - HT.sIx (ns.map V.int).length 0 lo),?_, ?_⟩
 ·unfold g_u
  rw[List.map_take,List.map_drop]
 ·rw[s_i,List.length_drop]
  omega
def l_x (K:PySem.W.Frag):Sp:=λvs H Q _=>∃(a:Addr) (ns:List Int),vs= [.ref a]/\SqL K H a (ns.map V.int)/\ns.length<=63/\∀H',Q (.bl true) H'
section
variable {P:Program} {w:World} {K:PySem.W.Frag} {mg:Str->Option Value} {base:Heap}
def j_O:Sp:=λvs H Q _=>∃(room sd:Int) (ld:Addr) (as:List Addr) (ds:List Deed),vs= [.int room,.ref ld]/\H ld=some (.lst (as.map V.ref))/\Paired (DeedAt H) as ds/\(∀d∈ds,d.form/\d.tell sd)/\tot ds<=6000/\ds.length<=5000/\
 ∀(t r1 r2:Addr) (H':Hp),H t=none->H r1=none->H r2=none->Same H H'->H' t=some (.tup [.ref r1,.ref r2])->LstAt H' r1 (a_V false ((⟨[], []⟩:Sto).run room ds).1.kept)->LstAt H' r2 (a_V true ((⟨[], []⟩:Sto).run room ds).1.kept)->Q (.ref t) H'
theorem k_N:a_s ["room","deeds","store"] ["room","deeds"] (a_m i_8):=⟨rfl,rfl,rfl,by decide+kernel,rfl,by decide+kernel,by decide+kernel⟩
theorem k_6 {f fN fI fRo CS CO:Addr} {fd fdN fdI fdRo:FuncData} (F:Fun K "both_orders" "both_orders" i_8 f fd) (T:Txt K mg CO) (TS:e_8 K mg CS CO) (M:Mk K CS fI) (bI:Binds K fdI ["self","room"] []) (GI:FnOk P w K mg base CX0 4 fI fdI ["self","room"] (h_A CS CO))
 (gN:Gf K mg "answers_in" fN fdN ["store","deeds"]) (GN:FnOk P w K mg base CX0 12 fN fdN ["store","deeds"] (q_I CS CO)) (mRo:Mf K CO "rows" fRo fdRo ["self"]) (GRo:FnOk P w K mg base CX0 1 fRo fdRo ["self"] (m_q CO)):FnOk P w K mg base CX0 13 f fd ["room","deeds"] j_O:=by
 refine F.ok k_N (λvs H Q E h=> ?_) (λcdv A outer s H vs Q E hr h=> ?_)
 ·obtain⟨room,sd,ld,as,ds,rfl,_⟩:=h
  rfl
 ·obtain⟨room,sd,ld,as,ds,rfl,L,hD,n,hN,v,fin⟩:=h
  have G:Room 5 _:=hr.mono (by decide);have c:Room 1 _:=hr.mono (by decide)
  refine⟨_,a_c (a_w (i:=2) k_N.nd rfl (Or.inl rfl) (f_F M GI G rfl TS.mgS bI .nil a_v (a_a (pv 0) a_d)))
   (a_c (a_z (a_j GN hr rfl gN.mg gN.kp gN.b .nil a_v (a_a (pv 2) (a_a (pv 1) a_d))))
   (a_f (a_n (a_G (a_a (b_A (a_E (pv 2) rfl) T.cl mRo.m GRo c mRo.b .nil a_v) (a_a (b_A (a_E (pv 2) rfl) T.cl mRo.m GRo c mRo.b .nil a_v) a_d)))))),?_⟩
  refine⟨_,rfl,λp dx np nd ne=>⟨p,dx,room,rfl,a_b,λA' H1 S e hf kp=>⟨rfl,?_⟩⟩⟩;have s1:=g_b np nd kp;have g:(⟨[], []⟩:Sto).inML sd:=⟨λx hx=>(by cases hx),λk hk=>(by cases hk)⟩;refine⟨_,rfl,_,rfl,H,A',ld,as,ds,0,room,sd,⟨[], []⟩,by rw[e];rfl,S,s1,λb hb=>g_T np nd (hf b hb),L,hD,n,by omega,v,g,λlf vs' A2 H2 h1 h2 h3 h4 S2 eo _ _=> ?_⟩;obtain⟨l,st,ms,C,hs,hp,_,_⟩:=S2.ex;have hn:=hs.nums;have I:=g_r (room:=room) (λd hd=>(n d hd).2) g;have X:l.length < 64:=by rw[hp.length_eq];exact c_P (b_U hp hn) I.kept
  obtain⟨J,B,B1,O1,G1,e1⟩:=StrC.ordW C hn false;obtain⟨U,z,B2,O2,G2,e2⟩:=StrC.ordW C hn true;obtain⟨W,O⟩:=O1.ob;obtain⟨N,R⟩:=O2.ob;have e0:A2.o=p:=eo.trans e;have a:=C.ob;rw[e0] at a;refine⟨_,rfl,p,CS,A2.dx,_,_,rfl,a,TS.cl,TS.nRank,f_M,A2.o1,W,_,rfl,O,a_Y _ _ (by decide+kernel) (by decide+kernel),false,A2.o1,J,B,B1,rfl,O1,by rw[e1,a_3];omega,λr1 H3 y s3 q=> ?_⟩;refine⟨_,rfl,p,CS,A2.dx,_,_,rfl,s3 _ _ a,TS.cl,TS.nText,e_I,A2.o2,N,_,rfl,s3 _ _ R,a_Y _ _ (by decide+kernel) (by decide+kernel),true,A2.o2,U,z,B2,rfl,O2.same s3,by rw[e2,a_3];omega,λr2 H4 u s4 j=>⟨by show 2<=sizeLine;decide,λt ht=> ?_⟩⟩;have s5:=Same.upd_new (o:= .tup [V.ref r1,V.ref r2]) ht;have r:=s3.trans s4;rw[e1,b_u hn hp] at q;rw[e2,b_u hn hp] at j;exact fin t r1 r2 _ (h2.free (r.free ht)) (h2.free y) (h2.free (s3.free u)) ((h2.trans r).trans s5) a_b (LstAt.sameS q (s4.trans s5)) (LstAt.sameS j s5)
def j_t:Sp:=λvs H Q _=>∃(a:Addr) (ρ:Row),vs= [.ref a]/\RowAt H a ρ/\Q (.bl true) H
theorem n_c:a_s ["_law_found"] ["_law_found"] (a_m j_w):=⟨rfl,rfl,rfl,by decide+kernel,rfl,by decide+kernel,by decide+kernel⟩
theorem l_s {f fW:Addr} {fd fdW:FuncData} (F:Fun K "_law_is_row" "_law_is_row" j_w f fd) (B:Bt mg) (gW:Gf K mg "_law_whole" fW fdW ["_law_found"]) (GW:FnOk P w K mg base CX0 1 fW fdW ["_law_found"] h_q):
 FnOk P w K mg base CX0 2 f fd ["_law_found"] j_t:=by
 refine F.ok n_c (λvs H Q E h=> ?_) (λcdv A outer s H vs Q E hr h=> ?_)
 ·obtain⟨a,ρ,rfl,_⟩:=h
  rfl
 ·obtain⟨a,ρ,rfl,ha,k⟩:=h
  refine⟨_,a_c (a_C (PW.pt (c_G (b_Y (b_r (a_t b_k (by rfl) B.isi d_a (a_a (pv 0) (a_a (b_I B.tuple e_y) a_d))))) (c_G (a_l d_e (a_t a_x (by rfl) B.len s_F (a_a (pv 0) a_d)) a_g (a_q _))
   (b_J (b_Y (b_r (a_t b_k (by rfl) B.isi d_a (a_a (a_r a_o (pv 0) a_g (λ_ _=>rfl)) (a_a (b_I B.str m_Z) a_d))))))))) (a_f (a_n d_m)) a_p)
   (a_f (a_n (k_R (a_j GW hr rfl gW.mg gW.kp gW.b .nil a_v (a_a (a_r a_o (pv 0) a_g (λ_ _=>rfl)) a_d)) (k_h (a_j GW hr rfl gW.mg gW.kp gW.b .nil a_v (a_a (a_r a_o (pv 0) a_g (λ_ _=>rfl)) a_d)))))),?_⟩
  refine⟨_,rfl,_,_,_,_,rfl,.tup ha,rfl,_,rfl,?_⟩;refine⟨_,rfl,a,_,rfl,.inr (SqT.of ha),rfl,_,rfl,?_⟩;refine⟨_,rfl,a,_,_,_,rfl,rfl,SqT.of ha,a_e (j:=2) rfl,_,_,_,_,rfl,.str _,rfl,_,rfl,?_⟩;refine⟨_,rfl,a,_,_,_,rfl,rfl,SqT.of ha,a_e (j:=0) rfl,_,rfl,_,rfl,?_⟩;exact⟨_,rfl,a,_,_,_,rfl,rfl,SqT.of ha,a_e (j:=1) rfl,_,rfl,k⟩
def g_I:Sp:=λvs H Q _=>∃(l:Addr) (ρs:List Row),vs= [.ref l]/\LstAt H l ρs/\Q (.bl true) H
theorem g_y:a_s ["_law_found","_law_row"] ["_law_found"] (a_m f_C):=⟨rfl,rfl,rfl,by decide+kernel,rfl,by decide+kernel,by decide+kernel⟩
theorem i_Y {f fR:Addr} {fd fdR:FuncData} (F:Fun K "_law_are_rows" "_law_are_rows" f_C f fd) (B:Bt mg) (gR:Gf K mg "_law_is_row" fR fdR ["_law_found"]) (GR:FnOk P w K mg base CX0 2 fR fdR ["_law_found"] j_t):
 FnOk P w K mg base CX0 3 f fd ["_law_found"] g_I:=by
 refine F.ok g_y (λvs H Q E h=> ?_) (λcdv A outer s H vs Q E hr h=> ?_)
 ·obtain⟨l,ρs,rfl,_⟩:=h
  rfl
 ·obtain⟨l,ρs,rfl,⟨as,hl,hR⟩,k⟩:=h
  refine⟨_,a_c (a_C (b_Y (b_r (a_t b_k (by rfl) B.isi d_a (a_a (pv 0) (a_a (b_I B.list e_v) a_d))))) (a_f (a_n d_m)) a_p)
   (a_c (b_0 PassesOwn.never rfl (b_e (pv 0)) (a_9 (i:=1) g_y.nd rfl (Or.inl rfl)) (a_f (a_C (b_Y (b_r (a_j GR hr rfl gR.mg gR.kp gR.b .nil a_v (a_a (pv 1) a_d)))) (a_f (a_n d_m)) a_p)))
   (a_f (a_n d_m))),?_⟩
  refine⟨_,rfl,_,_,_,_,rfl,.lst hl,rfl,_,rfl,?_⟩;refine⟨_,rfl,l,rfl,⟨_,SqL.of hl⟩,b_X (K:=K) (a:=l) (xs:=as.map V.ref) (λi σ H2=>∃v,σ= [some (.ref l),v]/\H2=H) ⟨none,rfl,rfl⟩ (λi σ H2 _ ⟨_,_,e⟩=>by rw[e];exact SqL.of hl) ?_ ?_⟩
  ·rintro i x σ H2 hi ⟨v,rfl,rfl⟩
   rw[r_8] at hi;cases e:as[i]? with
   | none=>rw[e] at hi;cases hi
   | some a=>
     rw[e] at hi;obtain rfl:V.ref a=x:=r_3 hi;obtain⟨ρ,_,ha⟩:=hR.get' e;exact⟨_,rfl,a,ρ,rfl,ha,_,rfl,_,rfl,rfl⟩
  ·rintro σ H2 ⟨v,rfl,rfl⟩
   exact k
end
end K1
namespace L2
open PySem PySem.Spec PyProof.Rows
section
variable {X:Cx}
end
end L2
namespace TO
open PySem L2
end TO
namespace K1
open PySem L2 TO
def g_V (l:List Row):D:= .tup [e_j (a_V false l),e_j (a_V true l)]
theorem d_I {H:Hp} {t r1 r2:Addr} {l:List Row} (ht:H t=some (.tup [.ref r1,.ref r2])) (h1:LstAt H r1 (a_V false l)) (h2:LstAt H r2 (a_V true l)):Bears H (g_V l) (.ref t):= .tup ht (.cons (LstAt.bears h1) (.cons (LstAt.bears h2) .nil))
theorem o_b {l:List Row} (h:l.length < 64):(g_V l).wt<=600:=by
 have h1:=d_l (a_V false l);have h2:=d_l (a_V true l);rw[a_3] at h1 h2;show 1+D.wts [e_j (a_V false l),e_j (a_V true l)]<=600;simp only[D.wts];omega
end K1
namespace TO
open PySem L2
def Deed.isB:Deed->Bool
 | .begin=>true
 | _=>false
def Deed.isK:Deed->Bool
 | .keep=>true
 | .brk=>true
 | _=>false
def wbL:Nat->List Deed->List Deed×Nat
 | n, []=>([],n)
 | n,d::r=>if d.isB=true then (d::(wbL (n+1) r).1,(wbL (n+1) r).2) else if d.isK=true then (if n=0 then wbL 0 r else (d::(wbL (n - 1) r).1,(wbL (n - 1) r).2)) else (d::(wbL n r).1,(wbL n r).2)
theorem e_1:∀(ds:List Deed) (n:Nat),(wbL n ds).1.length<=ds.length/\(wbL n ds).2<=n+ds.length
 | [],n=>⟨r_5 _,r_5 _⟩
 | d::r,n=>by
   have h1:=e_1 r (n+1);have h2:=e_1 r (n - 1);have h3:=e_1 r n;have h4:=e_1 r 0;simp only[wbL,r_2]
   repeat' split
   all_goals first | omega | (simp only[r_2];omega)
theorem k_e:∀{ds:List Deed} {n:Nat} {d:Deed},d∈(wbL n ds).1->d∈ds
 | [],n,d,h=>h
 | e::r,n,d,h=>by
   simp only[wbL] at h
   (repeat' split at h) <;> first
     | exact r_Z _ (k_e h)
     | (rcases r_7.mp h with q | q
        ·rw[q];exact r_0 ..
        ·exact r_Z _ (k_e q))
theorem c_l {room:Int}:∀{ds:List Deed} {n:Nat} {t:Sto} {ms base:List (List Row)},t.marks=ms++base->ms.length=n->∃ms',(t.run room (wbL n ds).1).1.marks=ms'++base/\ms'.length=(wbL n ds).2
 | [],n,t,ms,base,h,hl=>⟨ms,h,hl⟩
 | d::r,n,t,ms,base,h,hl=>by
   cases d with
   | begin=>
     have hh:(t.step room .begin).1.marks=(t.kept::ms)++base:=by show t.kept::t.marks=_;rw[h];rfl
     exact c_l (ds:=r) hh (by simp[hl])
   | keep=>
     simp only[wbL,Deed.isB,Deed.isK];cases ms with
     | nil=>
       simp at hl;subst hl;exact c_l (ds:=r) (ms:= []) h rfl
     | cons m ms0=>
       have hn:n≠0:=by simp at hl;omega
       simp only[Bool.false_eq_true,if_false,if_true,hn];have hh:(t.step room .keep).1.marks=ms0++base:=by simp only[Sto.step,h,List.cons_append]
       exact c_l (ds:=r) hh (by simp at hl;omega)
   | brk=>
     simp only[wbL,Deed.isB,Deed.isK];cases ms with
     | nil=>
       simp at hl;subst hl;exact c_l (ds:=r) (ms:= []) h rfl
     | cons m ms0=>
       have hn:n≠0:=by simp at hl;omega
       simp only[Bool.false_eq_true,if_false,if_true,hn];have hh:(t.step room .brk).1.marks=ms0++base:=by simp only[Sto.step,h,List.cons_append]
       exact c_l (ds:=r) hh (by simp at hl;omega)
   | chg c=>exact c_l (ds:=r) (t:=(t.step room (.chg c)).1) h hl
   | all cs=>exact c_l (ds:=r) (t:=(t.step room (.all cs)).1) h hl
   | row k=>exact c_l (ds:=r) (t:=(t.step room (.row k)).1) h hl
   | within x lo hi=>exact c_l (ds:=r) (t:=(t.step room (.within x lo hi)).1) h hl
   | both lo hi x=>exact c_l (ds:=r) (t:=(t.step room (.both lo hi x)).1) h hl
   | «from» x k m=>exact c_l (ds:=r) (t:=(t.step room (.from x k m)).1) h hl
   | spot x k=>exact c_l (ds:=r) (t:=(t.step room (.spot x k)).1) h hl
theorem h_O {room:Int}:∀{n:Nat} {t:Sto} {ms base:List (List Row)},t.marks=ms++base->ms.length=n->(t.run room (List.replicate n .brk)).1.marks=base
 | 0,t,ms,base,h,hl=>by
   have:ms= []:=s_s.mp hl;subst this;exact h
 | n+1,t,ms,base,h,hl=>by
   cases ms with
   | nil=>simp at hl
   | cons m ms0=>
     rw[List.replicate_succ];have hh:(t.step room .brk).1.marks=ms0++base:=by simp only[Sto.step,h,List.cons_append]
     exact h_O (n:=n) hh (by simpa using hl)
def f_A (ds:List Deed):List Deed:= .begin::((wbL 0 ds).1++List.replicate (wbL 0 ds).2 .brk)++ [.brk]
theorem l_1 (room:Int) (s:Sto) (ds:List Deed):(s.run room (f_A ds)).1=s:=by
 unfold f_A;rw[List.cons_append];show ((s.step room .begin).1.run room (((wbL 0 ds).1++List.replicate (wbL 0 ds).2 .brk)++ [.brk])).1=s;rw[c_L];show ((((s.step room .begin).1.run room ((wbL 0 ds).1++List.replicate (wbL 0 ds).2 .brk)).1).step room .brk).1=s;rw[c_8];obtain⟨ms',e1,e2⟩:=c_l (room:=room) (ds:=ds) (n:=0) (t:=(s.step room .begin).1) (ms:= []) (base:=s.kept::s.marks) rfl rfl;have e3:=h_O (room:=room) e1 e2;simp only[Sto.step] at e3 ⊢;rw[e3]
theorem l_d (ds:List Deed):(f_A ds).length<=2+2 * ds.length:=by
 have:=e_1 ds 0;simp only[f_A,r_Y,r_2,List.length_replicate,s_w];omega
theorem n_a {sd:Int} {ds:List Deed} (h:∀d∈ds,d.form/\d.tell sd):∀d∈f_A ds,d.form/\d.tell sd:=λd hd=>by
 simp only[f_A,s_e,r_7,List.mem_replicate,List.not_mem_nil,or_false] at hd;rcases hd with (rfl | q | q) | rfl
 ·exact⟨trivial,trivial⟩
 ·exact h d (k_e q)
 ·rw[q.2];exact⟨trivial,trivial⟩
 ·exact⟨trivial,trivial⟩
end TO
namespace K1
open PySem L2 TO
def r_u:TS:=λD σ H=>∃(a:Addr) (x:Str) (r:List V) (n:Int),σ[3]? =some (some (.ref a))/\σ[2]? =some (some (.int n))/\σ.set 2 (some (.int n))=σ/\H a=some (.tup (.str x::r))/\D.nx (σ.set 2 (some (.int (if x="begin" then n+1 else n)))) H
section
variable {P:Program} {w:World} {K:PySem.W.Frag} {mg:Str->Option Value} {base:Heap}
def q_5:Sp:=λvs H Q _=>∃(l:Addr) (as:List Addr) (ds:List Deed),vs= [.ref l]/\H l=some (.lst (as.map V.ref))/\Paired (DeedAt H) as ds/\ds.length<=400/\
 ∀(m:Addr) (bs:List Addr) (H':Hp),H m=none->Same H H'->H' m=some (.lst (bs.map V.ref))->Paired (DeedAt H') bs ((wbL 0 ds).1++List.replicate (wbL 0 ds).2 .brk)->Q (.ref m) H'
theorem o_u:a_s ["_law_deeds","_law_kept","_law_deep","_law_deed"] ["_law_deeds"] (a_m c_F):=⟨rfl,rfl,rfl,by decide+kernel,rfl,by decide+kernel,by decide+kernel⟩
theorem q_N {d:Deed}:inV (.str (Deed.word d)) [V.str "keep",V.str "break"]=d.isK:=by
 cases d with
 | chg c=>cases c with
   | bring ρ=>exact (by decide+kernel:inV (V.str "bring") [V.str "keep",V.str "break"]=false)
   | alter ρ=>exact (by decide+kernel:inV (V.str "alter") [V.str "keep",V.str "break"]=false)
   | cut n=>exact (by decide+kernel:inV (V.str "cut") [V.str "keep",V.str "break"]=false)
 | all cs=>exact (by decide+kernel:inV (V.str "all") [V.str "keep",V.str "break"]=false)
 | begin=>exact (by decide+kernel:inV (V.str "begin") [V.str "keep",V.str "break"]=false)
 | keep=>exact (by decide+kernel:inV (V.str "keep") [V.str "keep",V.str "break"]=true)
 | brk=>exact (by decide+kernel:inV (V.str "break") [V.str "keep",V.str "break"]=true)
 | row n=>exact (by decide+kernel:inV (V.str "row") [V.str "keep",V.str "break"]=false)
 | within x lo hi=>exact (by decide+kernel:inV (V.str "within") [V.str "keep",V.str "break"]=false)
 | both lo hi x=>exact (by decide+kernel:inV (V.str "both") [V.str "keep",V.str "break"]=false)
 | «from» x k m=>exact (by decide+kernel:inV (V.str "from") [V.str "keep",V.str "break"]=false)
 | spot x n=>exact (by decide+kernel:inV (V.str "spot") [V.str "keep",V.str "break"]=false)
theorem p_U {d:Deed}:(Deed.word d="begin")↔d.isB=true:=by
 have no:∀{x:Str} {b:Bool},b=false->¬ x="begin"->(x="begin"↔b=true):=λe h=>⟨λz=>absurd z h,λz=>by rw[e] at z;cases z⟩;cases d with
 | chg c=>cases c with
   | bring ρ=>exact no (x:="bring") rfl (by decide+kernel)
   | alter ρ=>exact no (x:="alter") rfl (by decide+kernel)
   | cut n=>exact no (x:="cut") rfl (by decide+kernel)
 | all cs=>exact no (x:="all") rfl (by decide+kernel)
 | begin=>exact⟨λ_=>rfl,λ_=>rfl⟩
 | keep=>exact no (x:="keep") rfl (by decide+kernel)
 | brk=>exact no (x:="break") rfl (by decide+kernel)
 | row n=>exact no (x:="row") rfl (by decide+kernel)
 | within x lo hi=>exact no (x:="within") rfl (by decide+kernel)
 | both lo hi x=>exact no (x:="both") rfl (by decide+kernel)
 | «from» x k m=>exact no (x:="from") rfl (by decide+kernel)
 | spot x n=>exact no (x:="spot") rfl (by decide+kernel)
theorem q_d {f:Addr} {fd:FuncData} (F:Fun K "_law_within_begun" "_law_within_begun" c_F f fd) (B:Bt mg):FnOk P w K mg base CX0 1 f fd ["_law_deeds"] q_5:=by
 refine F.ok o_u (λvs H Q E h=> ?_) (λcdv A outer s H vs Q E hr h=> ?_)
 ·obtain⟨l,as,ds,rfl,_⟩:=h
  rfl
 ·obtain⟨l,as,ds,rfl,hl,hP,a5,fin⟩:=h
  have a2:=Paired.length hP
  refine⟨_,(a_c (a_w (i:=1) o_u.nd rfl (Or.inl rfl) (a_O a_d))
   (a_c (a_w (i:=2) o_u.nd rfl (Or.inl rfl) a_g)
   (a_c (b_0 PassesOwn.never rfl (b_e (pv 0)) (a_9 (i:=3) o_u.nd rfl (Or.inl rfl))
   (a_c (j_J (t':=r_u) (a_C (a_l a_I (a_r a_o (pv 3) a_g (λ_ _=>rfl)) a_k (a_q _)) (a_f (a_w (i:=2) o_u.nd rfl (Or.inl rfl) (a_u a_U (pv 2) a_g))) a_p) (by rintro D σ H ⟨a,x,r,n,e3,e2,es,ha,q⟩;exact⟨_,e3,a,_,_,_,rfl,rfl,SqT.of ha,a_e (j:=0) rfl,rfl,_,rfl,a_y (λc=>⟨_,e2,_,_,rfl,rfl,by rw[if_pos (by have:=s_E c;injection this)] at q;exact q⟩) (λc=>by rw[if_neg (λz=>c (s_C (by rw[z]))),es] at q;exact q)⟩))
   (a_f (a_C (PW.pt (c_G (a_l d_S (a_r a_o (pv 3) a_g (λ_ _=>rfl)) (a_O (a_a a_k (a_a a_k a_d))) (by with_unfolding_all rfl)) (b_J (a_l h_y (pv 2) a_g (a_q _))))) (a_c (a_z (b_y s_G s_I s_H a_N (pv 1) (a_a (pv 3) a_d)))
   (a_f (a_C (a_l d_d (a_r a_o (pv 3) a_g (λ_ _=>rfl)) (a_O (a_a a_k (a_a a_k a_d))) (by with_unfolding_all rfl)) (a_f (a_w (i:=2) o_u.nd rfl (Or.inl rfl) (a_u b_T (pv 2) a_g))) a_p))) a_p))))
   (a_f (a_n (a_u c_T (pv 1) (a_u p_C (a_O (a_a (a_G (a_a a_k a_d)) a_d)) (pv 2)))))))),?_⟩
  refine⟨by show 0<=sizeLine;decide,λm hm=> ?_⟩;have s1:Same H (upd H m (.lst [])):=Same.upd_new hm
  refine⟨_,rfl,l,rfl,⟨_,SqL.of (s1 _ _ hl)⟩,b_X (K:=K) (a:=l) (xs:=as.map V.ref) (λi σ Hx=>∃(bs:List Addr) (acc:List Deed) (deep:Nat) (v:Option V),σ= [some (.ref l),some (.ref m),some (.int (deep:Int)),v]/\Same H Hx/\Hx m=some (.lst (bs.map V.ref))/\Paired (DeedAt H) bs acc/\acc.length<=i/\deep<=i/\wbL 0 ds=(acc++(wbL deep (ds.drop i)).1,(wbL deep (ds.drop i)).2))
   ⟨[], [],0,none,rfl,s1,a_b,.nil,r_5 _,r_5 _,rfl⟩ (λi σ Hx _ ⟨_,_,_,_,_,sx,_⟩=>SqL.of (sx _ _ hl)) ?_ ?_⟩
  ·rintro i x σ Hx hi ⟨bs,acc,deep,v,rfl,sx,I,hB,N,T,hw⟩
   rw[r_8] at hi;cases e:as[i]? with
   | none=>rw[e] at hi;cases hi
   | some a=>
     rw[e] at hi;obtain rfl:V.ref a=x:=r_3 hi;have a6:=(s_a.mp e).1;obtain⟨d,hd⟩:∃d,ds[i]? =some d:=⟨_,r_X (by omega)⟩;obtain⟨a',e',U⟩:=a_T hP hd;rw[e] at e';obtain rfl:a=a':=r_3 e';obtain⟨r,J⟩:=DeedAt.word U;have Z:=Paired.length hB;have W:=sx _ _ J
     have ed:ds.drop i=d::ds.drop (i+1):=by
      rw[List.drop_eq_getElem_cons (by omega)];rw[(s_a.mp hd).2]
     rw[ed] at hw;have O:(bs.map V.ref).length < sizeLine:=by rw[r_W];exact a_F (by omega)
     refine⟨a,Deed.word d,r,(deep:Int),rfl,rfl,rfl,W,?_⟩;refine⟨_,rfl,a,_,_,_,rfl,rfl,SqT.of W,a_e (j:=0) rfl,by show 2<=sizeLine;decide,λn1 Y=> ?_⟩;have s2:=Same.upd_new (o:= .lst [V.str "keep",V.str "break"]) Y;refine⟨n1,_,rfl,.inl (SqL.of a_b),rfl,rfl,_,rfl,?_⟩;generalize upd Hx n1 (.lst [V.str "keep",V.str "break"])=H2 at s2 ⊢;have p:=s2 _ _ I;have grow:Same H (upd H2 m (.lst (bs.map V.ref++ [V.ref a]))):=λb u h=>by rw[a_i (a_h h hm)];exact s2 _ _ (sx _ _ h)
     have gm:(upd H2 m (.lst (bs.map V.ref++ [V.ref a]))) m=some (.lst ((bs++ [a]).map V.ref)):=by rw[a_b,r_4];rfl
     have G:Paired (DeedAt H) (bs++ [a]) (acc++ [d]):=a_D hB (.cons U .nil);have y:inV (.str (Deed.word d)) [V.str "keep",V.str "break"]=d.isK:=q_N;by_cases hk:d.isK=true
     ·have hb:¬ Deed.word d="begin":=λz=>by have:=p_U.mp z;cases d <;> first | (cases hk;done) | (cases this;done)
      have a0:¬ d.isB=true:=λz=>hb (p_U.mpr z);refine a_y (λq=>absurd q (by rw[if_pos rfl,y,hk];decide)) (λ_=> ?_);rw[if_neg hb];simp only[wbL,if_neg a0,if_pos hk] at hw;refine⟨_,rfl,_,_,rfl,rfl,_,rfl,a_y (λq=> ?_) (λq=> ?_)⟩
      ·have S:0 < deep:=by have:=s_E q;omega
       rw[if_neg (by omega)] at hw;refine⟨_,rfl,.inl ⟨rfl,_,SqL.of p⟩,_,rfl,m,_,_,rfl,rfl,p,O,?_⟩;have g:=(grow _ _ J);generalize upd H2 m (.lst (bs.map V.ref++ [V.ref a]))=H3 at grow gm g ⊢;refine⟨_,rfl,a,_,_,_,rfl,rfl,SqT.of g,a_e (j:=0) rfl,by show 2<=sizeLine;decide,λn2 C=> ?_⟩;have s4:=Same.upd_new (o:= .lst [V.str "keep",V.str "break"]) C;refine⟨n2,_,rfl,.inl (SqL.of a_b),rfl,rfl,_,rfl,a_y (λ_=> ?_) (λq=>absurd (show inV _ _=true by rw[y,hk]) q)⟩;have ez:(deep:Int) - 1=((deep - 1:Nat):Int):=by omega
       refine⟨_,rfl,_,_,rfl,rfl,bs++ [a],acc++ [d],deep - 1,_,by rw[<-ez];rfl,grow.trans s4,s4 _ _ gm,G,by simp;omega,by omega,?_⟩;rw[hw,List.append_assoc];rfl
      ·have S:deep=0:=by
        have:¬ (0:Int) < (deep:Int):=λz=>q (s_C z);omega
       subst S;rw[if_pos rfl] at hw;exact⟨bs,acc,0,_,rfl,sx.trans s2,p,hB,by omega,by omega,hw⟩
     ·have M:d.isK=false:=by simpa using hk
      refine a_y (λ_=> ?_) (λq=>absurd (by rw[if_pos rfl,y,M];rfl) q);refine⟨_,rfl,.inl ⟨rfl,_,SqL.of p⟩,_,rfl,m,_,_,rfl,rfl,p,O,?_⟩;have g:=(grow _ _ J);generalize upd H2 m (.lst (bs.map V.ref++ [V.ref a]))=H3 at grow gm g ⊢;refine⟨_,rfl,a,_,_,_,rfl,rfl,SqT.of g,a_e (j:=0) rfl,by show 2<=sizeLine;decide,λn2 C=> ?_⟩;have s4:=Same.upd_new (o:= .lst [V.str "keep",V.str "break"]) C;refine⟨n2,_,rfl,.inl (SqL.of a_b),rfl,rfl,_,rfl,a_y (λq=>absurd (show inV _ _=true from q) (by rw[y,M];decide)) (λ_=> ?_)⟩;by_cases hb:d.isB=true
      ·rw[if_pos (p_U.mpr hb)]
       simp only[wbL,if_pos hb] at hw;refine⟨bs++ [a],acc++ [d],deep+1,_,rfl,grow.trans s4,s4 _ _ gm,G,by simp;omega,by omega,?_⟩;rw[hw,List.append_assoc];rfl
      ·rw[if_neg (λz=>hb (p_U.mp z))]
       simp only[wbL,if_neg hb,if_neg hk] at hw;refine⟨bs++ [a],acc++ [d],deep,_,rfl,grow.trans s4,s4 _ _ gm,G,by simp;omega,by omega,?_⟩;rw[hw,List.append_assoc];rfl
  ·rintro σ Hx ⟨bs,acc,deep,v,rfl,sx,I,hB,N,T,hw⟩
   rw[r_W,a2,List.drop_of_length_le (r_5 _)] at hw;simp only[wbL,s_t] at hw;rw[r_W] at N T;have Z:=Paired.length hB;refine⟨_,rfl,by show 1<=sizeLine;decide,λt ht=>⟨by show 1<=sizeLine;decide,λl1 X=> ?_⟩⟩;have s2:=Same.upd_new (o:= .tup [V.str "break"]) ht;have et:(upd Hx t (.tup [V.str "break"])) t=some (.tup [V.str "break"]):=a_b;generalize upd Hx t (.tup [V.str "break"])=H2 at s2 et X ⊢;have s3:=Same.upd_new (o:= .lst [V.ref t]) X;have e3:(upd H2 l1 (.lst [V.ref t])) l1=some (.lst [V.ref t]):=a_b;generalize upd H2 l1 (.lst [V.ref t])=H3 at s3 e3 ⊢;refine⟨_,rfl,l1,_,_,rfl,rfl,e3,by omega,by omega,?_, λl2 a4=> ?_⟩
   ·show 1 * (deep:Int).toNat<=sizeLine
    exact Nat.le_of_lt (a_F (by omega))
   have er:(List.replicate ((deep:Int)).toNat [V.ref t]).flatten=(List.replicate deep t).map V.ref:=by
    rw[Int.toNat_natCast];induction deep with
    | zero=>rfl
    | succ k ih=>rw[List.replicate_succ,s_p,List.replicate_succ,s_b];simp
   rw[er];have s4:=Same.upd_new (o:= .lst ((List.replicate deep t).map V.ref)) a4;have e4:(upd H3 l2 (.lst ((List.replicate deep t).map V.ref))) l2=some (.lst ((List.replicate deep t).map V.ref)):=a_b;generalize upd H3 l2 (.lst ((List.replicate deep t).map V.ref))=H4 at s4 e4 ⊢;have L:=(s2.trans s3).trans s4;refine⟨m,l2,_,_,rfl,rfl,L _ _ I,e4,?_, λl3 R=> ?_⟩
   ·rw[r_W,r_W,List.length_replicate]
    exact Nat.le_of_lt (a_F (by omega))
   have s5:=Same.upd_new (o:= .lst (bs.map V.ref++(List.replicate deep t).map V.ref)) R;have sH:=(sx.trans L).trans s5
   have pr:∀(H:Hp) (k:Nat),H t=some (.tup [V.str "break"])->Paired (DeedAt H) (List.replicate k t) (List.replicate k .brk):=λH k h=>by
    induction k with
    | zero=>exact .nil
    | succ k ih=>rw[List.replicate_succ,List.replicate_succ];exact .cons h ih
   have a3:(wbL 0 ds).1=acc:=by rw[hw]
   have a1:(wbL 0 ds).2=deep:=by rw[hw]
   rw[a3,a1] at fin;exact fin l3 (bs++List.replicate deep t) _ ((sx.trans L).free R) sH (by rw[a_b,r_4]) (a_D (a_J sH hB) (pr _ _ (s5 _ _ (s4 _ _ (s3 _ _ et)))))
def r_g:Sp:=λvs H Q _=>vs= []/\∀(l:Addr) (qs:List Deed) (H':Hp),H l=none->Same H H'->LD H' l qs->Oks 56 qs->(∀d∈qs,d.asks)->Q (.ref l) H'
theorem q_2:a_s ["_law_asked","_law_number"] [] (a_m d_D):=⟨rfl,rfl,rfl,by decide+kernel,rfl,by decide+kernel,by decide+kernel⟩
theorem q_s {f fFar:Addr} {fd fdFar:FuncData} (F:Fun K "_law_questions" "_law_questions" d_D f fd) (B:Bt mg) (gFar:Gf K mg "_law_far" fFar fdFar ["_law_number"]) (GFar:FnOk P w K mg base CX0 1 fFar fdFar ["_law_number"] j_T):FnOk P w K mg base CX0 2 f fd [] r_g:=by
 refine F.ok q_2 (λvs H Q E h=> ?_) (λcdv A outer s H vs Q E hr h=> ?_)
 ·rw[h.1]
  rfl
 ·obtain⟨rfl,fin⟩:=h
  have p:Room 1 _:=hr
  refine⟨_,(a_c (a_w (i:=0) q_2.nd rfl (Or.inl rfl) (a_O (a_a (a_G (a_a a_k (a_a a_k (a_a (n_V j_P a_g) (a_a a_g a_d))))) (a_a (a_G (a_a a_k (a_a a_k (a_a a_k (a_a a_k a_d))))) a_d))))
   (a_c (b_0 PassesOwn.never rfl (j_N rfl B.range (a_a (n_V j_P a_g) (a_a a_g a_d))) (a_9 (i:=1) q_2.nd rfl (Or.inl rfl))
   (a_c (a_z (b_y s_G s_I s_H a_N (pv 0) (a_a (a_G (a_a a_k (a_a (a_j GFar p rfl gFar.mg gFar.kp gFar.b .nil a_v (a_a (pv 1) a_d)) a_d))) a_d)))
   (a_f (a_z (b_y s_G s_I s_H a_N (pv 0) (a_a (a_G (a_a a_k (a_a (a_r a_P (a_O (a_a a_k (a_a a_k a_d))) (a_u a_S (pv 1) a_g) (λ_ _=>rfl)) (a_a (a_j GFar p rfl gFar.mg gFar.kp gFar.b .nil a_v (a_a (pv 1) a_d)) a_d)))) a_d))))))
   (a_f (a_n (pv 0))))),?_⟩
  refine⟨_,rfl,by show 4<=sizeLine;decide,λt1 N=>⟨by show 4<=sizeLine;decide,λt2 y=>⟨by show 2<=sizeLine;decide,λl hl=> ?_⟩⟩⟩;have s1:=Same.upd_new (o:= .tup [V.str "within",V.str "rank",V.int (-9),V.int 1000000000000]) N;have e1:(upd H t1 (.tup [V.str "within",V.str "rank",V.int (-9),V.int 1000000000000])) t1=some (.tup [V.str "within",V.str "rank",V.int (-9),V.int 1000000000000]):=a_b;generalize upd H t1 (.tup [V.str "within",V.str "rank",V.int (-9),V.int 1000000000000])=H1 at s1 e1 y hl ⊢;have s2:=Same.upd_new (o:= .tup [V.str "within",V.str "text",V.str "",V.str "~"]) y;have e2:(upd H1 t2 (.tup [V.str "within",V.str "text",V.str "",V.str "~"])) t2=some (.tup [V.str "within",V.str "text",V.str "",V.str "~"]):=a_b;generalize upd H1 t2 (.tup [V.str "within",V.str "text",V.str "",V.str "~"])=H2 at s2 e2 hl ⊢;have s3:=Same.upd_new (o:= .lst [V.ref t1,V.ref t2]) hl;have e3:(upd H2 l (.lst [V.ref t1,V.ref t2])) l=some (.lst (([t1,t2]:List Addr).map V.ref)):=a_b;generalize upd H2 l (.lst [V.ref t1,V.ref t2])=H3 at s3 e3 ⊢;have m:H l=none:=s1.free (s2.free hl);have O:=(s1.trans s2).trans s3;have q1:Deed.form (.within "rank" (.int (-9)) (.int 1000000000000))/\Deed.short (.within "rank" (.int (-9)) (.int 1000000000000)):=⟨⟨by unfold b_w;rw[if_neg (by decide+kernel)];exact⟨_,_,rfl,rfl⟩,.inl rfl⟩,⟨λs e=>(by cases e),λs e=>(by cases e)⟩⟩;have q2:Deed.form (.within "text" (.str "") (.str "~"))/\Deed.short (.within "text" (.str "") (.str "~")):=⟨⟨by unfold b_w;rw[if_pos rfl];exact⟨_,_,rfl,rfl⟩,.inr (.inl rfl)⟩,⟨λs e=>by cases e;decide,λs e=>by cases e;decide⟩⟩;have L:LD H3 l [.within "rank" (.int (-9)) (.int 1000000000000),.within "text" (.str "") (.str "~")]:=⟨[t1,t2],e3,.cons ⟨s3 _ _ (s2 _ _ e1),λl' z=>by have:=b_d (H:=λ_=>some (.lst [])) (s3 _ _ (s2 _ _ e1)) (by decide+kernel) l' z;cases this⟩ (.cons ⟨s3 _ _ e2,λl' z=>by have:=b_d (H:=λ_=>some (.lst [])) (s3 _ _ e2) (by decide+kernel) l' z;cases this⟩ .nil)⟩;refine⟨_,rfl,-1,26,rfl,⟨by decide,by decide,by decide,by decide⟩,c_k (lo:= -1) (n:=((26:Int) - -1).toNat) (λi σ Hx=>∃(qs:List Deed) (v:Option V),σ= [some (.ref l),v]/\Same H Hx/\LD Hx l qs/\Oks (2+2 * i) qs/\∀d∈qs,d.asks) ⟨_,none,rfl,O,L,⟨by simp,λd hd=> ?_⟩,λd hd=> ?_⟩ ?_ ?_⟩
  ·simp at hd
   rcases hd with rfl | rfl
   ·exact q1
   ·exact q2
  ·simp at hd
   rcases hd with rfl | rfl <;> trivial
  ·rintro i σ Hx hi ⟨qs,v,rfl,sx,⟨as,k,hP⟩,ho,hq⟩
   have S:i < 27:=hi;have W:=Paired.length hP;have T:=ho.1;have I:(as.map V.ref).length < sizeLine:=by rw[r_W];exact a_F (by omega)
   generalize R:(-1:Int)+(i:Int)=num;refine⟨_,rfl,.inl ⟨rfl,_,SqL.of k⟩,_,rfl,_,rfl,λH4 s4=>⟨by show 2<=sizeLine;decide,λt ht=> ?_⟩⟩;have s5:=Same.upd_new (o:= .tup [V.str "row",V.int (far num)]) ht;have e5:(upd H4 t (.tup [V.str "row",V.int (far num)])) t=some (.tup [V.str "row",V.int (far num)]):=a_b;generalize upd H4 t (.tup [V.str "row",V.int (far num)])=H5 at s5 e5 ⊢;have g:=s4.trans s5;have N1:DNew Hx H5 t (.row (far num)):=⟨s4.free ht,g,e5,trivial,i_f (by omega) (by omega),b_d e5 (by decide+kernel)⟩;refine⟨l,_,_,rfl,rfl,g _ _ k,I,?_⟩;have L6:=LD.grow (g _ _ k) (d_b g hP) (N1.by k);have s6:Same H (upd H5 l (.lst (as.map V.ref++ [V.ref t]))):=(Mov.upd (g _ _ k)).same (sx.trans g) λb hb=>by rw[r_1.mp hb];exact m
   generalize upd H5 l (.lst (as.map V.ref++ [V.ref t]))=H6 at L6 s6 ⊢;obtain⟨U,a,r⟩:=L6;have C:=Paired.length r;rw[r_Y,s_u] at C;have G:Oks (2+2 * i+1) (qs++ [.row (far num)]):=ho.snoc ⟨N1.form,N1.short⟩;refine⟨_,rfl,.inl ⟨rfl,_,SqL.of a⟩,by show 2<=sizeLine;decide,λn1 J=> ?_⟩;have s7:=Same.upd_new (o:= .lst [V.str "rank",V.str "text"]) J;have e7:(upd H6 n1 (.lst [V.str "rank",V.str "text"])) n1=some (.lst [V.str "rank",V.str "text"]):=a_b;generalize upd H6 n1 (.lst [V.str "rank",V.str "text"])=H7 at s7 e7 ⊢
   have pick:∃x:Str,atI [V.str "rank",V.str "text"] (num % 2)=some (.str x)/\c_s x:=by
    rcases (show num % 2=0\/num % 2=1 by omega) with e | e <;> rw[e]
    ·exact⟨_,a_e (j:=0) rfl,.inl rfl⟩
    ·exact⟨_,a_e (j:=1) rfl,.inr (.inl rfl)⟩
   obtain⟨x,hx,M⟩:=pick;refine⟨_,rfl,_,_,rfl,rfl,(show (0:Int) < 2 by decide),n1,_,_,_,rfl,rfl,SqL.of e7,hx,_,rfl,_,rfl,λH8 s8=>⟨by show 3<=sizeLine;decide,λu hu=> ?_⟩⟩;have s9:=Same.upd_new (o:= .tup [V.str "spot",V.str x,V.int (far num)]) hu;have e9:(upd H8 u (.tup [V.str "spot",V.str x,V.int (far num)])) u=some (.tup [V.str "spot",V.str x,V.int (far num)]):=a_b;generalize upd H8 u (.tup [V.str "spot",V.str x,V.int (far num)])=H9 at s9 e9 ⊢;have c:=(s7.trans s8).trans s9;have N2:DNew H6 H9 u (.spot x (far num)):=⟨(s7.trans s8).free hu,c,e9,M,i_f (by omega) (by omega),b_d e9 (by decide+kernel)⟩;refine⟨l,_,_,rfl,rfl,c _ _ a,by rw[r_W];exact a_F (by omega),(qs++ [.row (far num)])++ [.spot x (far num)],_,rfl,?_, LD.grow (c _ _ a) (d_b c r) (N2.by a),G.snoc ⟨N2.form,N2.short⟩,λd hd=> ?_⟩
   ·exact (Mov.upd (c _ _ a)).same (s6.trans c) λb hb=>by rw[r_1.mp hb];exact m
   ·rcases s_e.mp hd with q | q
    ·rcases s_e.mp q with q | q
     ·exact hq d q
     ·rw[r_1.mp q];trivial
    ·rw[r_1.mp q];trivial
  ·rintro σ Hx ⟨qs,v,rfl,sx,hL,ho,hq⟩
   exact⟨_,rfl,fin l qs Hx m sx hL ho hq⟩
end
def i_R (f:List Addr) (H:Hp):Hp:=λb=>if b∈f then none else H b
theorem e_o {f:List Addr} {H:Hp} {b:Addr} (hn:b∉f):i_R f H b=H b:=if_neg hn
theorem f_G {f:List Addr} {H:Hp} {b:Addr} (h:b∈f):i_R f H b=none:=if_pos h
theorem l_3 {f:List Addr} {H:Hp}:Same (i_R f H) H:=λb u h=>by
 by_cases c:b∈f
 ·rw[f_G c] at h;cases h
 ·rw[e_o c] at h;exact h
theorem i_l {f:List Addr} {H H':Hp} (s:Same H H'):Same (i_R f H) (i_R f H'):=λb u h=>by
 by_cases c:b∈f
 ·rw[f_G c] at h;cases h
 ·rw[e_o c] at h ⊢;exact s _ _ h
theorem n_5 {f:List Addr} {H0 H:Hp} (s:Same H0 H) (fp:∀b∈f,H0 b=none):Same H0 (i_R f H):=λb u h=>by
 rw[e_o λc=>by rw[fp b c] at h;cases h];exact s _ _ h
theorem m_B {f:List Addr} {H:Hp} (nt:∀b∈f,∀xs,H b≠some (.tup xs)):a_M H (i_R f H):=λb xs h=>by
 rw[e_o λc=>nt b c xs h];exact h
theorem n_C {f:List Addr} {H:Hp} {lf:Addr} {ds:List D} {vs:List V} (nt:∀b∈f,∀xs,H b≠some (.tup xs)) (h:Paired (Ans H (lf::f)) ds vs):BearsL (i_R f H) ds vs:=
 b_Z (d_K (f':=lf::f) ⟨λb u e hn=>by rw[e_o λc=>hn (r_Z _ c)];exact e,λb hb=> .inl hb⟩ (m_B nt) h)
theorem k_q {H H':Hp} (tk:a_M H H'):∀{as:List Addr} {qs:List Deed},(∀d∈qs,d.asks)->Paired (DeedAt H) as qs->Paired (DeedAt H') as qs
 | _,_,_,.nil=> .nil
 | _::_,d::_,hq,.cons h t=> .cons (by
    have:=hq d (r_0 ..)
    cases d <;> first | exact tk _ _ h | exact absurd this (λz=>z)) (k_q tk (λe he=>hq e (r_Z _ he)) t)
theorem e_J {α β:Type} {F:α->β->Prop}:∀{as:List α} {bs:List β} (n:Nat),Paired F as bs->Paired F (as.take n) (bs.take n)
 | _,_,0,_=> .nil
 | _,_,_+1,.nil=> .nil
 | _,_,n+1,.cons h t=> .cons h (e_J n t)
theorem e_M {α β:Type} {F:α->β->Prop}:∀{as:List α} {bs:List β} (n:Nat),Paired F as bs->Paired F (as.drop n) (bs.drop n)
 | _,_,0,h=>h
 | _,_,_+1,.nil=> .nil
 | _,_,n+1,.cons h t=>e_M n t
theorem i_t {xs:List V} {n:Nat} (h:n<=xs.length):g_u xs none (some (n:Int))=xs.take n:=by
 have e1:HT.sIx xs.length 0 none=0:=by simp[HT.sIx]
 have e2:HT.sIx xs.length xs.length (some (n:Int))=n:=by
  unfold HT.sIx;have h0:¬ ((n:Int) < 0):=by omega
  simp[h0];omega
 unfold g_u;rw[e1,e2];rfl
theorem BearsL.app {H:Hp}:∀{ds es:List D} {vs ws:List V},BearsL H ds vs->BearsL H es ws->BearsL H (ds++es) (vs++ws)
 | _,_,_,_,.nil,h=>h
 | _,_,_,_,.cons h t,k=> .cons h (BearsL.app t k)
theorem d_t {X:Cx} {tg l:Expr} {tl:TE} (K:PySem.W.Frag) (hl:PE X l tl) (hK:X.K=K:=by rfl):PI X tg l (o_E K tl):=by subst hK;exact b_e hl
theorem d_g {X:Cx} (K:PySem.W.Frag) (hK:X.K=K:=by rfl):SlR X (q_7 K):=by subst hK;exact e_x
theorem e_d {X:Cx} (K:PySem.W.Frag) (hK:X.K=K:=by rfl):c_W X (.builtin "isinstance") (λxs H Q=>∃x n t b,xs= [x,.ty n]/\h_H K H x t/\PySem.W.kitOne K t (.type n)=some b/\Q (.bl b) H):=by subst hK;exact b_k
def q_W (K:PySem.W.Frag):TS:=λD σ H=>∃(a Da lF lr t1 t2 st Dd tq kd1 mk:Addr) (mas1 FA RA:List Addr) (ns:List Int) (room:Int) (c:Nat) (v11:Option V) (FD RD:List Deed) (S7:Sto) (A7:List TO.D) (vs24:List V),
 σ= [some (.ref a),some (.int room),some (.ref Da),some (.int (c:Int)),some (.ref lF),some (.ref lr),some (.ref t1),some (.ref t2),some (.ref st),some (.ref Dd),some (.ref tq),v11,none,none,none]/\SqL K H a (ns.map V.int)/\ns.length<=63/\
 StoAt H st kd1 mk mas1 room S7/\S7.inML (atF ns 3)/\S7.nums/\(⟨[], []⟩:Sto).run room FD=(S7,A7)/\(∀s:Sto,(s.run room RD).1=s)/\(∀d∈FD,d.form/\d.tell (atF ns 3))/\(∀d∈RD,d.form/\d.tell (atF ns 3))/\FD.length=c/\c<=60/\FD.length+RD.length<=130/\
 (∃Ho:Hp,Ho=i_R (st::mk::kd1::mas1) H/\Ho lF=some (.lst (FA.map V.ref))/\Ho lr=some (.lst (RA.map V.ref))/\Paired (DeedAt Ho) FA FD/\Paired (DeedAt Ho) RA RD/\Ho Dd=some (.lst vs24)/\BearsL Ho A7 vs24)/\∀H',D.rt (.bl true) H'
section
variable {P:Program} {w:World} {K:PySem.W.Frag} {mg:Str->Option Value} {base:Heap}
theorem c_C:a_s ["_law_script","_law_room","_law_deeds","_law_cut","_law_first","_law_rest","_law_one","_law_two","_law_store","_law_due","_law_rows","_law_pair","_law_asked","_law_before","_law_behind"] ["_law_script"] (a_m q_C):=⟨rfl,rfl,rfl,by decide+kernel,rfl,by decide+kernel,by decide+kernel⟩
theorem o_G {f fAt fRo fBr fDe fMv fCp fAw fBo fSa fNs fAn fRb fWb fAr fQs:Addr} {fd fdAt fdRo fdBr fdDe fdMv fdCp fdAw fdBo fdSa fdNs fdAn fdRb fdWb fdAr fdQs:FuncData} (F:Fun K "law" "law" q_C f fd) (B:Bt mg)
 (gAt:Gf K mg "_law_at" fAt fdAt ["_law_script","_law_k"]) (GAt:FnOk P w K mg base CX0 1 fAt fdAt ["_law_script","_law_k"] (m_0 K)) (gRo:Gf K mg "_law_room_of" fRo fdRo ["_law_cell"]) (GRo:FnOk P w K mg base CX0 1 fRo fdRo ["_law_cell"] h_1)
 (gBr:Gf K mg "_law_brings_of" fBr fdBr ["_law_script"]) (GBr:FnOk P w K mg base CX0 3 fBr fdBr ["_law_script"] (f_p K)) (gDe:Gf K mg "_law_deeds_of" fDe fdDe ["_law_cells"]) (GDe:FnOk P w K mg base CX0 4 fDe fdDe ["_law_cells"] (g_m K))
 (gMv:Gf K mg "_law_moved" fMv fdMv ["_law_deed","_law_seed"]) (GMv:FnOk P w K mg base CX0 6 fMv fdMv ["_law_deed","_law_seed"] r_k) (gCp:Gf K mg "_law_copied" fCp fdCp ["_law_deeds"]) (GCp:FnOk P w K mg base CX0 1 fCp fdCp ["_law_deeds"] i_j)
 (gAw:Gf K mg "answers" fAw fdAw ["room","deeds"]) (GAw:FnOk P w K mg base CX0 13 fAw fdAw ["room","deeds"] g_x) (gBo:Gf K mg "both_orders" fBo fdBo ["room","deeds"]) (GBo:FnOk P w K mg base CX0 13 fBo fdBo ["room","deeds"] j_O)
 (gSa:Gf K mg "_law_same" fSa fdSa ["_law_found","_law_due"]) (GSa:FnOk P w K mg base CX0 2 fSa fdSa ["_law_found","_law_due"] m_u)
 (gNs:Gf K mg "_law_new_store" fNs fdNs ["_law_room"]) (GNs:FnOk P w K mg base CX0 1 fNs fdNs ["_law_room"] f_j) (gAn:Gf K mg "_law_answered" fAn fdAn ["_law_store","_law_deed"]) (GAn:FnOk P w K mg base CX0 3 fAn fdAn ["_law_store","_law_deed"] f_a)
 (gRb:Gf K mg "_law_rows_by" fRb fdRb ["_law_store","_law_word"]) (GRb:FnOk P w K mg base CX0 1 fRb fdRb ["_law_store","_law_word"] f_B) (gWb:Gf K mg "_law_within_begun" fWb fdWb ["_law_deeds"]) (GWb:FnOk P w K mg base CX0 1 fWb fdWb ["_law_deeds"] q_5)
 (gAr:Gf K mg "_law_are_rows" fAr fdAr ["_law_found"]) (GAr:FnOk P w K mg base CX0 3 fAr fdAr ["_law_found"] g_I) (gQs:Gf K mg "_law_questions" fQs fdQs []) (GQs:FnOk P w K mg base CX0 2 fQs fdQs [] r_g):FnOk P w K mg base CX0 14 f fd ["_law_script"] (l_x K):=by
 refine F.ok c_C (λvs H Q E h=> ?_) (λcdv A outer s H vs Q E hr h=> ?_)
 ·obtain⟨a,ns,rfl,_⟩:=h
  rfl
 ·obtain⟨a,ns,rfl,ha,hl,fin⟩:=h
  have hu:=hr.units0;have aa:Room 13 _:=hr;have m:Room 1 _:=hr.mono (by decide);have aj:Room 2 _:=hr.mono (by decide);have ao:Room 3 _:=hr.mono (by decide);have ej:Room 4 _:=hr.mono (by decide);have cz:Room 6 _:=hr.mono (by decide)
  refine⟨_,(a_c (a_w (i:=1) c_C.nd rfl (Or.inl rfl) (a_j GRo m rfl gRo.mg gRo.kp gRo.b .nil a_v (a_a (a_j GAt m rfl gAt.mg gAt.kp gAt.b .nil a_v (a_a (pv 0) (a_a a_g a_d))) a_d)))
   (a_c (a_w (i:=2) c_C.nd rfl (Or.inl rfl) (a_u c_T (a_j GBr ao rfl gBr.mg gBr.kp gBr.b .nil a_v (a_a (pv 0) a_d)) (a_j GDe ej rfl gDe.mg gDe.kp gDe.b .nil a_v (a_a (b_s (d_g K) (pv 0) (b_G a_g) b_7) a_d))))
   (a_c (c_c (k:=2) (x:="_law_deed") (fns:= ["_law_script"]) (js:= [0]) rfl ⟨rfl,by decide+kernel,by decide+kernel,rfl,by decide+kernel,by decide+kernel,rfl,by simp[Env.kindOf];exact rfl,rfl,by decide+kernel⟩ (d_t K (pv 2)) (λ_ _ _ _=>b_K) (λ_ _ _ _=>(a_j GMv cz rfl gMv.mg gMv.kp gMv.b .nil a_v (a_a (pv 0) (a_a (a_j GAt m rfl gAt.mg gAt.kp gAt.b .nil a_v (a_a (pv 1) (a_a a_g a_d))) a_d)))) c_C.nd rfl (Or.inl rfl))
   (a_c (a_w (i:=3) c_C.nd rfl (Or.inl rfl) (a_u a_1 (a_u b_H (a_t (b_R K) (by rfl) B.len s_F (a_a (pv 2) a_d)) (a_u a_S (a_j GAt m rfl gAt.mg gAt.kp gAt.b .nil a_v (a_a (pv 0) (a_a a_g a_d))) a_g)) a_g))
   (a_c (a_w (i:=4) c_C.nd rfl (Or.inl rfl) (b_s (d_g K) (pv 2) b_7 (b_G (pv 3))))
   (a_c (a_w (i:=5) c_C.nd rfl (Or.inl rfl) (a_u c_T (a_u c_T (a_O (a_a (a_G (a_a a_k a_d)) a_d)) (a_j GWb m rfl gWb.mg gWb.kp gWb.b .nil a_v (a_a (b_s (d_g K) (pv 2) (b_G (pv 3)) b_7) a_d))) (a_O (a_a (a_G (a_a a_k a_d)) a_d))))
   (a_c (a_w (i:=6) c_C.nd rfl (Or.inl rfl) (a_j GBo aa rfl gBo.mg gBo.kp gBo.b .nil a_v (a_a (pv 1) (a_a (a_j GCp m rfl gCp.mg gCp.kp gCp.b .nil a_v (a_a (pv 4) a_d)) a_d))))
   (a_c (a_w (i:=7) c_C.nd rfl (Or.inl rfl) (a_j GBo aa rfl gBo.mg gBo.kp gBo.b .nil a_v (a_a (pv 1) (a_a (a_j GCp m rfl gCp.mg gCp.kp gCp.b .nil a_v (a_a (a_u c_T (pv 4) (pv 5)) a_d)) a_d))))
   (a_c (a_w (i:=8) c_C.nd rfl (Or.inr rfl) (a_j GNs m rfl gNs.mg gNs.kp gNs.b .nil a_v (a_a (pv 1) a_d)))
   (a_c (c_c (k:=9) (x:="_law_deed") (fns:= ["_law_store"]) (js:= [8]) rfl ⟨rfl,by decide+kernel,by decide+kernel,rfl,by decide+kernel,by decide+kernel,rfl,by simp[Env.kindOf];exact rfl,rfl,by decide+kernel⟩ (d_t K (pv 4)) (λ_ _ _ _=>b_K) (λ_ _ _ _=>(a_j GAn ao rfl gAn.mg gAn.kp gAn.b .nil a_v (a_a (pv 1) (a_a (pv 0) a_d)))) c_C.nd rfl (Or.inl rfl))
   (a_c (a_w (i:=10) c_C.nd rfl (Or.inl rfl) (a_G (a_a (a_j GRb m rfl gRb.mg gRb.kp gRb.b .nil a_v (a_a (pv 8) (a_a a_k a_d))) (a_a (a_j GRb m rfl gRb.mg gRb.kp gRb.b .nil a_v (a_a (pv 8) (a_a a_k a_d))) a_d))))
   (a_c (b_0 PassesOwn.never rfl (d_t K (a_O (a_a (pv 6) (a_a (pv 7) a_d)))) (a_9 (i:=11) c_C.nd rfl (Or.inl rfl))
   (a_c (a_C (PW.pt (c_G (b_Y (b_r (a_t (e_d K) (by rfl) B.isi d_a (a_a (pv 11) (a_a (b_I B.tuple e_y) a_d))))) (b_J (a_l d_e (a_t (b_R K) (by rfl) B.len s_F (a_a (pv 11) a_d)) a_g (a_q _))))) (a_f (a_n d_m)) a_p)
   (a_f (a_C (PW.pt (c_G (b_Y (b_r (a_j GAr ao rfl gAr.mg gAr.kp gAr.b .nil a_v (a_a (a_r (b_f K) (pv 11) a_g (λ_ _=>rfl)) a_d)))) (b_J (b_Y (b_r (a_j GAr ao rfl gAr.mg gAr.kp gAr.b .nil a_v (a_a (a_r (b_f K) (pv 11) a_g (λ_ _=>rfl)) a_d))))))) (a_f (a_n d_m)) a_p))))
   (a_c (a_C (PW.pt (c_G (b_Y (b_r (a_j GSa aj rfl gSa.mg gSa.kp gSa.b .nil a_v (a_a (pv 6) (a_a (pv 10) a_d))))) (b_J (b_Y (b_r (a_j GSa aj rfl gSa.mg gSa.kp gSa.b .nil a_v (a_a (pv 7) (a_a (pv 10) a_d)))))))) (a_f (a_n d_m)) a_p)
   (l_I (t':=q_W K) (a_c (c_c (k:=12) (x:="_law_deed") (fns:= ["_law_script"]) (js:= [0]) rfl ⟨rfl,by decide+kernel,by decide+kernel,rfl,by decide+kernel,by decide+kernel,rfl,by simp[Env.kindOf];exact rfl,rfl,by decide+kernel⟩ (d_t K (d_o GQs aj rfl gQs.mg gQs.kp gQs.b .nil a_v)) (λ_ _ _ _=>b_K) (λ_ _ _ _=>(a_j GMv cz rfl gMv.mg gMv.kp gMv.b .nil a_v (a_a (pv 0) (a_a (a_j GAt m rfl gAt.mg gAt.kp gAt.b .nil a_v (a_a (pv 1) (a_a a_g a_d))) a_d)))) c_C.nd rfl (Or.inl rfl))
   (a_c (a_w (i:=9) c_C.nd rfl (Or.inl rfl) (a_u c_T (pv 9) (c_w (x:="_law_deed") (fns:= ["_law_store"]) (js:= [8]) rfl ⟨rfl,by decide+kernel,by decide+kernel,rfl,by decide+kernel,by decide+kernel,rfl,by simp[Env.kindOf];exact rfl,rfl,by decide+kernel⟩ (d_t K (pv 12)) (λ_ _ _ _=>b_K) (λ_ _ _ _=>(a_j GAn ao rfl gAn.mg gAn.kp gAn.b .nil a_v (a_a (pv 1) (a_a (pv 0) a_d)))))))
   (a_c (a_w (i:=13) c_C.nd rfl (Or.inl rfl) (a_j GAw aa rfl gAw.mg gAw.kp gAw.b .nil a_v (a_a (pv 1) (a_a (a_j GCp m rfl gCp.mg gCp.kp gCp.b .nil a_v (a_a (a_u c_T (pv 4) (pv 12)) a_d)) a_d))))
   (a_c (a_w (i:=14) c_C.nd rfl (Or.inl rfl) (a_j GAw aa rfl gAw.mg gAw.kp gAw.b .nil a_v (a_a (pv 1) (a_a (a_j GCp m rfl gCp.mg gCp.kp gCp.b .nil a_v (a_a (a_u c_T (a_u c_T (pv 4) (pv 5)) (pv 12)) a_d)) a_d))))
   (a_c (a_C (PW.pt (c_G (b_Y (b_r (a_t (e_d K) (by rfl) B.isi d_a (a_a (pv 13) (a_a (b_I B.list e_v) a_d))))) (b_J (b_Y (b_r (a_t (e_d K) (by rfl) B.isi d_a (a_a (pv 14) (a_a (b_I B.list e_v) a_d)))))))) (a_f (a_n d_m)) a_p)
   (a_c (a_C (PW.pt (c_G (b_Y (b_r (a_j GSa aj rfl gSa.mg gSa.kp gSa.b .nil a_v (a_a (pv 13) (a_a (pv 9) a_d))))) (b_J (a_l d_e (a_t (b_R K) (by rfl) B.len s_F (a_a (pv 14) a_d)) (a_u a_U (a_t (b_R K) (by rfl) B.len s_F (a_a (pv 9) a_d)) (a_t (b_R K) (by rfl) B.len s_F (a_a (pv 5) a_d))) (a_q _))))) (a_f (a_n d_m)) a_p)
   (a_f (a_n (a_j GSa aj rfl gSa.mg gSa.kp gSa.b .nil a_v (a_a (b_s (d_g K) (pv 14) (b_G (a_u a_U (pv 3) (a_t (b_R K) (by rfl) B.len s_F (a_a (pv 5) a_d)))) b_7) (a_a (b_s (d_g K) (pv 9) (b_G (pv 3)) b_7) a_d))))))))))) (by
     rintro DD σ fl ⟨a,Da,lF,lr,t1,t2,st,Dd,tq,G,mk,C,FA,RA,ns,room,c,an,FD,RD,S7,A7,I,rfl,ha,hl,cj,mlF,nmF,hS,a2,g,a1,bl,g5,bh,⟨gh,ft,elF,elr,PF,PRr,dv,da⟩,fin⟩;have tlF:∀e∈FD,e.tell (atF ns 3):=λe he=>(g e he).2;have ai:(⟨[], []⟩:Sto).inML (atF ns 3):=⟨by simp,by simp⟩;have ak:(⟨[], []⟩:Sto).nums:=⟨by simp[b_9],by simp⟩;have a5:=f_x room FD ⟨[], []⟩;have R:=d_j (room:=room) (ds:=FD) (s:=⟨[], []⟩);have a6:=k_k (room:=room) tlF ai ak;have z:=λes=>c_8 room FD es ⟨[], []⟩;have a4:((⟨[], []⟩:Sto).run room (FD++RD)).1=S7:=by rw[c_8,hS];exact a2 S7
     rw[hS] at a5 R a6;simp only[hS] at z;dsimp only at a5 R a6 z;have a0:=c_P nmF.kept mlF.kept;have c8:=da.len;have cn:=Paired.length PF;have db:=Paired.length PRr;have lenFR:∀n:Nat,n<=999->n<=sizeLine:=λn h=>Nat.le_of_lt (a_F (by omega))
     have both:∀{x y:List Deed},(∀d∈x,d.form/\d.tell (atF ns 3))->(∀d∈y,d.form/\d.tell (atF ns 3))->∀d∈x++y,d.form/\d.tell (atF ns 3):=λhx hy d hd=>by
      rcases s_e.mp hd with q | q
      ·exact hx d q
      ·exact hy d q
     have W:=both g a1
     -- asked
     refine⟨rfl,λlq qs gj hh c2 fi cy f1=> ?_⟩;obtain⟨aq,eqq,Pq⟩:=fi;have g8:=cy.1;refine⟨lq,rfl,⟨_,SqL.of eqq⟩,λDb co=>e_5 (atF ns 3) eqq (f_t Pq) cy.2 co (by omega) (λ_ _ _ q=>q) ?_ ?_⟩
     ·intro b d Hx' Qx sx' hd hf hs k
      refine⟨_,rfl,_,rfl,a,ns,3,rfl,(c2.trans sx').seq ha,by omega,by decide,by decide,λHy' sy'=> ?_⟩;exact⟨b,d,_,rfl,DeedAt.same sy' hd,hf,hs,λb' d' Hz sz h1 h2 h3 h4 h5=>k b' d' Hz (sy'.trans sz) h1 h2 h3 (λl' q=>sy'.free (h4 l' q)) h5⟩
     intro ap ab N ex eb Pb gc as dp;have ay:=dp f1;have gs:=Paired.length Pb;have ba:=c2.trans ex;have cc:=cj.same ba;have dr:=m_B λb hb=>(cc.fpin b hb).2
     have df:Db∉st::mk::G::C:=λhc=>by
      obtain⟨⟨u,q⟩,_⟩:=(cj.same c2).fpin _ hc;rw[co] at q;cases q
     have Pbo:=k_q dr ay Pb;have ebo:i_R (st::mk::G::C) ap Db=some (.lst (ab.map V.ref)):=by rw[e_o df];exact eb
     have a7:=i_l (f:=st::mk::G::C) ba;rw[<-ft] at a7;have b0:∀b∈st::mk::G::C,i_R (st::mk::G::C) ap b=none:=λb hb=>f_G hb;have osm:Same (i_R (st::mk::G::C) ap) ap:=l_3;generalize i_R (st::mk::G::C) ap=Ho at Pbo ebo a7 b0 osm;have dl:=a7 _ _ dv;have e5:=BearsL.same a7 da;have gt:S7.marks.length<=60:=by have:S7.marks.length<=0+FD.length:=R;omega
     refine⟨_,rfl,_,rfl,Db,rfl,⟨_,SqL.of eb⟩,λDc fr=>k_0 (sd:=atF ns 3) ebo Pbo as osm fr (by omega) cc b0 mlF nmF (λ_ _ _ q=>q) ?_ ?_⟩
     ·intro b d Hx Qx kd' mas' so S hd hf ht hm hn hk fin'
      exact⟨_,rfl,_,rfl,st,kd',mk,b,mas',room,_,so,d,rfl,S,hd,hf,ht,hm,hn,hk,s_h (f_X hf) (by decide),fin'⟩
     intro cd O gv g9 cv ed b7 i2 g7;rw[d_6 ay] at b7;have ax:=b7.len;dsimp only at b7 ax;rw[r_W] at ax;refine⟨Dd,Dc,_,_,rfl,rfl,cv _ _ dl,ed,lenFR _ (by omega),λlz fn=> ?_⟩;have bv:=Same.upd_new (o:= .lst (I++O)) fn;have ez:(upd cd lz (.lst (I++O))) lz=some (.lst (I++O)):=a_b;generalize upd cd lz (.lst (I++O))=H34 at bv ez ⊢;have a3:=cv.trans bv;have Bz:=BearsL.app (BearsL.same a3 e5) (BearsL.same bv b7);have c7:=a7.trans a3;have U:=c7
     -- before
     refine⟨_,rfl,_,rfl,_,rfl,lF,Db,_,_,rfl,rfl,U _ _ elF,a3 _ _ ebo,by rw[r_W,r_W];exact lenFR _ (by omega),λlu g4=> ?_⟩;have ag:=Same.upd_new (o:= .lst (FA.map V.ref++ab.map V.ref)) g4;have eu:(upd H34 lu (.lst (FA.map V.ref++ab.map V.ref))) lu=some (.lst ((FA++ab).map V.ref)):=by rw[a_b,r_4]
     generalize upd H34 lu (.lst (FA.map V.ref++ab.map V.ref))=H35 at ag eu ⊢;have PU:Paired (DeedAt H35) (FA++ab) (FD++N):=a_D (a_J (U.trans ag) PF) (a_J (a3.trans ag) Pbo);have bu:=both g as;have fa:=g_f (λd hd=>(bu d hd).1);rw[r_Y] at fa;refine⟨lu,FD++N,rfl,⟨_,eu,PU⟩,by rw[r_Y];omega,λm3 ga gw ef dd=> ?_⟩;obtain⟨gn,f0,fw⟩:=dd;refine⟨room,atF ns 3,m3,_,FD++N,rfl,f0,f_t fw,bu,by omega,by rw[r_Y];omega,λlbe vsb cr _ et ebe Bbe=> ?_⟩;rw[z,d_6 ay] at Bbe;have af:=(ag.trans ef).trans et;have ac:=U.trans af
     -- behind
     refine⟨_,rfl,_,rfl,_,rfl,lF,lr,_,_,rfl,rfl,ac _ _ elF,ac _ _ elr,by rw[r_W,r_W];exact lenFR _ (by omega),λlg fo=> ?_⟩;have b9:=Same.upd_new (o:= .lst (FA.map V.ref++RA.map V.ref)) fo;have eg:(upd cr lg (.lst (FA.map V.ref++RA.map V.ref))) lg=some (.lst ((FA++RA).map V.ref)):=by rw[a_b,r_4]
     generalize upd cr lg (.lst (FA.map V.ref++RA.map V.ref))=H38 at b9 eg ⊢;have c0:=(a3.trans af).trans b9;refine⟨_,rfl,lg,Db,_,_,rfl,rfl,eg,c0 _ _ ebo,by rw[r_W,r_W,r_Y];exact lenFR _ (by omega),λlh g0=> ?_⟩;have b6:=Same.upd_new (o:= .lst ((FA++RA).map V.ref++ab.map V.ref)) g0;have eh:(upd H38 lh (.lst ((FA++RA).map V.ref++ab.map V.ref))) lh=some (.lst (((FA++RA)++ab).map V.ref)):=by rw[a_b,r_4 (l₂:=ab)]
     generalize upd H38 lh (.lst ((FA++RA).map V.ref++ab.map V.ref))=H39 at b6 eh ⊢;have bd:=(ac.trans b9).trans b6;have PV:Paired (DeedAt H39) ((FA++RA)++ab) ((FD++RD)++N):=a_D (a_D (a_J bd PF) (a_J bd PRr)) (a_J (c0.trans b6) Pbo);have bf:=both W as;have e9:=g_f (λd hd=>(bf d hd).1);rw[r_Y,r_Y] at e9;refine⟨lh,(FD++RD)++N,rfl,⟨_,eh,PV⟩,by rw[r_Y,r_Y];omega,λm4 i3 hj ey dh=> ?_⟩;obtain⟨h0,f8,f7⟩:=dh;refine⟨room,atF ns 3,m4,_,(FD++RD)++N,rfl,f8,f_t f7,bf,by omega,by rw[r_Y,r_Y];omega,λlv vsv go _ fe ev Bv=> ?_⟩;rw[c_8 room (FD++RD),a4,d_6 ay] at Bv;have bg:=f_x room (FD++RD) ⟨[], []⟩;rw[r_Y] at bg;generalize ((⟨[], []⟩:Sto).run room (FD++RD)).2=AFR at Bv bg;dsimp only at Bv Bbe;have dm:=Bv.len;rw[r_Y,r_W] at dm;have Y:=((b9.trans b6).trans ey).trans fe;have Z:=af.trans Y;have c9:=U.trans Z
     -- the checks
     refine⟨_,rfl,_,_,_,_,rfl,.lst (Y _ _ ebe),rfl,_,rfl,?_⟩;refine⟨_,rfl,_,_,_,_,rfl,.lst ev,rfl,_,rfl,?_⟩
     have fq:=m_i (k:=300) (l:=N.map (b_V S7.kept)) λx hx=>by
      obtain⟨d,hd,rfl⟩:=s_r.mp hx;exact m_t a0
     rw[r_W] at fq
     have c5:∀(x y:List D),D.wts (x++y)=D.wts x+D.wts y:=λx y=>by
      induction x with
      | nil=>simp[D.wts]
      | cons d r ih=>simp only[List.cons_append,D.wts,ih];omega
     refine⟨_,rfl,_,rfl,.lst (A7++N.map (b_V S7.kept)),.ref lbe,.ref lz,rfl,.lst (Y _ _ ebe) (BearsL.same Y Bbe),.lst (Z _ _ ez) (BearsL.same Z Bz),?_, λd7 am=>⟨_,rfl,?_⟩⟩
     ·show 1+D.wts _ < 100000
      rw[c5];omega
     have ae:=Z.trans am;have b4:=(c9.trans am) _ _ elr;refine⟨_,rfl,lv,_,rfl,.inl (SqL.of (am _ _ ev)),_,rfl,lz,_,rfl,.inl (SqL.of (ae _ _ ez)),_,rfl,lr,_,rfl,.inl (SqL.of b4),_,_,rfl,rfl,rfl,_,rfl,a_y (λq=>absurd q ?_) (λ_=> ?_)⟩
     ·have hz:((vsv.length:Nat):Int)=(((I++O).length:Nat):Int)+(((RA.map V.ref).length:Nat):Int):=by rw[r_Y,r_W];omega
      rw[hz];simp
     have ecut:(c:Int)+(((RA.map V.ref).length:Nat):Int)=((c+RD.length:Nat):Int):=by rw[r_W];omega
     refine⟨_,rfl,_,rfl,_,rfl,lr,_,rfl,.inl (SqL.of b4),_,_,rfl,rfl,_,rfl,lv,_,rfl,SqL.of (am _ _ ev),λbe dt=> ?_⟩;rw[ecut,c_v (by omega)];have b8:=Same.upd_new (o:= .lst (vsv.drop (c+RD.length))) dt;have cb:(upd d7 be (.lst (vsv.drop (c+RD.length)))) be=some (.lst (vsv.drop (c+RD.length))):=a_b;generalize upd d7 be (.lst (vsv.drop (c+RD.length)))=H43 at b8 cb ⊢;refine⟨_,rfl,_,rfl,_,rfl,lz,_,rfl,SqL.of ((ae.trans b8) _ _ ez),λf5 dk=> ?_⟩;rw[c_v (by rw[r_Y];omega)];have br:=Same.upd_new (o:= .lst ((I++O).drop c)) dk;have D1:=BearsL.drop (c+RD.length) Bv;rw[List.drop_left' (by omega)] at D1;have D2:=BearsL.drop c Bz;rw[List.drop_left' (by omega)] at D2;refine⟨.lst (N.map (b_V S7.kept)),.ref be,.ref f5,rfl,.lst (br _ _ cb) (BearsL.same ((am.trans b8).trans br) D1),.lst a_b (BearsL.same ((ae.trans b8).trans br) D2),?_, λeo _=>fin eo⟩;show 1+D.wts _ < 100000;omega))))))))))))))),?_⟩
  refine⟨_,rfl,a,ns,0,rfl,ha,by omega,by decide,by decide,λH1 s1=>⟨_,rfl,λroom H2 s2=> ?_⟩⟩;have cp:=s1.trans s2;refine⟨_,rfl,a,ns,rfl,cp.seq ha,by omega,λl1 d6 H3 h9 s3 bx dc=> ?_⟩;have d1:=cp.trans s3;refine⟨_,rfl,_,rfl,a,_,rfl,d1.seq ha,λp hp=> ?_⟩;obtain⟨ns',ec,gi⟩:=l_v ns (some 4) none;have s4:=Same.upd_new (o:= .lst (g_u (ns.map V.int) (some 4) none)) hp;refine⟨p,ns',rfl,by rw[<-ec];exact SqL.of a_b,by omega,λl2 d0 H5 gg s5 bi cx=> ?_⟩;have bo:=s4.trans s5;have f9:=d1.trans bo;obtain⟨ah,e1,P1⟩:=bx;obtain⟨al,e2,P2⟩:=bi;have ho:=Paired.length P1;have hq:=Paired.length P2;have hw:=dc.1;have gq:=cx.1;refine⟨l1,l2,_,_,rfl,rfl,bo _ _ e1,e2,by rw[r_W,r_W];exact Nat.le_of_lt (a_F (by omega)),λl3 fc=> ?_⟩;have s6:=Same.upd_new (o:= .lst (ah.map V.ref++al.map V.ref)) fc;have e3:(upd H5 l3 (.lst (ah.map V.ref++al.map V.ref))) l3=some (.lst ((ah++al).map V.ref)):=by rw[a_b,r_4]
  generalize upd H5 l3 (.lst (ah.map V.ref++al.map V.ref))=H6 at s6 e3 ⊢;have d8:=f9.trans s6;have P3:Paired (DeedAt H6) (ah++al) (d6++d0):=a_D (a_J (bo.trans s6) (f_t P1)) (a_J s6 (f_t P2))
  have f2:∀d∈d6++d0,d.form/\d.short:=λd hd=>by
   rcases s_e.mp hd with q | q
   ·exact dc.2 d q
   ·exact cx.2 d q
  refine⟨_,rfl,l3,rfl,⟨_,SqL.of e3⟩,λDa fm=>e_5 (atF ns 3) e3 P3 f2 fm (by rw[r_Y];omega) (λ_ _ _ q=>q) ?_ ?_⟩
  ·intro b d Hx' Qx sx' hd hf hs k
   refine⟨_,rfl,_,rfl,a,ns,3,rfl,(d8.trans sx').seq ha,by omega,by decide,by decide,λHy' sy'=> ?_⟩;exact⟨b,d,_,rfl,DeedAt.same sy' hd,hf,hs,λb' d' Hz sz h1 h2 h3 h4 h5=>k b' d' Hz (sy'.trans sz) h1 h2 h3 (λl' q=>sy'.free (h4 l' q)) h5⟩
  intro H7 asD ds s7 e7 P7 ew ct _;rw[r_Y] at ew;have d9:=d8.trans s7;have f3:=Paired.length P7;have g6:ds.length<=60:=by omega
  -- the cut
  refine⟨_,rfl,Da,_,rfl,.inl (SqL.of e7),_,rfl,a,ns,3,rfl,d9.seq ha,by omega,by decide,by decide,λH8 s8=> ?_⟩
  obtain⟨c,hc,hcn⟩:∃c:Nat,(((asD.map V.ref).length:Nat):Int) * (atF ns 3 % 5) / 4=(c:Int)/\c<=ds.length:=by
   rw[r_W,f3]
   refine⟨((ds.length:Int) * (atF ns 3 % 5) / 4).toNat,?_, ?_⟩ <;>
    rcases (show atF ns 3 % 5=0\/atF ns 3 % 5=1\/atF ns 3 % 5=2\/atF ns 3 % 5=3\/atF ns 3 % 5=4 by omega) with e | e | e | e | e <;> rw[e] <;> omega
  refine⟨_,_,rfl,rfl,(show (0:Int) < 5 by decide),_,_,rfl,rfl,.inr ⟨by omega,by omega⟩,_,_,rfl,rfl,⟨by decide,by decide⟩,?_⟩;dsimp only;rw[hc];have d3:c<=(asD.map V.ref).length:=by rw[r_W];omega
  have e8:=s8 _ _ e7
  -- first
  refine⟨_,rfl,_,rfl,_,rfl,Da,_,rfl,SqL.of e8,λlF fz=> ?_⟩;rw[i_t d3,<-List.map_take];have s9:=Same.upd_new (o:= .lst ((asD.take c).map V.ref)) fz;have eF:(upd H8 lF (.lst ((asD.take c).map V.ref))) lF=some (.lst ((asD.take c).map V.ref)):=a_b;generalize upd H8 lF (.lst ((asD.take c).map V.ref))=H9 at s9 eF ⊢;have cg:=s8.trans s9
  -- e_G
  refine⟨by show 1<=sizeLine;decide,λtb ff=>⟨by show 1<=sizeLine;decide,λlb cl=> ?_⟩⟩;have bs:=Same.upd_new (o:= .tup [V.str "begin"]) ff;have etb:(upd H9 tb (.tup [V.str "begin"])) tb=some (.tup [V.str "begin"]):=a_b;generalize upd H9 tb (.tup [V.str "begin"])=H10 at bs etb cl ⊢;have bq:=Same.upd_new (o:= .lst [V.ref tb]) cl;have elb:(upd H10 lb (.lst [V.ref tb])) lb=some (.lst [V.ref tb]):=a_b;generalize upd H10 lb (.lst [V.ref tb])=H11 at bq elb ⊢;have dg:=bs.trans bq;have bt:=cg.trans dg;refine⟨_,rfl,_,rfl,_,rfl,Da,_,rfl,SqL.of (bt _ _ e7),λlR fu=> ?_⟩;rw[c_v d3,<-List.map_drop];have aw:=Same.upd_new (o:= .lst ((asD.drop c).map V.ref)) fu;have eR:(upd H11 lR (.lst ((asD.drop c).map V.ref))) lR=some (.lst ((asD.drop c).map V.ref)):=a_b;generalize upd H11 lR (.lst ((asD.drop c).map V.ref))=H12 at aw eR ⊢;have dx:=bt.trans aw;have PR:Paired (DeedAt H12) (asD.drop c) (ds.drop c):=e_M c (a_J dx P7);refine⟨lR,_,_,rfl,eR,PR,by rw[List.length_drop];omega,λlw bw d4 hg dq elw Pw=> ?_⟩;have ee:=e_1 (ds.drop c) 0;rw[List.length_drop] at ee;have en:=Paired.length Pw;rw[r_Y,List.length_replicate] at en;have bc:=aw.trans dq;refine⟨lb,lw,_,_,rfl,rfl,bc _ _ elb,elw,by rw[r_W];exact Nat.le_of_lt (a_F (by simp;omega)),λlx ea=> ?_⟩;have ce:=Same.upd_new (o:= .lst ([V.ref tb]++bw.map V.ref)) ea;have elx:(upd d4 lx (.lst ([V.ref tb]++bw.map V.ref))) lx=some (.lst ((tb::bw).map V.ref)):=a_b;generalize upd d4 lx (.lst ([V.ref tb]++bw.map V.ref))=H14 at ce elx ⊢;refine⟨by show 1<=sizeLine;decide,λtk ep=>⟨by show 1<=sizeLine;decide,λlk ci=> ?_⟩⟩;have c3:=Same.upd_new (o:= .tup [V.str "break"]) ep;have etk:(upd H14 tk (.tup [V.str "break"])) tk=some (.tup [V.str "break"]):=a_b;generalize upd H14 tk (.tup [V.str "break"])=H15 at c3 etk ci ⊢;have av:=Same.upd_new (o:= .lst [V.ref tk]) ci;have elk:(upd H15 lk (.lst [V.ref tk])) lk=some (.lst [V.ref tk]):=a_b;generalize upd H15 lk (.lst [V.ref tk])=H16 at av elk ⊢;have b1:=c3.trans av;refine⟨lx,lk,_,_,rfl,rfl,b1 _ _ elx,elk,by rw[r_W];exact Nat.le_of_lt (a_F (by simp;omega)),λlr fg=> ?_⟩;have au:=Same.upd_new (o:= .lst ((tb::bw).map V.ref++ [V.ref tk])) fg;have elr:(upd H16 lr (.lst ((tb::bw).map V.ref++ [V.ref tk]))) lr=some (.lst (((tb::bw)++ [tk]).map V.ref)):=by rw[a_b,r_4 (l₂:= [tk])];rfl
  generalize upd H16 lr (.lst ((tb::bw).map V.ref++ [V.ref tk]))=H17 at au elr ⊢;have c6:=b1.trans au;have b2:=ce.trans c6;have b3:=bq.trans (bc.trans b2);have bn:=bs.trans b3;have bp:=cg.trans bn;have PF:Paired (DeedAt H17) (asD.take c) (ds.take c):=e_J c (a_J bp P7);have PRr:Paired (DeedAt H17) ((tb::bw)++ [tk]) (f_A (ds.drop c)):=a_D (.cons (b3 _ _ etb) (a_J b2 Pw)) (.cons (au _ _ (av _ _ etk)) .nil);have g:∀d∈ds.take c,d.form/\d.tell (atF ns 3):=λd hd=>ct d (List.mem_of_mem_take hd);have a1:∀d∈f_A (ds.drop c),d.form/\d.tell (atF ns 3):=n_a λd hd=>ct d (List.mem_of_mem_drop hd);have bl:(ds.take c).length=c:=by rw[s_i];omega
  have bh:=l_d (ds.drop c);rw[List.length_drop] at bh;have a2:=λs=>l_1 room s (ds.drop c);generalize gb:ds.take c=FD at PF g bl;generalize gy:f_A (ds.drop c)=RD at PRr a1 bh a2;have elF:=bn _ _ eF;have cn:=Paired.length PF;have db:=Paired.length PRr;generalize gx:asD.take c=FA at PF elF cn;generalize ge:(tb::bw)++ [tk]=RA at PRr elr db;have du:=d9.trans bp;refine⟨_,rfl,_,rfl,lF,FD,rfl,⟨FA,elF,PF⟩,by omega,λm1 gr gu f6 dj=> ?_⟩;obtain⟨i4,f4,fy⟩:=dj;have h7:=g_f (λd hd=>(g d hd).1);refine⟨room,atF ns 3,m1,_,FD,rfl,f4,f_t fy,g,by omega,by omega,λt1 p1 p2 d2 _ _ _ fk ch L1 L2=> ?_⟩;have ad:=f6.trans fk;have lenFR:∀n:Nat,n<=999->n<=sizeLine:=λn h=>Nat.le_of_lt (a_F (by omega));refine⟨_,rfl,_,rfl,_,rfl,lF,lr,_,_,rfl,rfl,ad _ _ elF,ad _ _ elr,by rw[r_W,r_W];exact lenFR _ (by omega),λlc fh=> ?_⟩;have bk:=Same.upd_new (o:= .lst (FA.map V.ref++RA.map V.ref)) fh;have ecc:(upd d2 lc (.lst (FA.map V.ref++RA.map V.ref))) lc=some (.lst ((FA++RA).map V.ref)):=by rw[a_b,r_4]
  generalize upd d2 lc (.lst (FA.map V.ref++RA.map V.ref))=H20 at bk ecc ⊢;have a8:=ad.trans bk;have PFR:Paired (DeedAt H20) (FA++RA) (FD++RD):=a_D (a_J a8 PF) (a_J a8 PRr)
  have both:∀{x y:List Deed},(∀d∈x,d.form/\d.tell (atF ns 3))->(∀d∈y,d.form/\d.tell (atF ns 3))->∀d∈x++y,d.form/\d.tell (atF ns 3):=λhx hy d hd=>by
   rcases s_e.mp hd with q | q
   ·exact hx d q
   ·exact hy d q
  have W:=both g a1;refine⟨lc,FD++RD,rfl,⟨_,ecc,PFR⟩,by rw[r_Y];omega,λm2 gk h8 cs dy=> ?_⟩;obtain⟨gz,fp,em⟩:=dy;have dw:=g_f (λd hd=>(W d hd).1);rw[r_Y] at dw;refine⟨room,atF ns 3,m2,_,FD++RD,rfl,fp,f_t em,W,by omega,by rw[r_Y];omega,λt2 p3 p4 gp _ _ _ cw ck L3 L4=> ?_⟩;have a4:((⟨[], []⟩:Sto).run room (FD++RD)).1=((⟨[], []⟩:Sto).run room FD).1:=by rw[c_8];exact a2 _
  rw[a4] at L3 L4;have X:=(a8.trans cs).trans cw
  -- the law's own store
  refine⟨_,rfl,room,rfl,λst kd mk e0 fj fb el fv cf g1 g2 g3=> ?_⟩;have St:StoAt e0 st kd mk [] room ⟨[], []⟩:=⟨g1,⟨[],g2,.nil⟩,g3,.nil,by simp at fv ⊢;grind⟩;have ai:(⟨[], []⟩:Sto).inML (atF ns 3):=⟨by simp,by simp⟩;have ak:(⟨[], []⟩:Sto).nums:=⟨by simp[b_9],by simp⟩;have fx:=a_J X PF;have d5:=X _ _ elF;refine⟨_,rfl,lF,rfl,⟨_,SqL.of (cf _ _ d5)⟩,λDd e4=>g_Q (sd:=atF ns 3) d5 fx g cf e4 (by simp;omega) St (by simp[fj,fb,el]) ai ak (λ_ _ _ q=>q) ?_ ?_⟩
  ·intro b d Hx Qx kd' mas' so S hd hf ht hm hn hk fin'
   exact⟨_,rfl,_,rfl,st,kd',mk,b,mas',room,_,so,d,rfl,S,hd,hf,ht,hm,hn,hk,s_h (f_X hf) (by decide),fin'⟩
  intro gd I G C c4 eq bm T dn dz;have tlF:∀e∈FD,e.tell (atF ns 3):=λe he=>(g e he).2;have mlF:=g_r (room:=room) tlF ai;have nmF:=f_N (room:=room) (ds:=FD) ak;have a5:=f_x room FD ⟨[], []⟩;have R:=d_j (room:=room) (ds:=FD) (s:=⟨[], []⟩);have a6:=k_k (room:=room) tlF ai ak;have az:=c_8 room FD;have z:=λes=>az es ⟨[], []⟩;clear az;generalize hS:(⟨[], []⟩:Sto).run room FD=R7 at T bm mlF nmF a5 R a6 L1 L2 L3 L4 z a4;obtain⟨S7,A7⟩:=R7;dsimp only at T bm mlF nmF a5 R a6 L1 L2 L3 L4 z a4;have a0:=c_P nmF.kept mlF.kept;have cm:=n_C (λb hb=>(T.fpin b hb).2) bm;have c8:=cm.len
  -- rows
  refine⟨_,rfl,st,G,mk,room,S7.kept,false,rfl,T.sto,T.kept,nmF.kept,a0,λq1 gm gf bj bx=> ?_⟩;refine⟨_,rfl,st,G,mk,room,S7.kept,true,rfl,bj _ _ T.sto,KeptAt.same T.kept bj,nmF.kept,a0,λq2 cq gl cu bi=>⟨by show 2<=sizeLine;decide,λtq fs=> ?_⟩⟩;have bb:=Same.upd_new (o:= .tup [V.ref q1,V.ref q2]) fs;have a9:=(bj.trans cu).trans bb;have bR:Bears (upd cq tq (.tup [V.ref q1,V.ref q2])) (g_V S7.kept) (.ref tq):=d_I a_b (LstAt.sameS bx (cu.trans bb)) (LstAt.sameS bi bb);generalize upd cq tq (.tup [V.ref q1,V.ref q2])=H27 at bb a9 bR ⊢;have b5:=c4.trans a9;have ca:=((bk.trans cs).trans cw).trans b5
  -- both pairs are two lists of rows
  refine⟨_,rfl,_,rfl,by show 2<=sizeLine;decide,λlp er=> ?_⟩;have ar:=Same.upd_new (o:= .lst [V.ref t1,V.ref t2]) er;have elp:(upd H27 lp (.lst [V.ref t1,V.ref t2])) lp=some (.lst [V.ref t1,V.ref t2]):=a_b;generalize upd H27 lp (.lst [V.ref t1,V.ref t2])=H28 at ar elp ⊢;have L:=ca.trans ar;have J:=b5.trans ar
  have two:∀v∈ [V.ref t1,V.ref t2],∃t p q,v= .ref t/\H28 t=some (.tup [.ref p,.ref q])/\LstAt H28 p (a_V false S7.kept)/\LstAt H28 q (a_V true S7.kept):=by
   intro v hv;simp only[r_7,List.not_mem_nil,or_false] at hv;rcases hv with rfl | rfl
   ·exact⟨t1,p1,p2,rfl,L _ _ ch,LstAt.sameS L1 L,LstAt.sameS L2 L⟩
   ·exact⟨t2,p3,p4,rfl,J _ _ ck,LstAt.sameS L3 J,LstAt.sameS L4 J⟩
  refine⟨lp,rfl,⟨_,SqL.of elp⟩,b_X (K:=K) (a:=lp) (xs:= [V.ref t1,V.ref t2]) (λi σ Hx=>∃an,σ= [some (.ref a),some (.int room),some (.ref Da),some (.int (c:Int)),some (.ref lF),some (.ref lr),some (.ref t1),some (.ref t2),some (.ref st),some (.ref Dd),some (.ref tq),an,none,none,none]/\Hx=H28) ⟨none,rfl,rfl⟩ (λi σ Hx _ ⟨_,_,e⟩=>by rw[e];exact SqL.of elp) ?_ ?_⟩
  ·rintro i v σ Hx hi ⟨an,rfl,rfl⟩
   obtain⟨t,p',q',rfl,ht,e6,ei⟩:=two v (s_m hi);refine⟨_,rfl,_,_,_,_,rfl,.tup ht,rfl,_,rfl,?_⟩;refine⟨_,rfl,t,_,rfl,.inr (SqT.of ht),rfl,_,rfl,?_⟩;refine⟨_,rfl,t,_,_,_,rfl,rfl,SqT.of ht,a_e (j:=0) rfl,p',_,rfl,e6,_,rfl,?_⟩;exact⟨_,rfl,t,_,_,_,rfl,rfl,SqT.of ht,a_e (j:=1) rfl,q',_,rfl,ei,_,rfl,_,rfl,rfl⟩
  rintro σ Hx ⟨an,rfl,rfl⟩;have bO:Bears Hx (g_V S7.kept) (.ref t1):=d_I (L _ _ ch) (LstAt.sameS L1 L) (LstAt.sameS L2 L);have bT:Bears Hx (g_V S7.kept) (.ref t2):=d_I (J _ _ ck) (LstAt.sameS L3 J) (LstAt.sameS L4 J);have c1:=Bears.same ar bR;have i0:=o_b a0;refine⟨_,rfl,_,rfl,g_V S7.kept,.ref t1,.ref tq,rfl,bO,c1,by omega,λh6 bz=>⟨_,rfl,?_⟩⟩;refine⟨_,rfl,_,rfl,g_V S7.kept,.ref t2,.ref tq,rfl,Bears.same bz bT,Bears.same bz c1,by omega,λfl ek=>⟨_,rfl,?_⟩⟩;have M:=((a9.trans ar).trans bz).trans ek;have di:=((du.trans X).trans c4).trans M;have de:=n_5 (c4.trans M) dn;have s17o:=X.trans de;exact⟨a,Da,lF,lr,t1,t2,st,Dd,tq,G,mk,C,FA,RA,ns,room,c,an,FD,RD,S7,A7,I,rfl,di.seq ha,hl,T.same M,mlF,nmF,hS,a2,g,a1,bl,by omega,by omega,⟨_,rfl,s17o _ _ elF,s17o _ _ elr,a_J s17o PF,a_J s17o PRr,by rw[e_o dz];exact M _ _ eq,BearsL.same (i_l M) cm⟩,fin⟩
end
section
variable {K:PySem.W.Frag} {x q:Str} {st:Stmt} {f:Addr} {fd:FuncData}
abbrev bnd (x q:Str) (st:Stmt) (us:List Value) (r:List (Str×Value)):Prop:=∀(kV doc pm:Value) (an:Option Addr) (cdv ct:Value),bindArgs (PySem.W.fnOf x q (e_p st) (c_1 st) (a_m st) .none kV doc pm an cdv ct) ⟨us, []⟩=pure r
theorem bd0 (F:Fun K x q st f fd) (h:bnd x q st [] []):Binds K fd [] []:=F.binds λa b c d e g us hl=>match us,hl with | [],_=>h  a b c d e g
theorem bd1 {p1:Str} (F:Fun K x q st f fd) (h:∀v1,bnd x q st [v1] [(p1,v1)]):Binds K fd [p1] []:=F.binds λa b c d e g us hl=>match us,hl with | [v1],_=>h v1 a b c d e g
theorem bd2 {p1 p2:Str} (F:Fun K x q st f fd) (h:∀v1 v2,bnd x q st [v1,v2] [(p1,v1),(p2,v2)]):Binds K fd [p1,p2] []:=F.binds λa b c d e g us hl=>match us,hl with | [v1,v2],_=>h v1 v2 a b c d e g
theorem bd3 {p1 p2 p3:Str} (F:Fun K x q st f fd) (h:∀v1 v2 v3,bnd x q st [v1,v2,v3] [(p1,v1),(p2,v2),(p3,v3)]):Binds K fd [p1,p2,p3] []:=F.binds λa b c d e g us hl=>match us,hl with | [v1,v2,v3],_=>h v1 v2 v3 a b c d e g
theorem bd4 {p1 p2 p3 p4:Str} (F:Fun K x q st f fd) (h:∀v1 v2 v3 v4,bnd x q st [v1,v2,v3,v4] [(p1,v1),(p2,v2),(p3,v3),(p4,v4)]):Binds K fd [p1,p2,p3,p4] []:=F.binds λa b c d e g us hl=>match us,hl with | [v1,v2,v3,v4],_=>h v1 v2 v3 v4 a b c d e g
end
theorem p_N {l:PySem.W.OpenLaw} {w:World} {K:PySem.W.Frag} {h:Heap} {mg:Str->Option Value} {fa CO CS CT CF CM CN CNo aq:Addr} (X:K.In h) (G:h.Ns mainGlobals mg) (hfa:mg "law"=some (.ref fa))
 {t1 t2 t3 t4 t5 u1 u2 u3 u4 u5:Tok} {dq:Option Addr} {nq:Nat} {sq:Array (Option Value)}
 {fInit:Addr} {dInit:FuncData}
 {fTake:Addr} {dTake:FuncData}
 {fLet:Addr} {dLet:FuncData}
 {fAhead:Addr} {dAhead:FuncData}
 {fBetw:Addr} {dBetw:FuncData}
 {fBA:Addr} {dBA:FuncData}
 {fRA:Addr} {dRA:FuncData}
 {fSplit:Addr} {dSplit:FuncData}
 {fJoin:Addr} {dJoin:FuncData}
 {fRows:Addr} {dRows:FuncData}
 {fSInit:Addr} {dSInit:FuncData}
 {fSBring:Addr} {dSBring:FuncData}
 {fSAlter:Addr} {dSAlter:FuncData}
 {fSCut:Addr} {dSCut:FuncData}
 {fSBegin:Addr} {dSBegin:FuncData}
 {fSKeep:Addr} {dSKeep:FuncData}
 {fSBreak:Addr} {dSBreak:FuncData}
 {fSRowOf:Addr} {dSRowOf:FuncData}
 {fSEnd:Addr} {dSEnd:FuncData}
 {fSChange:Addr} {dSChange:FuncData}
 {fSExch:Addr} {dSExch:FuncData}
 {fCW:Addr} {dCW:FuncData}
 {fLead:Addr} {dLead:FuncData}
 {fKey:Addr} {dKey:FuncData}
 {fqOrderOf:Addr} {dqOrderOf:FuncData}
 {fqWithin:Addr} {dqWithin:FuncData}
 {fqText:Addr} {dqText:FuncData}
 {fqRankKey:Addr} {dqRankKey:FuncData}
 {fqFrom:Addr} {dqFrom:FuncData}
 {fqSpot:Addr} {dqSpot:FuncData}
 {fdAnswers:Addr} {ddAnswers:FuncData}
 {fdAnsIn:Addr} {ddAnsIn:FuncData}
 {fdAnsOf:Addr} {ddAnsOf:FuncData}
 {fdAll:Addr} {ddAll:FuncData}
 {fdOne:Addr} {ddOne:FuncData}
 {fdDo:Addr} {ddDo:FuncData}
 {fdAsk:Addr} {ddAsk:FuncData}
 {fWhole:Addr} {dWhole:FuncData}
 {fAt:Addr} {dAt:FuncData}
 {fSame:Addr} {dSame:FuncData}
 {fTexts:Addr} {dTexts:FuncData}
 {fDrawn:Addr} {dDrawn:FuncData}
 {fFar:Addr} {dFar:FuncData}
 {fChangeOf:Addr} {dChangeOf:FuncData}
 {fQuestionOf:Addr} {dQuestionOf:FuncData}
 {fBringsOf:Addr} {dBringsOf:FuncData}
 {fDeedsOf:Addr} {dDeedsOf:FuncData}
 {fNewStore:Addr} {dNewStore:FuncData}
 {fRowsBy:Addr} {dRowsBy:FuncData}
 {fChanged:Addr} {dChanged:FuncData}
 {fAllChanged:Addr} {dAllChanged:FuncData}
 {fLies:Addr} {dLies:FuncData}
 {fToldByAll:Addr} {dToldByAll:FuncData}
 {fAnswered:Addr} {dAnswered:FuncData}
 {fStep:Addr} {dStep:FuncData}
 {fRaised:Addr} {dRaised:FuncData}
 {fRanked:Addr} {dRanked:FuncData}
 {fSigned:Addr} {dSigned:FuncData}
 {fMoved:Addr} {dMoved:FuncData}
 {fDeedMoved:Addr} {dDeedMoved:FuncData}
 {fRoomOf:Addr} {dRoomOf:FuncData}
 {fCopied:Addr} {dCopied:FuncData}
 {fdBothO:Addr} {ddBothO:FuncData}
 {fIsRow:Addr} {dIsRow:FuncData}
 {fAreRows:Addr} {dAreRows:FuncData}
 {fWithinBegun:Addr} {dWithinBegun:FuncData}
 {fQuestions:Addr} {dQuestions:FuncData}
 {fLaw:Addr} {dLaw:FuncData}
 (aCO:PySem.W.nsIn K mainGlobals "Order"=some (some (.ref CO))) (aCS:PySem.W.nsIn K mainGlobals "Store"=some (some (.ref CS)))
 (aInit:PySem.W.findIn K (.ref CO) "__init__"=some (some (.ref fInit))) (iInit:PySem.W.isFn K (.ref fInit)=true)
 (FInit:Fun K "__init__" "Order.__init__" m_8 fInit dInit)
 (aTake:PySem.W.findIn K (.ref CO) "take_in"=some (some (.ref fTake))) (iTake:PySem.W.isFn K (.ref fTake)=true)
 (FTake:Fun K "take_in" "Order.take_in" m_7 fTake dTake)
 (aLet:PySem.W.findIn K (.ref CO) "let_out"=some (some (.ref fLet))) (iLet:PySem.W.isFn K (.ref fLet)=true)
 (FLet:Fun K "let_out" "Order.let_out" q_o fLet dLet)
 (aAhead:PySem.W.findIn K (.ref CO) "ahead_of"=some (some (.ref fAhead))) (iAhead:PySem.W.isFn K (.ref fAhead)=true)
 (FAhead:Fun K "ahead_of" "Order.ahead_of" j_H fAhead dAhead)
 (aBetw:PySem.W.findIn K (.ref CO) "between"=some (some (.ref fBetw))) (iBetw:PySem.W.isFn K (.ref fBetw)=true)
 (FBetw:Fun K "between" "Order.between" o_e fBetw dBetw)
 (aBA:PySem.W.findIn K (.ref CO) "blocks_ahead"=some (some (.ref fBA))) (iBA:PySem.W.isFn K (.ref fBA)=true)
 (FBA:Fun K "blocks_ahead" "Order.blocks_ahead" sBA fBA dBA)
 (aRA:PySem.W.findIn K (.ref CO) "rows_ahead"=some (some (.ref fRA))) (iRA:PySem.W.isFn K (.ref fRA)=true)
 (FRA:Fun K "rows_ahead" "Order.rows_ahead" sRA fRA dRA)
 (aSplit:PySem.W.findIn K (.ref CO) "split_block"=some (some (.ref fSplit))) (iSplit:PySem.W.isFn K (.ref fSplit)=true)
 (FSplit:Fun K "split_block" "Order.split_block" k_m fSplit dSplit)
 (aJoin:PySem.W.findIn K (.ref CO) "join_if_few"=some (some (.ref fJoin))) (iJoin:PySem.W.isFn K (.ref fJoin)=true)
 (FJoin:Fun K "join_if_few" "Order.join_if_few" n_3 fJoin dJoin)
 (aRows:PySem.W.findIn K (.ref CO) "rows"=some (some (.ref fRows))) (iRows:PySem.W.isFn K (.ref fRows)=true)
 (FRows:Fun K "rows" "Order.rows" n_o fRows dRows)
 (aSInit:PySem.W.findIn K (.ref CS) "__init__"=some (some (.ref fSInit))) (iSInit:PySem.W.isFn K (.ref fSInit)=true)
 (FSInit:Fun K "__init__" "Store.__init__" m_R fSInit dSInit)
 (aSBring:PySem.W.findIn K (.ref CS) "bring"=some (some (.ref fSBring))) (iSBring:PySem.W.isFn K (.ref fSBring)=true)
 (FSBring:Fun K "bring" "Store.bring" j_3 fSBring dSBring)
 (aSAlter:PySem.W.findIn K (.ref CS) "alter"=some (some (.ref fSAlter))) (iSAlter:PySem.W.isFn K (.ref fSAlter)=true)
 (FSAlter:Fun K "alter" "Store.alter" k_b fSAlter dSAlter)
 (aSCut:PySem.W.findIn K (.ref CS) "cut"=some (some (.ref fSCut))) (iSCut:PySem.W.isFn K (.ref fSCut)=true)
 (FSCut:Fun K "cut" "Store.cut" q_q fSCut dSCut)
 (aSBegin:PySem.W.findIn K (.ref CS) "begin"=some (some (.ref fSBegin))) (iSBegin:PySem.W.isFn K (.ref fSBegin)=true)
 (FSBegin:Fun K "begin" "Store.begin" k_v fSBegin dSBegin)
 (aSKeep:PySem.W.findIn K (.ref CS) "keep"=some (some (.ref fSKeep))) (iSKeep:PySem.W.isFn K (.ref fSKeep)=true)
 (FSKeep:Fun K "keep" "Store.keep" m_T fSKeep dSKeep)
 (aSBreak:PySem.W.findIn K (.ref CS) "break_off"=some (some (.ref fSBreak))) (iSBreak:PySem.W.isFn K (.ref fSBreak)=true)
 (FSBreak:Fun K "break_off" "Store.break_off" j_f fSBreak dSBreak)
 (aSRowOf:PySem.W.findIn K (.ref CS) "row_of"=some (some (.ref fSRowOf))) (iSRowOf:PySem.W.isFn K (.ref fSRowOf)=true)
 (FSRowOf:Fun K "row_of" "Store.row_of" j_b fSRowOf dSRowOf)
 (aSEnd:PySem.W.findIn K (.ref CS) "end_of_last"=some (some (.ref fSEnd))) (iSEnd:PySem.W.isFn K (.ref fSEnd)=true)
 (FSEnd:Fun K "end_of_last" "Store.end_of_last" p_0 fSEnd dSEnd)
 (aSChange:PySem.W.findIn K (.ref CS) "change"=some (some (.ref fSChange))) (iSChange:PySem.W.isFn K (.ref fSChange)=true)
 (FSChange:Fun K "change" "Store.change" h_F fSChange dSChange)
 (aSExch:PySem.W.findIn K (.ref CS) "exchange"=some (some (.ref fSExch))) (iSExch:PySem.W.isFn K (.ref fSExch)=true)
 (FSExch:Fun K "exchange" "Store.exchange" o_d fSExch dSExch)
 (aCW:PySem.W.nsIn K mainGlobals "check_word"=some (some (.ref fCW)))
 (FCW:Fun K "check_word" "check_word" sCW fCW dCW)
 (aLead:PySem.W.nsIn K mainGlobals "lead_of"=some (some (.ref fLead)))
 (FLead:Fun K "lead_of" "lead_of" n_h fLead dLead)
 (aKey:PySem.W.nsIn K mainGlobals "key_of"=some (some (.ref fKey)))
 (FKey:Fun K "key_of" "key_of" q_t fKey dKey)
 (aqOrderOf:PySem.W.nsIn K mainGlobals "order_of"=some (some (.ref fqOrderOf)))
 (FqOrderOf:Fun K "order_of" "order_of" f_T fqOrderOf dqOrderOf)
 (aqWithin:PySem.W.nsIn K mainGlobals "rows_within"=some (some (.ref fqWithin)))
 (FqWithin:Fun K "rows_within" "rows_within" h_r fqWithin dqWithin)
 (aqText:PySem.W.nsIn K mainGlobals "rows_of_text"=some (some (.ref fqText)))
 (FqText:Fun K "rows_of_text" "rows_of_text" n_6 fqText dqText)
 (aqRankKey:PySem.W.nsIn K mainGlobals "rank_key"=some (some (.ref fqRankKey)))
 (FqRankKey:Fun K "rank_key" "rank_key" f_V fqRankKey dqRankKey)
 (aqFrom:PySem.W.nsIn K mainGlobals "rows_from"=some (some (.ref fqFrom)))
 (FqFrom:Fun K "rows_from" "rows_from" m_4 fqFrom dqFrom)
 (aqSpot:PySem.W.nsIn K mainGlobals "spot_of"=some (some (.ref fqSpot)))
 (FqSpot:Fun K "spot_of" "spot_of" m_6 fqSpot dqSpot)
 (adAnswers:PySem.W.nsIn K mainGlobals "answers"=some (some (.ref fdAnswers)))
 (FdAnswers:Fun K "answers" "answers" f_u fdAnswers ddAnswers)
 (adAnsIn:PySem.W.nsIn K mainGlobals "answers_in"=some (some (.ref fdAnsIn)))
 (FdAnsIn:Fun K "answers_in" "answers_in" k_E fdAnsIn ddAnsIn)
 (adAnsOf:PySem.W.nsIn K mainGlobals "answer_of"=some (some (.ref fdAnsOf)))
 (FdAnsOf:Fun K "answer_of" "answer_of" j_r fdAnsOf ddAnsOf)
 (adAll:PySem.W.nsIn K mainGlobals "all_or_none"=some (some (.ref fdAll)))
 (FdAll:Fun K "all_or_none" "all_or_none" q_0 fdAll ddAll)
 (adOne:PySem.W.nsIn K mainGlobals "answer_of_one"=some (some (.ref fdOne)))
 (FdOne:Fun K "answer_of_one" "answer_of_one" q_A fdOne ddOne)
 (adDo:PySem.W.nsIn K mainGlobals "do_change"=some (some (.ref fdDo)))
 (FdDo:Fun K "do_change" "do_change" dDo fdDo ddDo)
 (adAsk:PySem.W.nsIn K mainGlobals "answer_to_question"=some (some (.ref fdAsk)))
 (FdAsk:Fun K "answer_to_question" "answer_to_question" q_B fdAsk ddAsk)
 (aWhole:PySem.W.nsIn K mainGlobals "_law_whole"=some (some (.ref fWhole)))
 (FWhole:Fun K "_law_whole" "_law_whole" k_i fWhole dWhole)
 (aAt:PySem.W.nsIn K mainGlobals "_law_at"=some (some (.ref fAt)))
 (FAt:Fun K "_law_at" "_law_at" sAt fAt dAt)
 (aSame:PySem.W.nsIn K mainGlobals "_law_same"=some (some (.ref fSame)))
 (FSame:Fun K "_law_same" "_law_same" n_2 fSame dSame)
 (aTexts:PySem.W.nsIn K mainGlobals "_law_texts"=some (some (.ref fTexts)))
 (FTexts:Fun K "_law_texts" "_law_texts" j_m fTexts dTexts)
 (aDrawn:PySem.W.nsIn K mainGlobals "_law_drawn_row"=some (some (.ref fDrawn)))
 (FDrawn:Fun K "_law_drawn_row" "_law_drawn_row" k_d fDrawn dDrawn)
 (aFar:PySem.W.nsIn K mainGlobals "_law_far"=some (some (.ref fFar)))
 (FFar:Fun K "_law_far" "_law_far" p_1 fFar dFar)
 (aChangeOf:PySem.W.nsIn K mainGlobals "_law_change_of"=some (some (.ref fChangeOf)))
 (FChangeOf:Fun K "_law_change_of" "_law_change_of" e_R fChangeOf dChangeOf)
 (aQuestionOf:PySem.W.nsIn K mainGlobals "_law_question_of"=some (some (.ref fQuestionOf)))
 (FQuestionOf:Fun K "_law_question_of" "_law_question_of" c_5 fQuestionOf dQuestionOf)
 (aBringsOf:PySem.W.nsIn K mainGlobals "_law_brings_of"=some (some (.ref fBringsOf)))
 (FBringsOf:Fun K "_law_brings_of" "_law_brings_of" e_B fBringsOf dBringsOf)
 (aDeedsOf:PySem.W.nsIn K mainGlobals "_law_deeds_of"=some (some (.ref fDeedsOf)))
 (FDeedsOf:Fun K "_law_deeds_of" "_law_deeds_of" f_K fDeedsOf dDeedsOf)
 (aNewStore:PySem.W.nsIn K mainGlobals "_law_new_store"=some (some (.ref fNewStore)))
 (FNewStore:Fun K "_law_new_store" "_law_new_store" e_z fNewStore dNewStore)
 (aRowsBy:PySem.W.nsIn K mainGlobals "_law_rows_by"=some (some (.ref fRowsBy)))
 (FRowsBy:Fun K "_law_rows_by" "_law_rows_by" h_n fRowsBy dRowsBy)
 (aChanged:PySem.W.nsIn K mainGlobals "_law_changed"=some (some (.ref fChanged)))
 (FChanged:Fun K "_law_changed" "_law_changed" f_S fChanged dChanged)
 (aAllChanged:PySem.W.nsIn K mainGlobals "_law_all_changed"=some (some (.ref fAllChanged)))
 (FAllChanged:Fun K "_law_all_changed" "_law_all_changed" c_Y fAllChanged dAllChanged)
 (aLies:PySem.W.nsIn K mainGlobals "_law_lies"=some (some (.ref fLies)))
 (FLies:Fun K "_law_lies" "_law_lies" n_8 fLies dLies)
 (aToldByAll:PySem.W.nsIn K mainGlobals "_law_told_by_all"=some (some (.ref fToldByAll)))
 (FToldByAll:Fun K "_law_told_by_all" "_law_told_by_all" d_E fToldByAll dToldByAll)
 (aAnswered:PySem.W.nsIn K mainGlobals "_law_answered"=some (some (.ref fAnswered)))
 (FAnswered:Fun K "_law_answered" "_law_answered" e_D fAnswered dAnswered)
 (aStep:PySem.W.nsIn K mainGlobals "_law_step_by"=some (some (.ref fStep)))
 (FStep:Fun K "_law_step_by" "_law_step_by" n_I fStep dStep)
 (aRaised:PySem.W.nsIn K mainGlobals "_law_raised"=some (some (.ref fRaised)))
 (FRaised:Fun K "_law_raised" "_law_raised" h_w fRaised dRaised)
 (aRanked:PySem.W.nsIn K mainGlobals "_law_ranked"=some (some (.ref fRanked)))
 (FRanked:Fun K "_law_ranked" "_law_ranked" h_i fRanked dRanked)
 (aSigned:PySem.W.nsIn K mainGlobals "_law_signed"=some (some (.ref fSigned)))
 (FSigned:Fun K "_law_signed" "_law_signed" h_C fSigned dSigned)
 (aMoved:PySem.W.nsIn K mainGlobals "_law_row_moved"=some (some (.ref fMoved)))
 (FMoved:Fun K "_law_row_moved" "_law_row_moved" j_I fMoved dMoved)
 (aDeedMoved:PySem.W.nsIn K mainGlobals "_law_moved"=some (some (.ref fDeedMoved)))
 (FDeedMoved:Fun K "_law_moved" "_law_moved" b_8 fDeedMoved dDeedMoved)
 (aRoomOf:PySem.W.nsIn K mainGlobals "_law_room_of"=some (some (.ref fRoomOf)))
 (FRoomOf:Fun K "_law_room_of" "_law_room_of" h_t fRoomOf dRoomOf)
 (aCopied:PySem.W.nsIn K mainGlobals "_law_copied"=some (some (.ref fCopied)))
 (FCopied:Fun K "_law_copied" "_law_copied" g_Z fCopied dCopied)
 (adBothO:PySem.W.nsIn K mainGlobals "both_orders"=some (some (.ref fdBothO)))
 (FdBothO:Fun K "both_orders" "both_orders" i_8 fdBothO ddBothO)
 (aIsRow:PySem.W.nsIn K mainGlobals "_law_is_row"=some (some (.ref fIsRow)))
 (FIsRow:Fun K "_law_is_row" "_law_is_row" j_w fIsRow dIsRow)
 (aAreRows:PySem.W.nsIn K mainGlobals "_law_are_rows"=some (some (.ref fAreRows)))
 (FAreRows:Fun K "_law_are_rows" "_law_are_rows" f_C fAreRows dAreRows)
 (aWithinBegun:PySem.W.nsIn K mainGlobals "_law_within_begun"=some (some (.ref fWithinBegun)))
 (FWithinBegun:Fun K "_law_within_begun" "_law_within_begun" c_F fWithinBegun dWithinBegun)
 (aQuestions:PySem.W.nsIn K mainGlobals "_law_questions"=some (some (.ref fQuestions)))
 (FQuestions:Fun K "_law_questions" "_law_questions" d_D fQuestions dQuestions)
 (aLaw:PySem.W.nsIn K mainGlobals "law"=some (some (.ref fLaw)))
 (FLaw:Fun K "law" "law" q_C fLaw dLaw)
 (pgCO:PySem.W.plainGet K CO Str.empty=true) (hdCO:PySem.W.hasDictIn K CO=true) (poCO:PySem.W.plainOver K CO=true) (saCO:PySem.W.findIn K (.ref CO) "__setattr__"=some (some (.builtin "object.__setattr__"))) (mkCO:PySem.W.makesIn K CO=true) (kcCO:PySem.W.keepIn K (.ref CO)=true)
 (pgCS:PySem.W.plainGet K CS Str.empty=true) (hdCS:PySem.W.hasDictIn K CS=true) (poCS:PySem.W.plainOver K CS=true) (saCS:PySem.W.findIn K (.ref CS) "__setattr__"=some (some (.builtin "object.__setattr__"))) (mkCS:PySem.W.makesIn K CS=true) (kcCS:PySem.W.keepIn K (.ref CS)=true)
 (nCO_word:PySem.W.findIn K (.ref CO) "word"=some none)
 (nCO_blocks:PySem.W.findIn K (.ref CO) "blocks"=some none)
 (nCO_bring:PySem.W.findIn K (.ref CO) "bring"=some none)
 (nCS_room:PySem.W.findIn K (.ref CS) "room"=some none)
 (nCS_by_number:PySem.W.findIn K (.ref CS) "by_number"=some none)
 (nCS_by_rank:PySem.W.findIn K (.ref CS) "by_rank"=some none)
 (nCS_by_text:PySem.W.findIn K (.ref CS) "by_text"=some none)
 (nCS_steps:PySem.W.findIn K (.ref CS) "steps"=some none)
 (nCS_marks:PySem.W.findIn K (.ref CS) "marks"=some none)
 (q1:PySem.W.nsIn K mainGlobals "RANK_WORD"=some (some (.str "rank" t1)))
 (q2:PySem.W.nsIn K mainGlobals "TEXT_WORD"=some (some (.str "text" t2)))
 (q3:PySem.W.nsIn K mainGlobals "MOST_IN_A_BLOCK"=some (some (.int 8 t3)))
 (q4:PySem.W.nsIn K mainGlobals "LEAST_IN_TWO_BLOCKS"=some (some (.int 5 t4)))
 (q5:PySem.W.nsIn K mainGlobals "DONE"=some (some (.str "done" t5)))
 (qQ:PySem.W.nsIn K mainGlobals "QUESTIONS"=some (some (.ref aq))) (lQ:K.lookup aq=some ⟨.type "tuple",dq,.seq #[.str "row" u1,.str "within" u2,.str "both" u3,.str "from" u4,.str "spot" u5] nq,sq⟩)
 (aCT:PySem.W.nsIn K mainGlobals "Taken"=some (some (.ref CT))) (xCT:PySem.W.excIn K CT i_n "ValueError.__new__"=true)
 (aCF:PySem.W.nsIn K mainGlobals "Full"=some (some (.ref CF))) (xCF:PySem.W.excIn K CF i_n "ValueError.__new__"=true)
 (aCM:PySem.W.nsIn K mainGlobals "Missing"=some (some (.ref CM))) (xCM:PySem.W.excIn K CM i_n "ValueError.__new__"=true)
 (aCN:PySem.W.nsIn K mainGlobals "NotBegun"=some (some (.ref CN))) (xCN:PySem.W.excIn K CN i_n "ValueError.__new__"=true)
 (aCNo:PySem.W.nsIn K mainGlobals "NoOrder"=some (some (.ref CNo))) (xCNo:PySem.W.excIn K CNo i_n "ValueError.__new__"=true)
 (ett:PySem.W.exmOne K (.ref CT) (.ref CT)=some true)
 (emt:PySem.W.exmOne K (.ref CM) (.ref CT)=some false)
 (emm:PySem.W.exmOne K (.ref CM) (.ref CM)=some true)
 (eft:PySem.W.exmOne K (.ref CF) (.ref CT)=some false)
 (efm:PySem.W.exmOne K (.ref CF) (.ref CM)=some false)
 (eff:PySem.W.exmOne K (.ref CF) (.ref CF)=some true)
 (ent:PySem.W.exmOne K (.ref CN) (.ref CT)=some false)
 (enm:PySem.W.exmOne K (.ref CN) (.ref CM)=some false)
 (enf:PySem.W.exmOne K (.ref CN) (.ref CF)=some false)
 (enn:PySem.W.exmOne K (.ref CN) (.ref CN)=some true)
 (eot:PySem.W.exmOne K (.ref CNo) (.ref CT)=some false)
 (eom:PySem.W.exmOne K (.ref CNo) (.ref CM)=some false)
 (eof:PySem.W.exmOne K (.ref CNo) (.ref CF)=some false)
 (eon:PySem.W.exmOne K (.ref CNo) (.ref CN)=some false)
 (eoo:PySem.W.exmOne K (.ref CNo) (.ref CNo)=some true)
 (zlen:PySem.W.nsIn K mainGlobals "len"=some none)
 (zmin:PySem.W.nsIn K mainGlobals "min"=some none)
 (zsum:PySem.W.nsIn K mainGlobals "sum"=some none)
 (zisinstance:PySem.W.nsIn K mainGlobals "isinstance"=some none)
 (zint:PySem.W.nsIn K mainGlobals "int"=some none)
 (zbool:PySem.W.nsIn K mainGlobals "bool"=some none)
 (zlist:PySem.W.nsIn K mainGlobals "list"=some none)
 (ztuple:PySem.W.nsIn K mainGlobals "tuple"=some none)
 (zstr:PySem.W.nsIn K mainGlobals "str"=some none)
 (zsorted:PySem.W.nsIn K mainGlobals "sorted"=some none)
 (zrange:PySem.W.nsIn K mainGlobals "range"=some none)
 (zmax:PySem.W.nsIn K mainGlobals "max"=some none)
 (nb:PySem.W.nsIn K cStatics sharingNotToldKey=some none):
 ∃fd:FuncData,(∀(s:Shared) (v:Value),BindsTo s fd ⟨[v], []⟩ [("_law_script",v)])/\∀base:Heap,K.In base->base.Ns mainGlobals mg->FnOk l.prog w K mg base CX0 14 fa fd ["_law_script"] (l_x K):=by
 have e:=hfa.symm.trans (PySem.W.mg_of X G aLaw);cases e;have T:Txt K mg CO:=⟨⟨pgCO,hdCO,poCO,saCO⟩,nCO_word,nCO_blocks,PySem.W.mg_of X G aCO,⟨_,PySem.W.mg_of X G q1⟩,⟨_,PySem.W.mg_of X G q2⟩,⟨_,PySem.W.mg_of X G q3⟩,⟨_,PySem.W.mg_of X G q4⟩,PySem.W.mg_none_of X G zlen,PySem.W.mg_none_of X G zmin,PySem.W.mg_none_of X G zsum⟩;have ccc:CS≠CO:=λz=>by rw[z,nCO_bring] at aSBring;cases aSBring
 have TS:e_8 K mg CS CO:=⟨⟨pgCS,hdCS,poCS,saCS⟩,nCS_room,nCS_by_number,nCS_by_rank,nCS_by_text,nCS_steps,nCS_marks,PySem.W.mg_of X G aCS,ccc⟩;have TD:p_2 K mg:=⟨⟨_,PySem.W.mg_of X G q5⟩,⟨aq,PySem.W.mg_of X G qQ,λH=> .inr ⟨_,_,_,lQ,rfl,rfl,by show 5<=sizeLine;decide,.cons ⟨_,rfl⟩ (.cons ⟨_,rfl⟩ (.cons ⟨_,rfl⟩ (.cons ⟨_,rfl⟩ (.cons ⟨_,rfl⟩ .nil))))⟩⟩,PySem.W.mg_none_of X G zlen,PySem.W.mg_none_of X G zrange⟩;have ex:o_6 K mg CT CF CM CN:=⟨⟨PySem.W.mg_of X G aCT,xCT⟩,⟨PySem.W.mg_of X G aCF,xCF⟩,⟨PySem.W.mg_of X G aCM,xCM⟩,⟨PySem.W.mg_of X G aCN,xCN⟩⟩;have eO:Exc K mg "NoOrder" CNo:=⟨PySem.W.mg_of X G aCNo,xCNo⟩;have xm:o_M K CT CM CF CN CNo:=⟨ett,emt,emm,eft,efm,eff,ent,enm,enf,enn,eot,eom,eof,eon,eoo⟩;have dw:mg "max"=none:=PySem.W.mg_none_of X G zmax;have bt:mg "sorted"=none:=PySem.W.mg_none_of X G zsorted;have B:Bt mg:=⟨PySem.W.mg_none_of X G zlen,PySem.W.mg_none_of X G zmin,PySem.W.mg_none_of X G zisinstance,PySem.W.mg_none_of X G zint,PySem.W.mg_none_of X G zbool,PySem.W.mg_none_of X G zlist,PySem.W.mg_none_of X G ztuple,PySem.W.mg_none_of X G zstr,PySem.W.mg_none_of X G zsorted,PySem.W.mg_none_of X G zrange⟩;have de:Binds K dInit ["self","word"] []:=bd2 FInit λ_ _ _ _ _ _ _ _=>rfl;have cz:Binds K dTake ["self","row"] []:=bd2 FTake λ_ _ _ _ _ _ _ _=>rfl;have dx:Binds K dLet ["self","row"] []:=bd2 FLet λ_ _ _ _ _ _ _ _=>rfl;have c8:Binds K dAhead ["self","row"] []:=bd2 FAhead λ_ _ _ _ _ _ _ _=>rfl;have cs:Binds K dBetw ["self","low","high"] []:=bd3 FBetw λ_ _ _ _ _ _ _ _ _=>rfl;have e4:Binds K dBA ["self","key"] []:=bd2 FBA λ_ _ _ _ _ _ _ _=>rfl;have e5:Binds K dRA ["self","block","key"] []:=bd3 FRA λ_ _ _ _ _ _ _ _ _=>rfl;have ca:Binds K dSplit ["self","place"] []:=bd2 FSplit λ_ _ _ _ _ _ _ _=>rfl;have dc:Binds K dJoin ["self","place"] []:=bd2 FJoin λ_ _ _ _ _ _ _ _=>rfl;have dd:Binds K dRows ["self"] []:=bd1 FRows λ_ _ _ _ _ _ _=>rfl;have am:Binds K dSInit ["self","room"] []:=bd2 FSInit λ_ _ _ _ _ _ _ _=>rfl;have bm:Binds K dSBring ["self","row"] []:=bd2 FSBring λ_ _ _ _ _ _ _ _=>rfl;have bj:Binds K dSAlter ["self","row"] []:=bd2 FSAlter λ_ _ _ _ _ _ _ _=>rfl;have cp:Binds K dSCut ["self","number"] []:=bd2 FSCut λ_ _ _ _ _ _ _ _=>rfl;have br:Binds K dSBegin ["self"] []:=bd1 FSBegin λ_ _ _ _ _ _ _=>rfl;have cg:Binds K dSKeep ["self"] []:=bd1 FSKeep λ_ _ _ _ _ _ _=>rfl;have bq:Binds K dSBreak ["self"] []:=bd1 FSBreak λ_ _ _ _ _ _ _=>rfl;have bu:Binds K dSRowOf ["self","number"] []:=bd2 FSRowOf λ_ _ _ _ _ _ _ _=>rfl;have d1:Binds K dSEnd ["self"] []:=bd1 FSEnd λ_ _ _ _ _ _ _=>rfl;have ay:Binds K dSChange ["self","old","new"] []:=bd3 FSChange λ_ _ _ _ _ _ _ _ _=>rfl;have c7:Binds K dSExch ["self","old","new"] []:=bd3 FSExch λ_ _ _ _ _ _ _ _ _=>rfl;have e1:Binds K dCW ["word"] []:=bd1 FCW λ_ _ _ _ _ _ _=>rfl;have d7:Binds K dLead ["word","row"] []:=bd2 FLead λ_ _ _ _ _ _ _ _=>rfl;have du:Binds K dKey ["word","row"] []:=bd2 FKey λ_ _ _ _ _ _ _ _=>rfl;have ai:Binds K dqOrderOf ["store","word"] []:=bd2 FqOrderOf λ_ _ _ _ _ _ _ _=>rfl;have av:Binds K dqWithin ["store","word","low","high"] []:=bd4 FqWithin λ_ _ _ _ _ _ _ _ _ _=>rfl
 have ck:Binds K dqText ["store","low","high","text"] []:=bd4 FqText λ_ _ _ _ _ _ _ _ _ _=>rfl;have aa:Binds K dqRankKey ["row"] []:=bd1 FqRankKey λ_ _ _ _ _ _ _=>rfl;have c6:Binds K dqFrom ["store","word","spot","many"] []:=bd4 FqFrom λ_ _ _ _ _ _ _ _ _ _=>rfl;have ch:Binds K dqSpot ["store","word","number"] []:=bd3 FqSpot λ_ _ _ _ _ _ _ _ _=>rfl;have a7:Binds K ddAnswers ["room","deeds"] []:=bd2 FdAnswers λ_ _ _ _ _ _ _ _=>rfl;have bf:Binds K ddAnsIn ["store","deeds"] []:=bd2 FdAnsIn λ_ _ _ _ _ _ _ _=>rfl;have bd:Binds K ddAnsOf ["store","deed"] []:=bd2 FdAnsOf λ_ _ _ _ _ _ _ _=>rfl;have bdAll:Binds K ddAll ["store","changes"] []:=bd2 FdAll λ_ _ _ _ _ _ _ _=>rfl;have d4:Binds K ddOne ["store","deed"] []:=bd2 FdOne λ_ _ _ _ _ _ _ _=>rfl;have dv:Binds K ddDo ["store","deed"] []:=bd2 FdDo λ_ _ _ _ _ _ _ _=>rfl;have cw:Binds K ddAsk ["store","deed"] []:=bd2 FdAsk λ_ _ _ _ _ _ _ _=>rfl;have cf:Binds K dWhole ["_law_found"] []:=bd1 FWhole λ_ _ _ _ _ _ _=>rfl;have dz:Binds K dAt ["_law_script","_law_k"] []:=bd2 FAt λ_ _ _ _ _ _ _ _=>rfl;have ct:Binds K dSame ["_law_found","_law_due"] []:=bd2 FSame λ_ _ _ _ _ _ _ _=>rfl;have ci:Binds K dTexts [] []:=bd0 FTexts λ_ _ _ _ _ _=>rfl;have cb:Binds K dDrawn ["_law_number","_law_cell"] []:=bd2 FDrawn λ_ _ _ _ _ _ _ _=>rfl;have dr:Binds K dFar ["_law_number"] []:=bd1 FFar λ_ _ _ _ _ _ _=>rfl;have Z:Binds K dChangeOf ["_law_way","_law_number","_law_cell"] []:=bd3 FChangeOf λ_ _ _ _ _ _ _ _ _=>rfl;have u:Binds K dQuestionOf ["_law_way","_law_number","_law_cell"] []:=bd3 FQuestionOf λ_ _ _ _ _ _ _ _ _=>rfl;have U:Binds K dBringsOf ["_law_script"] []:=bd1 FBringsOf λ_ _ _ _ _ _ _=>rfl;have an:Binds K dDeedsOf ["_law_cells"] []:=bd1 FDeedsOf λ_ _ _ _ _ _ _=>rfl;have al:Binds K dNewStore ["_law_room"] []:=bd1 FNewStore λ_ _ _ _ _ _ _=>rfl;have bi:Binds K dRowsBy ["_law_store","_law_word"] []:=bd2 FRowsBy λ_ _ _ _ _ _ _ _=>rfl;have az:Binds K dChanged ["_law_store","_law_deed"] []:=bd2 FChanged λ_ _ _ _ _ _ _ _=>rfl;have o:Binds K dAllChanged ["_law_store","_law_deeds"] []:=bd2 FAllChanged λ_ _ _ _ _ _ _ _=>rfl;have d2:Binds K dLies ["_law_low","_law_value","_law_high"] []:=bd3 FLies λ_ _ _ _ _ _ _ _ _=>rfl;have Q:Binds K dToldByAll ["_law_store","_law_deed"] []:=bd2 FToldByAll λ_ _ _ _ _ _ _ _=>rfl;have ad:Binds K dAnswered ["_law_store","_law_deed"] []:=bd2 FAnswered λ_ _ _ _ _ _ _ _=>rfl;have d6:Binds K dStep ["_law_seed"] []:=bd1 FStep λ_ _ _ _ _ _ _=>rfl;have bv:Binds K dRaised ["_law_number","_law_seed"] []:=bd2 FRaised λ_ _ _ _ _ _ _ _=>rfl;have bb:Binds K dRanked ["_law_rank","_law_seed"] []:=bd2 FRanked λ_ _ _ _ _ _ _ _=>rfl;have ba:Binds K dSigned ["_law_letters","_law_seed"] []:=bd2 FSigned λ_ _ _ _ _ _ _ _=>rfl;have cj:Binds K dMoved ["_law_row","_law_seed"] []:=bd2 FMoved λ_ _ _ _ _ _ _ _=>rfl;have P:Binds K dDeedMoved ["_law_deed","_law_seed"] []:=bd2 FDeedMoved λ_ _ _ _ _ _ _ _=>rfl;have be:Binds K dRoomOf ["_law_cell"] []:=bd1 FRoomOf λ_ _ _ _ _ _ _=>rfl;have bk:Binds K dCopied ["_law_deeds"] []:=bd1 FCopied λ_ _ _ _ _ _ _=>rfl
 have bo:Binds K ddBothO ["room","deeds"] []:=bd2 FdBothO λ_ _ _ _ _ _ _ _=>rfl;have c9:Binds K dIsRow ["_law_found"] []:=bd1 FIsRow λ_ _ _ _ _ _ _=>rfl;have as:Binds K dAreRows ["_law_found"] []:=bd1 FAreRows λ_ _ _ _ _ _ _=>rfl;have j:Binds K dWithinBegun ["_law_deeds"] []:=bd1 FWithinBegun λ_ _ _ _ _ _ _=>rfl;have O:Binds K dQuestions [] []:=bd0 FQuestions λ_ _ _ _ _ _=>rfl;have mTake:Mf K CO "take_in" fTake _ ["self","row"]:=⟨⟨aTake,iTake,FTake.kp⟩,cz⟩;have mLet:Mf K CO "let_out" fLet _ ["self","row"]:=⟨⟨aLet,iLet,FLet.kp⟩,dx⟩;have mAhead:Mf K CO "ahead_of" fAhead _ ["self","row"]:=⟨⟨aAhead,iAhead,FAhead.kp⟩,c8⟩;have mBetw:Mf K CO "between" fBetw _ ["self","low","high"]:=⟨⟨aBetw,iBetw,FBetw.kp⟩,cs⟩;have mBA:Mf K CO "blocks_ahead" fBA _ ["self","key"]:=⟨⟨aBA,iBA,FBA.kp⟩,e4⟩;have mRA:Mf K CO "rows_ahead" fRA _ ["self","block","key"]:=⟨⟨aRA,iRA,FRA.kp⟩,e5⟩;have mSplit:Mf K CO "split_block" fSplit _ ["self","place"]:=⟨⟨aSplit,iSplit,FSplit.kp⟩,ca⟩;have mJoin:Mf K CO "join_if_few" fJoin _ ["self","place"]:=⟨⟨aJoin,iJoin,FJoin.kp⟩,dc⟩;have mRows:Mf K CO "rows" fRows _ ["self"]:=⟨⟨aRows,iRows,FRows.kp⟩,dd⟩;have mSBring:Mf K CS "bring" fSBring _ ["self","row"]:=⟨⟨aSBring,iSBring,FSBring.kp⟩,bm⟩;have mSAlter:Mf K CS "alter" fSAlter _ ["self","row"]:=⟨⟨aSAlter,iSAlter,FSAlter.kp⟩,bj⟩;have mSCut:Mf K CS "cut" fSCut _ ["self","number"]:=⟨⟨aSCut,iSCut,FSCut.kp⟩,cp⟩;have mSBegin:Mf K CS "begin" fSBegin _ ["self"]:=⟨⟨aSBegin,iSBegin,FSBegin.kp⟩,br⟩;have mSKeep:Mf K CS "keep" fSKeep _ ["self"]:=⟨⟨aSKeep,iSKeep,FSKeep.kp⟩,cg⟩;have mSBreak:Mf K CS "break_off" fSBreak _ ["self"]:=⟨⟨aSBreak,iSBreak,FSBreak.kp⟩,bq⟩;have mSRowOf:Mf K CS "row_of" fSRowOf _ ["self","number"]:=⟨⟨aSRowOf,iSRowOf,FSRowOf.kp⟩,bu⟩;have mSEnd:Mf K CS "end_of_last" fSEnd _ ["self"]:=⟨⟨aSEnd,iSEnd,FSEnd.kp⟩,d1⟩;have mSChange:Mf K CS "change" fSChange _ ["self","old","new"]:=⟨⟨aSChange,iSChange,FSChange.kp⟩,ay⟩;have mSExch:Mf K CS "exchange" fSExch _ ["self","old","new"]:=⟨⟨aSExch,iSExch,FSExch.kp⟩,c7⟩;have di:Gf K mg "check_word" fCW _ ["word"]:=⟨PySem.W.mg_of X G aCW,FCW.kp,e1⟩;have b9:Gf K mg "lead_of" fLead _ ["word","row"]:=⟨PySem.W.mg_of X G aLead,FLead.kp,d7⟩;have i:Gf K mg "key_of" fKey _ ["word","row"]:=⟨PySem.W.mg_of X G aKey,FKey.kp,du⟩;have a:Gf K mg "order_of" fqOrderOf _ ["store","word"]:=⟨PySem.W.mg_of X G aqOrderOf,FqOrderOf.kp,ai⟩;have aw:Gf K mg "rows_within" fqWithin _ ["store","word","low","high"]:=⟨PySem.W.mg_of X G aqWithin,FqWithin.kp,av⟩;have cc:Gf K mg "rows_of_text" fqText _ ["store","low","high","text"]:=⟨PySem.W.mg_of X G aqText,FqText.kp,ck⟩;have a3:Gf K mg "rank_key" fqRankKey _ ["row"]:=⟨PySem.W.mg_of X G aqRankKey,FqRankKey.kp,aa⟩;have c1:Gf K mg "rows_from" fqFrom _ ["store","word","spot","many"]:=⟨PySem.W.mg_of X G aqFrom,FqFrom.kp,c6⟩;have c3:Gf K mg "spot_of" fqSpot _ ["store","word","number"]:=⟨PySem.W.mg_of X G aqSpot,FqSpot.kp,ch⟩;have ah:Gf K mg "answers" fdAnswers _ ["room","deeds"]:=⟨PySem.W.mg_of X G adAnswers,FdAnswers.kp,a7⟩;have x:Gf K mg "answers_in" fdAnsIn _ ["store","deeds"]:=⟨PySem.W.mg_of X G adAnsIn,FdAnsIn.kp,bf⟩
 have bl:Gf K mg "answer_of" fdAnsOf _ ["store","deed"]:=⟨PySem.W.mg_of X G adAnsOf,FdAnsOf.kp,bd⟩;have cv:Gf K mg "all_or_none" fdAll _ ["store","changes"]:=⟨PySem.W.mg_of X G adAll,FdAll.kp,bdAll⟩;have b2:Gf K mg "answer_of_one" fdOne _ ["store","deed"]:=⟨PySem.W.mg_of X G adOne,FdOne.kp,d4⟩;have dm:Gf K mg "do_change" fdDo _ ["store","deed"]:=⟨PySem.W.mg_of X G adDo,FdDo.kp,dv⟩;have d0:Gf K mg "answer_to_question" fdAsk _ ["store","deed"]:=⟨PySem.W.mg_of X G adAsk,FdAsk.kp,cw⟩;have aj:Gf K mg "_law_whole" fWhole _ ["_law_found"]:=⟨PySem.W.mg_of X G aWhole,FWhole.kp,cf⟩;have dh:Gf K mg "_law_at" fAt _ ["_law_script","_law_k"]:=⟨PySem.W.mg_of X G aAt,FAt.kp,dz⟩;have co:Gf K mg "_law_same" fSame _ ["_law_found","_law_due"]:=⟨PySem.W.mg_of X G aSame,FSame.kp,ct⟩;have ac:Gf K mg "_law_texts" fTexts _ []:=⟨PySem.W.mg_of X G aTexts,FTexts.kp,ci⟩;have a8:Gf K mg "_law_drawn_row" fDrawn _ ["_law_number","_law_cell"]:=⟨PySem.W.mg_of X G aDrawn,FDrawn.kp,cb⟩;have N:Gf K mg "_law_far" fFar _ ["_law_number"]:=⟨PySem.W.mg_of X G aFar,FFar.kp,dr⟩;have ag:Gf K mg "_law_change_of" fChangeOf _ ["_law_way","_law_number","_law_cell"]:=⟨PySem.W.mg_of X G aChangeOf,FChangeOf.kp,Z⟩;have q:Gf K mg "_law_question_of" fQuestionOf _ ["_law_way","_law_number","_law_cell"]:=⟨PySem.W.mg_of X G aQuestionOf,FQuestionOf.kp,u⟩;have a2:Gf K mg "_law_brings_of" fBringsOf _ ["_law_script"]:=⟨PySem.W.mg_of X G aBringsOf,FBringsOf.kp,U⟩;have ar:Gf K mg "_law_deeds_of" fDeedsOf _ ["_law_cells"]:=⟨PySem.W.mg_of X G aDeedsOf,FDeedsOf.kp,an⟩;have ak:Gf K mg "_law_new_store" fNewStore _ ["_law_room"]:=⟨PySem.W.mg_of X G aNewStore,FNewStore.kp,al⟩;have y:Gf K mg "_law_rows_by" fRowsBy _ ["_law_store","_law_word"]:=⟨PySem.W.mg_of X G aRowsBy,FRowsBy.kp,bi⟩;have m:Gf K mg "_law_changed" fChanged _ ["_law_store","_law_deed"]:=⟨PySem.W.mg_of X G aChanged,FChanged.kp,az⟩;have r:Gf K mg "_law_all_changed" fAllChanged _ ["_law_store","_law_deeds"]:=⟨PySem.W.mg_of X G aAllChanged,FAllChanged.kp,o⟩;have cu:Gf K mg "_law_lies" fLies _ ["_law_low","_law_value","_law_high"]:=⟨PySem.W.mg_of X G aLies,FLies.kp,d2⟩;have R:Gf K mg "_law_told_by_all" fToldByAll _ ["_law_store","_law_deed"]:=⟨PySem.W.mg_of X G aToldByAll,FToldByAll.kp,Q⟩;have ae:Gf K mg "_law_answered" fAnswered _ ["_law_store","_law_deed"]:=⟨PySem.W.mg_of X G aAnswered,FAnswered.kp,ad⟩;have b3:Gf K mg "_law_step_by" fStep _ ["_law_seed"]:=⟨PySem.W.mg_of X G aStep,FStep.kp,d6⟩;have I:Gf K mg "_law_raised" fRaised _ ["_law_number","_law_seed"]:=⟨PySem.W.mg_of X G aRaised,FRaised.kp,bv⟩;have J:Gf K mg "_law_ranked" fRanked _ ["_law_rank","_law_seed"]:=⟨PySem.W.mg_of X G aRanked,FRanked.kp,bb⟩;have C:Gf K mg "_law_signed" fSigned _ ["_law_letters","_law_seed"]:=⟨PySem.W.mg_of X G aSigned,FSigned.kp,ba⟩;have c4:Gf K mg "_law_row_moved" fMoved _ ["_law_row","_law_seed"]:=⟨PySem.W.mg_of X G aMoved,FMoved.kp,cj⟩;have c:Gf K mg "_law_moved" fDeedMoved _ ["_law_deed","_law_seed"]:=⟨PySem.W.mg_of X G aDeedMoved,FDeedMoved.kp,P⟩;have bn:Gf K mg "_law_room_of" fRoomOf _ ["_law_cell"]:=⟨PySem.W.mg_of X G aRoomOf,FRoomOf.kp,be⟩
 have bs:Gf K mg "_law_copied" fCopied _ ["_law_deeds"]:=⟨PySem.W.mg_of X G aCopied,FCopied.kp,bk⟩;have bg:Gf K mg "both_orders" fdBothO _ ["room","deeds"]:=⟨PySem.W.mg_of X G adBothO,FdBothO.kp,bo⟩;have c0:Gf K mg "_law_is_row" fIsRow _ ["_law_found"]:=⟨PySem.W.mg_of X G aIsRow,FIsRow.kp,c9⟩;have b0:Gf K mg "_law_are_rows" fAreRows _ ["_law_found"]:=⟨PySem.W.mg_of X G aAreRows,FAreRows.kp,as⟩;have k:Gf K mg "_law_within_begun" fWithinBegun _ ["_law_deeds"]:=⟨PySem.W.mg_of X G aWithinBegun,FWithinBegun.kp,j⟩;have M:Gf K mg "_law_questions" fQuestions _ []:=⟨PySem.W.mg_of X G aQuestions,FQuestions.kp,O⟩;have MO:Mk K CO fInit:=⟨mkCO,aInit,iInit,kcCO⟩;have MS:Mk K CS fSInit:=⟨mkCS,aSInit,iSInit,kcCS⟩;refine⟨dLaw,λs v=> ?_, λbase _ _=> ?_⟩
 ·obtain⟨_,_,_,_,_,_,_,_,_,rfl,_,_⟩:=FLaw.ex
  exact .of_eq rfl
 have e6:FnOk l.prog w K mg base _ _ _ _ _ _:=q_h FCW T;have dp:FnOk l.prog w K mg base _ _ _ _ _ _:=p_e FCW T eO;have b5:FnOk l.prog w K mg base _ _ _ _ _ _:=n_M FLead T;have g:FnOk l.prog w K mg base _ _ _ _ _ _:=o_3 FKey T b9 b5;have dk:FnOk l.prog w K mg base _ _ _ _ _ _:=q_m FRA T i g;have b6:FnOk l.prog w K mg base _ _ _ _ _ _:=p_X FBA T i g;have cd:FnOk l.prog w K mg base _ _ _ _ _ _:=k_3 FSplit T;have cr:FnOk l.prog w K mg base _ _ _ _ _ _:=n_v FTake T i g mBA b6 mRA dk mSplit cd;have d9:FnOk l.prog w K mg base _ _ _ _ _ _:=n_E FJoin T;have dn:FnOk l.prog w K mg base _ _ _ _ _ _:=p_H FLet T i g mBA b6 mJoin d9;have cm:FnOk l.prog w K mg base _ _ _ _ _ _:=k_Y FAhead T i g mBA b6 mRA dk;have b4:FnOk l.prog w K mg base _ _ _ _ _ _:=n_x FBetw T b9 b5 mBA b6;have d8:FnOk l.prog w K mg base _ _ _ _ _ _:=m_U FInit T di e6;have b7:FnOk l.prog w K mg base _ _ _ _ _ _:=o_i FSExch T TS mTake cr mLet dn;have f:FnOk l.prog w K mg base _ _ _ _ _ _:=j_h FSChange T TS mSExch b7;have d:FnOk l.prog w K mg base _ _ _ _ _ _:=l_L FSRowOf TS ex;have bw:FnOk l.prog w K mg base _ _ _ _ _ _:=o_S FSEnd T TS ex;have cn:FnOk l.prog w K mg base _ _ _ _ _ _:=l_G FSBring T TS ex mSChange f;have c5:FnOk l.prog w K mg base _ _ _ _ _ _:=k_4 FSAlter TS mSChange f mSRowOf d;have dt:FnOk l.prog w K mg base _ _ _ _ _ _:=p_E FSCut TS mSChange f mSRowOf d;have a9:FnOk l.prog w K mg base _ _ _ _ _ _:=l_g FSBegin T TS;have b1:FnOk l.prog w K mg base _ _ _ _ _ _:=o_q FSKeep T TS mSEnd bw;have ab:FnOk l.prog w K mg base _ _ _ _ _ _:=l_z FSBreak T TS mSEnd bw mSExch b7;have bx:FnOk l.prog w K mg base _ _ _ _ _ _:=l_t FSInit T TS MO de d8;have b:FnOk l.prog w K mg base _ _ _ _ _ _:=i_Z FqOrderOf T TS di dp;have bp:FnOk l.prog w K mg base _ _ _ _ _ _:=i_6 FqWithin T a b mBetw b4;have da:FnOk l.prog w K mg base _ _ _ _ _ _:=o_j FqSpot T TS a b mAhead cm mSRowOf d;have cq:FnOk l.prog w K mg base _ _ _ _ _ _:=n_1 FqFrom T dw a b;have au:FnOk l.prog w K mg base _ _ _ _ _ _:=i_X FqRankKey T i g;have cy:FnOk l.prog w K mg base _ _ _ _ _ _:=n_P FqText T TS bt mBetw b4 a3 au;have dy:FnOk l.prog w K mg base _ _ _ _ _ _:=q_w FdDo TS mSBring cn mSAlter c5 mSCut dt mSBegin a9 mSKeep b1 mSBreak ab;have ds:FnOk l.prog w K mg base _ _ _ _ _ _:=n_f FdAsk TS mSRowOf d aw bp cc cy c1 cq c3 da;have bz:FnOk l.prog w K mg base _ _ _ _ _ _:=p_q FdOne TD ex eO xm d0 ds dm dy;have d5:FnOk l.prog w K mg base _ _ _ _ _ _:=m_L FdAll TS TD b2 bz mSBegin a9 mSKeep b1 mSBreak ab;have KOf:FnOk l.prog w K mg base _ _ _ _ _ _:=q_j FdAnsOf cv d5 b2 bz;have dj:FnOk l.prog w K mg base _ _ _ _ _ _:=q_v FdAnsIn bl KOf;have ao:FnOk l.prog w K mg base _ _ _ _ _ _:=i_B FdAnswers TS MS am bx x dj;have a1:FnOk l.prog w K mg base _ _ _ _ _ _:=l_J FWhole B;have dg:FnOk l.prog w K mg base _ _ _ _ _ _:=p_Q FAt B;have dl:FnOk l.prog w K mg base _ _ _ _ _ _:=o_5 dg;have cx:FnOk l.prog w K mg base _ _ _ _ _ _:=m_W FSame B aj a1;have Y:FnOk l.prog w K mg base _ _ _ _ _ _:=k_Z FTexts;have af:FnOk l.prog w K mg base _ _ _ _ _ _:=l_f FDrawn ac Y
 have S:FnOk l.prog w K mg base _ _ _ _ _ _:=p_A FFar B;have b8:FnOk l.prog w K mg base _ _ _ _ _ _:=n_U FStep B;have L:FnOk l.prog w K mg base _ _ _ _ _ _:=i_3 FRaised B b3 b8;have E:FnOk l.prog w K mg base _ _ _ _ _ _:=j_Z FRanked B b3 b8;have F:FnOk l.prog w K mg base _ _ _ _ _ _:=j_X FSigned B nb;have c2:FnOk l.prog w K mg base _ _ _ _ _ _:=k_2 FMoved I L J E C F;have a0:FnOk l.prog w K mg base _ _ _ _ _ _:=h_f FChangeOf N S a8 af;have t:FnOk l.prog w K mg base _ _ _ _ _ _:=f_D FQuestionOf N S ac Y;have a5:FnOk l.prog w K mg base _ _ _ _ _ _:=h_b FBringsOf B dh dl N S a8 af;have ap:FnOk l.prog w K mg base _ _ _ _ _ _:=i_I FDeedsOf B ag a0 q t;have bh:FnOk l.prog w K mg base _ _ _ _ _ _:=j_2 FRoomOf;have bc:FnOk l.prog w K mg base _ _ _ _ _ _:=j_l FCopied B;have e0:FnOk l.prog w K mg base _ _ _ _ _ _:=p_4 FDeedMoved c I L J E C F c4 c2;have n:FnOk l.prog w K mg base _ _ _ _ _ _:=i_V FChanged B;have p:FnOk l.prog w K mg base _ _ _ _ _ _:=f_s FAllChanged B m n;have a4:FnOk l.prog w K mg base _ _ _ _ _ _:=g_Y FNewStore;have db:FnOk l.prog w K mg base _ _ _ _ _ _:=n_t FLies;have A:FnOk l.prog w K mg base _ _ _ _ _ _:=k_u FRowsBy B;have df:FnOk l.prog w K mg base _ _ _ _ _ _:=n_B FToldByAll B y A cu db;have a6:FnOk l.prog w K mg base _ _ _ _ _ _:=h_p FAnswered B m n r p R df;have d3:FnOk l.prog w K mg base _ _ _ _ _ _:=o_l FRows T;have ce:FnOk l.prog w K mg base _ _ _ _ _ _:=k_6 FdBothO T TS MS am bx x dj mRows d3;have cl:FnOk l.prog w K mg base _ _ _ _ _ _:=l_s FIsRow B aj a1;have ax:FnOk l.prog w K mg base _ _ _ _ _ _:=i_Y FAreRows B c0 cl;have e2:FnOk l.prog w K mg base _ _ _ _ _ _:=q_d FWithinBegun B;have e3:FnOk l.prog w K mg base _ _ _ _ _ _:=q_s FQuestions B N S;exact o_G FLaw B dh dg bn bh a2 a5 ar ap c e0 bs bc ah ao bg ce co cx ak a4 ae a6 y A k e2 b0 ax M e3
theorem r_v {l:PySem.W.OpenLaw} {q:Program} {loose:List Str} {XP:(Str->Option Value)->Heap->Prop} {YP:World->Heap->Prop} {d:DefRec} {K:Params->PySem.W.Frag} (hn:l.most=some 63) (hdf:d.params.defaults= [])
 (hY:∀(w:World) (h:Heap),YP w h->(K w.params).In h)
 (F:∀(w:World) (mg:Str→Option Value) (fa:Addr) (h:Heap),(K w.params).In h→h.Ns mainGlobals mg→mg d.name=some (.ref fa)→
   ∃fd:FuncData,(∀(s:Shared) (u:Value),BindsTo s fd ⟨[u], []⟩ [("_law_script",u)])/\∀base:Heap,(K w.params).In base->base.Ns mainGlobals mg->FnOk l.prog w (K w.params) mg base CX0 14 fa fd ["_law_script"] (l_x (K w.params))):
 PySem.W.WalkO q loose XP YP l.row.toRowW d [] (λf vs=>PySem.call f vs):=
 L2.n_W (n:=63) (k:=14) (x:="_law_script") (CX:=λ_=>CX0) (sp:=λw=>l_x (K w.params)) hn (by decide) hdf ⟨rfl,by decide,by decide⟩ hY F (λ_ _ a ns hl _ hS=>⟨a,ns,rfl,hS,hl,λ_=>rfl⟩) λ_ _ _ _ _ z=>z
end K1
namespace PySem.W.Fast
def tw2540656403646585881:=0
def tw13884308320286225258:=0
def tw16771478915666543489:=0
def tw2934691304337734103:=0
def tw8562269911748256364:=0
def tw4712667940237538799:=0
def tw6580070859978273020:=0
def tw1242245394940427604:=0
def tw5379783514298158350:=0
def tw16108762539354322651:=0
def tw14270531308945503177:=0
def tw17845885808505153140:=0
def tw1929570205351189826:=0
def tw5146463063665444316:=0
def tw12815446974073872616:=0
def tw12005888985932145229:=0
def tw14147170487740740318:=0
def tw11220077112098371016:=0
def tw12566691142813507747:=0
def tw1973833230348375059:=0
def tw17063648441745609643:=0
def tw17614711137732040865:=0
def tw1354591998311042840:=0
def tw2830869071796610145:=0
def tw14625369905057802389:=0
def tw10520651889704237228:=0
def tw15439429284018148004:=0
def tw13356237360646494778:=0
def tw2504965661741102908:=0
def tw6488363122999754148:=0
def tw8224553600307824086:=0
def tw12200711816284065325:=0
def tw7954821515117629854:=0
def tw12545737612689642942:=0
def tw8034035702305999142:=0
def tw16427398070723802493:=0
def tw14963195166382542131:=0
def tw3454344237187997504:=0
def tw9258865928132835173:=0
def tw16084645173293293261:=0
def tw16837833752600789848:=0
def tw1038049253934488859:=0
def tw16857088438933506530:=0
def tw5142499065531620447:=0
def tw9485472310323043983:=0
def tw4642339867913858974:=0
def tw17877496021650247179:=0
def tw1726133359302656647:=0
def tw1100975944704814077:=0
def tw8569747650573277175:=0
def tw9544399033434337653:=0
def tw18056155473690456664:=0
def tw17667184477496292566:=0
def tw12601795474984348366:=0
def tw16896613717417809419:=0
def tw1487853227802329644:=0
def tw18056051684748984074:=0
def tw17322272785007636551:=0
def tw6741772750261382910:=0
def tw13042077637618674329:=0
def tw4419677715240128868:=0
def tw4341934522919975935:=0
def tw1488495564717322111:=0
def tw4225728479928304132:=0
def tw13045765781088574985:=0
def tw7486374635929720276:=0
def tw12757291712529942552:=0
def tw16426548980349460212:=0
def tw2802382999973506211:=0
def tw14214580226638649087:=0
def tw14542402347733467080:=0
def tw3097487151030547142:=0
def tw5847080038516343965:=0
def tw16804949699320467213:=0
def tw10992002323962236225:=0
def tw2265160644854686074:=0
def tw16862020465495723367:=0
def tw10335672988728993523:=0
def tw13582196593662286026:=0
def tw4432056451721635335:=0
def tw9587578455480645465:=0
def tw3837609811603599082:=0
def tw6443300551614865973:=0
def tw13491089387012454653:=0
def tw2302300071119709548:=0
def tw11505674927081504063:=0
def tw6736096212085425567:=0
def tw8602662296594784406:=0
def tw14880317843551467945:=0
def tw16797807615637600989:=0
def tw8255915946584690064:=0
def tw5523447585089191443:=0
def tw8126203840146941686:=0
def tw15598261009562164710:=0
def tw17289274238345754192:=0
def tw7607188846778093729:=0
def tw11173716663804307594:=0
def tw8461437266176376013:=0
def tw8899755056928671590:=0
def tw3695365074315646085:=0
def tw13479456461827425660:=0
def tw5744876621768322231:=0
def tw14653240757589699625:=0
def tw6662558029716080659:=0
def tw16064290025469240352:=0
def tw14521598986664977191:=0
def tw14335230985316570060:=0
def tw18073714619253854198:=0
def tw9185533448979156716:=0
def tw17528205676128180345:=0
def tw13097462590149383076:=0
def tw9367554997265570546:=0
def tw18421765059021476409:=0
def tw9252253161401462697:=0
def tw15895326492740278007:=0
def tw15373467948994865555:=0
def tw6098906109238034873:=0
def tw2336296372052318284:=0
def tw14563588044884058204:=0
def tw6137662721432631509:=0
def tw9629256694292095440:=0
def tw17924597536393333203:=0
def tw4983914959646932343:=0
def tw17384614942532417614:=0
def tw9423530704431929889:=0
def tw4989418087361340558:=0
def tw17902092623102383663:=0
def tw12196624892835919124:=0
def tw4763439808544024026:=0
def tw5427336059326526066:=0
def tw9582426698459291686:=0
def tw12134699103360823182:=0
def tw10477318287661868842:=0
def tw12165183509564175536:=0
def tw8794952202839710591:=0
def tw6883258126176950189:=0
def tw5452433607505091592:=0
def tw835415312094438412:=0
def tw17814724620372099823:=0
def tw204898147029974697:=0
def tw15455590873427996475:=0
def tw5515537221534744814:=0
def tw13888259532250827071:=0
def tw6640882501418021637:=0
def tw4013560379798663448:=0
def tw10517811109462743827:=0
def tw17280184719067699921:=0
def tw4307008416095031866:=0
def tw11162195857006794922:=0
def tw1890270776807226714:=0
def tw13597116657841113593:=0
def tw8770449322621979741:=0
def tw17113197488029618402:=0
def tw4839733781371950228:=0
def tw17745744690922355385:=0
def tw11675802730015942211:=0
def tw15413261024049421805:=0
def tw1183969397749258510:=0
def tw17884489838376725410:=0
def tw6630737389934706039:=0
def tw3093192178230906440:=0
def tw2481033022846462392:=0
def tw17252665322976286860:=0
def tw16612945950934112780:=0
def tw14413462802344705997:=0
def tw495305303579245015:=0
def tw4531719171043986763:=0
def tw17769945405080301333:=0
def tw16892903599365566636:=0
def tw17340060923484750393:=0
def tw11582811792903059219:=0
def tw1821789546134980593:=0
def tw13352251547431764777:=0
def tw2393910911564977393:=0
def tw395547745900662207:=0
def tw17526981895605476447:=0
def tw10651407746443810576:=0
def tw10997995802603355724:=0
def tw9113929543178347259:=0
def tw12914870217024779239:=0
def tw1805058801538928558:=0
def tw14922343146091321662:=0
def tw7121843000321430484:=0
def tw15806143880710359122:=0
def tw15544065446512562645:=0
def tw17386734521901551180:=0
def tw13329343903121292570:=0
def tw10620992796046262358:=0
def tw18382997460416736605:=0
def tw9767697747191867641:=0
def tw2802255791077231417:=0
def tw17220831185185346278:=0
def tw15602117712910506586:=0
def tw12543199176122587046:=0
def tw17344106123941051718:=0
def tw625843069782767673:=0
def tw17743521563189457930:=0
def tw1043458856455184820:=0
def tw16665630099758726779:=0
def tw9352817076907828639:=0
def tw15815646409909912843:=0
def tw1282114608920692303:=0
def tw16998780967640683359:=0
def tw9576634353138794558:=0
def tw10591295361231501734:=0
def tw17045875942096959465:=0
def tw6990472298158995875:=0
def tw18041603200987483706:=0
def tw8837672024785128839:=0
def tw13899739465491186378:=0
end PySem.W.Fast
open PySem PySem.W PyProof.Rows
set_option maxRecDepth 100000 in
set_option maxHeartbeats 0 in
theorem PySem.Challenge.cw_twoorders_k05_whole_broken_off_holds : PySem.Challenge.rw_twoorders_k05_whole_broken_off.Holds := by
 w_on;o_law;k_head;(case hw=>w_witness2)
 k_fill
 refine K1.r_v (l:=PySem.Challenge.rw_twoorders_k05_whole_broken_off) rfl rfl (λw h Y=>PySem.W.kIn_of Y) ?F
 case F=>
  intro w mg fa h KX G a
  refine' K1.p_N KX G a ?aCO ?aCS ?aInit ?iInit ?FInit ?aTake ?iTake ?FTake ?aLet ?iLet ?FLet ?aAhead ?iAhead ?FAhead ?aBetw ?iBetw ?FBetw ?aBA ?iBA ?FBA ?aRA ?iRA ?FRA ?aSplit ?iSplit ?FSplit ?aJoin ?iJoin ?FJoin ?aRows ?iRows ?FRows ?aSInit ?iSInit ?FSInit ?aSBring ?iSBring ?FSBring ?aSAlter ?iSAlter ?FSAlter ?aSCut ?iSCut ?FSCut ?aSBegin ?iSBegin ?FSBegin ?aSKeep ?iSKeep ?FSKeep ?aSBreak ?iSBreak ?FSBreak ?aSRowOf ?iSRowOf ?FSRowOf ?aSEnd ?iSEnd ?FSEnd ?aSChange ?iSChange ?FSChange ?aSExch ?iSExch ?FSExch ?aCW ?FCW ?aLead ?FLead ?aKey ?FKey ?aqOrderOf ?FqOrderOf ?aqWithin ?FqWithin ?aqText ?FqText ?aqRankKey ?FqRankKey ?aqFrom ?FqFrom ?aqSpot ?FqSpot ?adAnswers ?FdAnswers ?adAnsIn ?FdAnsIn ?adAnsOf ?FdAnsOf ?adAll ?FdAll ?adOne ?FdOne ?adDo ?FdDo ?adAsk ?FdAsk ?aWhole ?FWhole ?aAt ?FAt ?aSame ?FSame ?aTexts ?FTexts ?aDrawn ?FDrawn ?aFar ?FFar ?aChangeOf ?FChangeOf ?aQuestionOf ?FQuestionOf ?aBringsOf ?FBringsOf ?aDeedsOf ?FDeedsOf ?aNewStore ?FNewStore ?aRowsBy ?FRowsBy ?aChanged ?FChanged ?aAllChanged ?FAllChanged ?aLies ?FLies ?aToldByAll ?FToldByAll ?aAnswered ?FAnswered ?aStep ?FStep ?aRaised ?FRaised ?aRanked ?FRanked ?aSigned ?FSigned ?aMoved ?FMoved ?aDeedMoved ?FDeedMoved ?aRoomOf ?FRoomOf ?aCopied ?FCopied ?adBothO ?FdBothO ?aIsRow ?FIsRow ?aAreRows ?FAreRows ?aWithinBegun ?FWithinBegun ?aQuestions ?FQuestions ?aLaw ?FLaw ?pgCO ?hdCO ?poCO ?saCO ?mkCO ?kcCO ?pgCS ?hdCS ?poCS ?saCS ?mkCS ?kcCS ?nCO_word ?nCO_blocks ?nCO_bring ?nCS_room ?nCS_by_number ?nCS_by_rank ?nCS_by_text ?nCS_steps ?nCS_marks ?q1 ?q2 ?q3 ?q4 ?q5 ?qQ ?lQ ?aCT ?xCT ?aCF ?xCF ?aCM ?xCM ?aCN ?xCN ?aCNo ?xCNo ?ett ?emt ?emm ?eft ?efm ?eff ?ent ?enm ?enf ?enn ?eot ?eom ?eof ?eon ?eoo ?zlen ?zmin ?zsum ?zisinstance ?zint ?zbool ?zlist ?ztuple ?zstr ?zsorted ?zrange ?zmax ?nb
  (case aCO=>k_is);(case aCS=>k_is);(case aInit=>k_is);(case iInit=>k_is);(case FInit=>refine' L2.a_B ?l ?c ?k;(case l=>k_is);(case c=>k_is);(case k=>k_is));(case aTake=>k_is)
  (case iTake=>k_is);(case FTake=>refine' L2.a_B ?l ?c ?k;(case l=>k_is);(case c=>k_is);(case k=>k_is));(case aLet=>k_is);(case iLet=>k_is);(case FLet=>refine' L2.a_B ?l ?c ?k;(case l=>k_is);(case c=>k_is);(case k=>k_is));(case aAhead=>k_is)
  (case iAhead=>k_is);(case FAhead=>refine' L2.a_B ?l ?c ?k;(case l=>k_is);(case c=>k_is);(case k=>k_is));(case aBetw=>k_is);(case iBetw=>k_is);(case FBetw=>refine' L2.a_B ?l ?c ?k;(case l=>k_is);(case c=>k_is);(case k=>k_is));(case aBA=>k_is)
  (case iBA=>k_is);(case FBA=>refine' L2.a_B ?l ?c ?k;(case l=>k_is);(case c=>k_is);(case k=>k_is));(case aRA=>k_is);(case iRA=>k_is);(case FRA=>refine' L2.a_B ?l ?c ?k;(case l=>k_is);(case c=>k_is);(case k=>k_is));(case aSplit=>k_is)
  (case iSplit=>k_is);(case FSplit=>refine' L2.a_B ?l ?c ?k;(case l=>k_is);(case c=>k_is);(case k=>k_is));(case aJoin=>k_is);(case iJoin=>k_is);(case FJoin=>refine' L2.a_B ?l ?c ?k;(case l=>k_is);(case c=>k_is);(case k=>k_is));(case aRows=>k_is)
  (case iRows=>k_is);(case FRows=>refine' L2.a_B ?l ?c ?k;(case l=>k_is);(case c=>k_is);(case k=>k_is));(case aSInit=>k_is);(case iSInit=>k_is);(case FSInit=>refine' L2.a_B ?l ?c ?k;(case l=>k_is);(case c=>k_is);(case k=>k_is));(case aSBring=>k_is)
  (case iSBring=>k_is);(case FSBring=>refine' L2.a_B ?l ?c ?k;(case l=>k_is);(case c=>k_is);(case k=>k_is));(case aSAlter=>k_is);(case iSAlter=>k_is);(case FSAlter=>refine' L2.a_B ?l ?c ?k;(case l=>k_is);(case c=>k_is);(case k=>k_is));(case aSCut=>k_is)
  (case iSCut=>k_is);(case FSCut=>refine' L2.a_B ?l ?c ?k;(case l=>k_is);(case c=>k_is);(case k=>k_is));(case aSBegin=>k_is);(case iSBegin=>k_is);(case FSBegin=>refine' L2.a_B ?l ?c ?k;(case l=>k_is);(case c=>k_is);(case k=>k_is));(case aSKeep=>k_is)
  (case iSKeep=>k_is);(case FSKeep=>refine' L2.a_B ?l ?c ?k;(case l=>k_is);(case c=>k_is);(case k=>k_is));(case aSBreak=>k_is);(case iSBreak=>k_is);(case FSBreak=>refine' L2.a_B ?l ?c ?k;(case l=>k_is);(case c=>k_is);(case k=>k_is));(case aSRowOf=>k_is)
  (case iSRowOf=>k_is);(case FSRowOf=>refine' L2.a_B ?l ?c ?k;(case l=>k_is);(case c=>k_is);(case k=>k_is));(case aSEnd=>k_is);(case iSEnd=>k_is);(case FSEnd=>refine' L2.a_B ?l ?c ?k;(case l=>k_is);(case c=>k_is);(case k=>k_is));(case aSChange=>k_is)
  (case iSChange=>k_is);(case FSChange=>refine' L2.a_B ?l ?c ?k;(case l=>k_is);(case c=>k_is);(case k=>k_is));(case aSExch=>k_is);(case iSExch=>k_is);(case FSExch=>refine' L2.a_B ?l ?c ?k;(case l=>k_is);(case c=>k_is);(case k=>k_is));(case aCW=>k_is)
  (case FCW=>refine' L2.a_B ?l ?c ?k;(case l=>k_is);(case c=>k_is);(case k=>k_is));(case aLead=>k_is);(case FLead=>refine' L2.a_B ?l ?c ?k;(case l=>k_is);(case c=>k_is);(case k=>k_is));(case aKey=>k_is);(case FKey=>refine' L2.a_B ?l ?c ?k;(case l=>k_is);(case c=>k_is);(case k=>k_is));(case aqOrderOf=>k_is)
  (case FqOrderOf=>refine' L2.a_B ?l ?c ?k;(case l=>k_is);(case c=>k_is);(case k=>k_is));(case aqWithin=>k_is);(case FqWithin=>refine' L2.a_B ?l ?c ?k;(case l=>k_is);(case c=>k_is);(case k=>k_is));(case aqText=>k_is);(case FqText=>refine' L2.a_B ?l ?c ?k;(case l=>k_is);(case c=>k_is);(case k=>k_is));(case aqRankKey=>k_is)
  (case FqRankKey=>refine' L2.a_B ?l ?c ?k;(case l=>k_is);(case c=>k_is);(case k=>k_is));(case aqFrom=>k_is);(case FqFrom=>refine' L2.a_B ?l ?c ?k;(case l=>k_is);(case c=>k_is);(case k=>k_is));(case aqSpot=>k_is);(case FqSpot=>refine' L2.a_B ?l ?c ?k;(case l=>k_is);(case c=>k_is);(case k=>k_is));(case adAnswers=>k_is)
  (case FdAnswers=>refine' L2.a_B ?l ?c ?k;(case l=>k_is);(case c=>k_is);(case k=>k_is));(case adAnsIn=>k_is);(case FdAnsIn=>refine' L2.a_B ?l ?c ?k;(case l=>k_is);(case c=>k_is);(case k=>k_is));(case adAnsOf=>k_is);(case FdAnsOf=>refine' L2.a_B ?l ?c ?k;(case l=>k_is);(case c=>k_is);(case k=>k_is));(case adAll=>k_is)
  (case FdAll=>refine' L2.a_B ?l ?c ?k;(case l=>k_is);(case c=>k_is);(case k=>k_is));(case adOne=>k_is);(case FdOne=>refine' L2.a_B ?l ?c ?k;(case l=>k_is);(case c=>k_is);(case k=>k_is));(case adDo=>k_is);(case FdDo=>refine' L2.a_B ?l ?c ?k;(case l=>k_is);(case c=>k_is);(case k=>k_is));(case adAsk=>k_is)
  (case FdAsk=>refine' L2.a_B ?l ?c ?k;(case l=>k_is);(case c=>k_is);(case k=>k_is));(case aWhole=>k_is);(case FWhole=>refine' L2.a_B ?l ?c ?k;(case l=>k_is);(case c=>k_is);(case k=>k_is));(case aAt=>k_is);(case FAt=>refine' L2.a_B ?l ?c ?k;(case l=>k_is);(case c=>k_is);(case k=>k_is));(case aSame=>k_is)
  (case FSame=>refine' L2.a_B ?l ?c ?k;(case l=>k_is);(case c=>k_is);(case k=>k_is));(case aTexts=>k_is);(case FTexts=>refine' L2.a_B ?l ?c ?k;(case l=>k_is);(case c=>k_is);(case k=>k_is));(case aDrawn=>k_is);(case FDrawn=>refine' L2.a_B ?l ?c ?k;(case l=>k_is);(case c=>k_is);(case k=>k_is));(case aFar=>k_is)
  (case FFar=>refine' L2.a_B ?l ?c ?k;(case l=>k_is);(case c=>k_is);(case k=>k_is));(case aChangeOf=>k_is);(case FChangeOf=>refine' L2.a_B ?l ?c ?k;(case l=>k_is);(case c=>k_is);(case k=>k_is));(case aQuestionOf=>k_is);(case FQuestionOf=>refine' L2.a_B ?l ?c ?k;(case l=>k_is);(case c=>k_is);(case k=>k_is));(case aBringsOf=>k_is)
  (case FBringsOf=>refine' L2.a_B ?l ?c ?k;(case l=>k_is);(case c=>k_is);(case k=>k_is));(case aDeedsOf=>k_is);(case FDeedsOf=>refine' L2.a_B ?l ?c ?k;(case l=>k_is);(case c=>k_is);(case k=>k_is));(case aNewStore=>k_is);(case FNewStore=>refine' L2.a_B ?l ?c ?k;(case l=>k_is);(case c=>k_is);(case k=>k_is));(case aRowsBy=>k_is)
  (case FRowsBy=>refine' L2.a_B ?l ?c ?k;(case l=>k_is);(case c=>k_is);(case k=>k_is));(case aChanged=>k_is);(case FChanged=>refine' L2.a_B ?l ?c ?k;(case l=>k_is);(case c=>k_is);(case k=>k_is));(case aAllChanged=>k_is);(case FAllChanged=>refine' L2.a_B ?l ?c ?k;(case l=>k_is);(case c=>k_is);(case k=>k_is));(case aLies=>k_is)
  (case FLies=>refine' L2.a_B ?l ?c ?k;(case l=>k_is);(case c=>k_is);(case k=>k_is));(case aToldByAll=>k_is);(case FToldByAll=>refine' L2.a_B ?l ?c ?k;(case l=>k_is);(case c=>k_is);(case k=>k_is));(case aAnswered=>k_is);(case FAnswered=>refine' L2.a_B ?l ?c ?k;(case l=>k_is);(case c=>k_is);(case k=>k_is));(case aStep=>k_is)
  (case FStep=>refine' L2.a_B ?l ?c ?k;(case l=>k_is);(case c=>k_is);(case k=>k_is));(case aRaised=>k_is);(case FRaised=>refine' L2.a_B ?l ?c ?k;(case l=>k_is);(case c=>k_is);(case k=>k_is));(case aRanked=>k_is);(case FRanked=>refine' L2.a_B ?l ?c ?k;(case l=>k_is);(case c=>k_is);(case k=>k_is));(case aSigned=>k_is)
  (case FSigned=>refine' L2.a_B ?l ?c ?k;(case l=>k_is);(case c=>k_is);(case k=>k_is));(case aMoved=>k_is);(case FMoved=>refine' L2.a_B ?l ?c ?k;(case l=>k_is);(case c=>k_is);(case k=>k_is));(case aDeedMoved=>k_is);(case FDeedMoved=>refine' L2.a_B ?l ?c ?k;(case l=>k_is);(case c=>k_is);(case k=>k_is));(case aRoomOf=>k_is)
  (case FRoomOf=>refine' L2.a_B ?l ?c ?k;(case l=>k_is);(case c=>k_is);(case k=>k_is));(case aCopied=>k_is);(case FCopied=>refine' L2.a_B ?l ?c ?k;(case l=>k_is);(case c=>k_is);(case k=>k_is));(case adBothO=>k_is);(case FdBothO=>refine' L2.a_B ?l ?c ?k;(case l=>k_is);(case c=>k_is);(case k=>k_is));(case aIsRow=>k_is)
  (case FIsRow=>refine' L2.a_B ?l ?c ?k;(case l=>k_is);(case c=>k_is);(case k=>k_is));(case aAreRows=>k_is);(case FAreRows=>refine' L2.a_B ?l ?c ?k;(case l=>k_is);(case c=>k_is);(case k=>k_is));(case aWithinBegun=>k_is);(case FWithinBegun=>refine' L2.a_B ?l ?c ?k;(case l=>k_is);(case c=>k_is);(case k=>k_is));(case aQuestions=>k_is)
  (case FQuestions=>refine' L2.a_B ?l ?c ?k;(case l=>k_is);(case c=>k_is);(case k=>k_is));(case aLaw=>k_is);(case FLaw=>refine' L2.a_B ?l ?c ?k;(case l=>k_is);(case c=>k_is);(case k=>k_is));(case pgCO=>k_is);(case hdCO=>k_is);(case poCO=>k_is)
  (case saCO=>k_is);(case mkCO=>k_is);(case kcCO=>k_is);(case pgCS=>k_is);(case hdCS=>k_is);(case poCS=>k_is)
  (case saCS=>k_is);(case mkCS=>k_is);(case kcCS=>k_is);(case nCO_word=>k_is);(case nCO_blocks=>k_is);(case nCO_bring=>k_is)
  (case nCS_room=>k_is);(case nCS_by_number=>k_is);(case nCS_by_rank=>k_is);(case nCS_by_text=>k_is);(case nCS_steps=>k_is);(case nCS_marks=>k_is)
  (case q1=>k_is);(case q2=>k_is);(case q3=>k_is);(case q4=>k_is);(case q5=>k_is);(case qQ=>k_is)
  (case lQ=>k_is);(case aCT=>k_is);(case xCT=>k_exc);(case aCF=>k_is);(case xCF=>k_exc);(case aCM=>k_is)
  (case xCM=>k_exc);(case aCN=>k_is);(case xCN=>k_exc);(case aCNo=>k_is);(case xCNo=>k_exc);(case ett=>kts_exm)
  (case emt=>kts_exm);(case emm=>kts_exm);(case eft=>kts_exm);(case efm=>kts_exm);(case eff=>kts_exm);(case ent=>kts_exm)
  (case enm=>kts_exm);(case enf=>kts_exm);(case enn=>kts_exm);(case eot=>kts_exm);(case eom=>kts_exm);(case eof=>kts_exm)
  (case eon=>kts_exm);(case eoo=>kts_exm);(case zlen=>k_is);(case zmin=>k_is);(case zsum=>k_is);(case zisinstance=>k_is)
  (case zint=>k_is);(case zbool=>k_is);(case zlist=>k_is);(case ztuple=>k_is);(case zstr=>k_is);(case zsorted=>k_is)
  (case zrange=>k_is);(case zmax=>k_is);(case nb=>k_is)
#print axioms PySem.Challenge.cw_twoorders_k05_whole_broken_off_holds
