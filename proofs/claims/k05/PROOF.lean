import PyProof.Rows.All
import Wide.All
import OpenK.AllK
import Wide.FinOn
import Lean
import PyProof.EqAt
import PyProof.EqKinds
import PyProof.TupleCall
import PyProof.ReprStr
import KE.KTryMore
import KE.RegKTryMore
import PySem.Challenge.RW_twoorders_k05_whole_broken_off
set_option linter.all false
set_option maxRecDepth 100000
set_option maxHeartbeats 4000000
set_option Elab.async false
def r_X:=@List.length_map
def r_Y:=@List.getElem?_eq_getElem
def r_Z:=@List.length_append
def r_0:=@List.mem_cons_of_mem
def r_1:=@List.mem_cons_self
def r_2:=@List.mem_singleton
def r_3:=@List.length_cons
def r_4:=@Option.some.inj
def r_5:=@List.map_append
def r_6:=@Nat.le_refl
def r_7:=@List.size_toArray
def r_8:=@List.mem_cons
def r_9:=@List.getElem?_map
def s_a:=@List.mem_append_right
def s_b:=@List.getElem?_eq_some_iff
def s_c:=@List.map_cons
def s_d:=@Nat.lt_of_lt_of_le
def s_e:=@Bool.false_ne_true
def s_f:=@List.mem_append
def s_g:=@List.getD_eq_getElem?_getD
def s_h:=@List.take_of_length_le
def s_i:=@Nat.le_trans
def s_j:=@List.length_take
def s_k:=@List.flatten_append
def s_l:=@Nat.ne_of_lt
def s_m:=@List.filter_cons
def s_n:=@List.mem_of_getElem?
def s_o:=@List.take_add_one
def s_p:=@Nat.zero_le
def s_q:=@List.flatten_cons
def s_r:=@List.nodup_cons
def s_s:=@List.mem_map
def s_t:=@List.length_eq_zero_iff
def s_u:=@List.append_nil
def s_v:=@List.length_singleton
def s_w:=@List.mem_append_left
def s_x:=@List.length_nil
def s_y:=@List.length_filter_le
def s_z:=@List.length_reverse
def s_A:=@List.take_append_drop
def s_B:=@List.pairwise_cons
def s_C:=@Nat.lt_of_le_of_lt
def s_D:=@decide_eq_true
def s_E:=@decide_eq_false
def s_F:=@of_decide_eq_true
def s_G:=@PySem.boot_len
def s_H:=@PySem.F.plainAttrs_list
def s_I:=@PySem.F.type_list_append
def s_J:=@PySem.F.slot_list_append
namespace L2
open PySem PySem.Spec PyProof.Rows
abbrev Key:=Sum Int Str
def i_l:Key->Value->Bool
 | .inl k,v=>Value.isInt k v
 | .inr x,v=>Value.isStrOf x v
def r_N (w:World):Key->Int
 | .inl k=>hashInt k
 | .inr x=>hashStr w x
theorem a_8:∀{k:Key} {v:Value},i_l k v=true->(∃i t,k=Sum.inl i/\v=Value.int i t)\/(∃x t,k=Sum.inr x/\v=Value.str x t)
 | .inl i,v,h=>by
   obtain⟨t,e⟩:=Value.isInt_shape (k:=i) (v:=v) h;exact .inl ⟨i,t,rfl,e⟩
 | .inr x,v,h=>by
   obtain⟨t,e⟩:=Value.isStrOf_shape (x:=x) (v:=v) h;exact .inr ⟨x,t,rfl,e⟩
theorem j_O (i:Int) (t:Tok):i_l (.inl i) (.int i t)=true:=by simp[i_l,Value.isInt]
theorem j_D (x:Str) (t:Tok):i_l (.inr x) (.str x t)=true:=by simp[i_l,Value.isStrOf]
theorem o_D (a b:Int):decide ((Sum.inl a:Key)=Sum.inl b)=(a == b):=by
 by_cases e:a=b
 ·subst e;simp
 ·have h:¬ (Sum.inl a:Key)=Sum.inl b:=λq=>e (Sum.inl.inj q)
  rw[s_E h];exact (beq_eq_false_iff_ne.mpr e).symm
theorem p_I (a b:Str):decide ((Sum.inr a:Key)=Sum.inr b)=decide (a=b):=by
 by_cases e:a=b
 ·subst e;simp
 ·have h:¬ (Sum.inr a:Key)=Sum.inr b:=λq=>e (Sum.inr.inj q)
  rw[s_E h,s_E e]
theorem o_1 (a:Int) (b:Str):decide ((Sum.inl a:Key)=Sum.inr b)=false:=s_E (λq=>nomatch q)
theorem p_x (a:Str) (b:Int):decide ((Sum.inr a:Key)=Sum.inl b)=false:=s_E (λq=>nomatch q)
def a_Y (prog:Program) (w:World):PySem.KeyKind prog w Key where
 is:=i_l
 hash:=r_N w
 inj:=λv a b g f=>by
  rcases a_8 g with⟨i,t,rfl,rfl⟩ | ⟨x,t,rfl,rfl⟩
  ·rcases a_8 f with⟨j,u,rfl,e⟩ | ⟨y,u,rfl,e⟩
   ·injection e with c _;rw[c]
   ·exact nomatch e
  ·rcases a_8 f with⟨j,u,rfl,e⟩ | ⟨y,u,rfl,e⟩
   ·exact nomatch e
   ·injection e with c _;rw[c]
 byValue:=λk v h=>by
  rcases a_8 h with⟨i,t,rfl,rfl⟩ | ⟨x,t,rfl,rfl⟩ <;> rfl
 pyHash:=λd h=>by
  rcases a_8 d with⟨i,t,rfl,rfl⟩ | ⟨x,t,rfl,rfl⟩
  ·exact wpAny_pyHash_int h
  ·exact wpAny_pyHash_str h
 eqBool:=λl d h=>by
  rcases a_8 l with⟨i,t,rfl,rfl⟩ | ⟨x,t,rfl,rfl⟩
  ·rcases a_8 d with⟨j,u,rfl,rfl⟩ | ⟨y,u,rfl,rfl⟩
   ·rw[o_D] at h;exact wpAny_eqBool_int h
   ·rw[o_1] at h;exact SeqAt.EqAt.int_str i t y u _ _ _ _ h
  ·rcases a_8 d with⟨j,u,rfl,rfl⟩ | ⟨y,u,rfl,rfl⟩
   ·rw[p_x] at h;exact SeqAt.EqAt.str_int x t j u _ _ _ _ h
   ·rw[p_I] at h;exact wpAny_eqBool_str h
 «strs»:=λk x t v h=>by
  rcases a_8 h with⟨i,u,rfl,e⟩ | ⟨y,u,rfl,e⟩
  ·exact nomatch e
  ·injection e with c _
   subst c
   cases v <;> rfl
theorem h_c (prog:Program) (w:World) (i:Int) (t:Tok):(a_Y prog w).is (.inl i) (.int i t)=true:=j_O i t
theorem h_E (prog:Program) (w:World) (x:Str) (t:Tok):(a_Y prog w).is (.inr x) (.str x t)=true:=j_D x t
inductive V where
 | non | bl (b:Bool) | int (i:Int) | str (x:Str) | byt (b:Array UInt8) | flt (b:UInt64) | ref (a:Addr) | ty (n:String)
 deriving DecidableEq
def RelV:V->Value->Prop
 | .non,u=>u=Value.none
 | .bl b,u=>u=Value.bool b
 | .int i,u=>∃t,u=Value.int i t
 | .str x,u=>∃t,u=Value.str x t
 | .byt b,u=>∃t,u=Value.bytes b t
 | .flt b,u=>∃t,u=Value.float b t
 | .ref a,u=>u=Value.ref a
 | .ty n,u=>u=Value.type n
abbrev Vals:List V->List Value->Prop:=Paired RelV
theorem Vals.length {xs:List V} {us:List Value} (r:Vals xs us):xs.length=us.length:=Paired.length r
theorem Vals.get:∀{xs:List V} {us:List Value} {i:Nat} {x:V},Vals xs us->xs[i]? =some x->∃u,us[i]? =some u/\RelV x u
 | _,_,_,_,.nil,e=>by simp at e
 | _,_,0,_,.cons r _,e=>by simp at e;subst e;exact⟨_,rfl,r⟩
 | _,_,i+1,x,.cons _ t,e=>by
   obtain⟨u,h1,h2⟩:=Vals.get (i:=i) (x:=x) t (by simpa using e);exact⟨u,by simpa using h1,h2⟩
theorem Vals.set {x:V} {u:Value} (r:RelV x u):∀{xs:List V} {us:List Value} (i:Nat),Vals xs us->Vals (xs.set i x) (us.set i u)
 | _,_,_,.nil=> .nil
 | _,_,0,.cons _ t=> .cons r t
 | _,_,i+1,.cons q t=> .cons q (Vals.set r i t)
theorem Vals.append:∀{xs ys:List V} {us ws:List Value},Vals xs us->Vals ys ws->Vals (xs++ys) (us++ws)
 | _,_,_,_,.nil,s=>s
 | _,_,_,_,.cons r t,s=> .cons r (Vals.append t s)
theorem Vals.take:∀{xs:List V} {us:List Value} (n:Nat),Vals xs us->Vals (xs.take n) (us.take n)
 | _,_,0,_=> .nil
 | _,_,_+1,.nil=> .nil
 | _,_,n+1,.cons r t=> .cons r (Vals.take n t)
theorem Vals.drop:∀{xs:List V} {us:List Value} (n:Nat),Vals xs us->Vals (xs.drop n) (us.drop n)
 | _,_,0,r=>r
 | _,_,_+1,.nil=> .nil
 | _,_,n+1,.cons _ t=>Vals.drop n t
def RelO:Option V->Option Value->Prop
 | some v,some u=>RelV v u
 | none,none=>True
 | _,_=>False
def KV {κ:Type}:List (κ×V)->List (κ×Value)->Prop:=Paired λ(p:κ×V) (q:κ×Value)=>p.1=q.1/\RelV p.2 q.2
def kV:Key->V
 | .inl i=> .int i
 | .inr x=> .str x
inductive HO where
 /-- a list -/
 | lst (xs:List V)
 /-- a tuple (never changes) -/
 | tup (xs:List V)
 /-- a dict whose keys are ints and texts;one whose keys are tuples of ints and texts (the empty one is both) -/
 | dK (kvs:List (Key×V)) | dT (kvs:List (List Key×V))
 /-- a set of ints:its members,its size -/
 | set (S:Int->Bool) (n:Nat)
 /-- an instance of the class at C,its dict at dx,its attributes -/
 | ins (C dx:Addr) (fs:List (Str×V))
 /-- the dict of the instance at x -/
 | own (x:Addr)
 /-- the dict of an exception -/
 | xd (fs:List (Str×V))
 /-- a bound method,f of x -/
 | met (f x:Addr)
 /-- a range object lo,lo+1,.. below hi -/
 | rng (lo hi:Int)
 /-- a thing that is known to the object (the script;a dict while a loop walks it):read,never written while it is so -/
 | frz (o:Obj) (u:HO)
 /-- a code object's table -/
 | tbl (ps:Array Value)
 /-- any other thing,by what is true of its one object (a def of one's own:SetO a S n:=HO.ext λh=> ..) -/
 | ext (φ:Heap->Prop)
abbrev Hp:=Addr->Option HO
def upd (H:Hp) (a:Addr) (o:HO):Hp:=λb=>if b=a then some o else H b
theorem a_b {H:Hp} {a:Addr} {o:HO}:upd H a o a=some o:=by unfold upd;rw[if_pos rfl]
theorem a_i {H:Hp} {a b:Addr} {o:HO} (h:b≠a):upd H a o b=H b:=by unfold upd;rw[if_neg h]
theorem f_I {H:Hp} {a b:Addr} {o u:HO} (h:H a=some o) (h':H b=some u) (d:o≠u):a≠b:=by
 intro e;subst e;rw[h] at h';exact d (r_4 h')
theorem a_h {H:Hp} {a b:Addr} {o:HO} (h:H a=some o) (h':H b=none):a≠b:=by
 intro e;subst e;rw[h] at h';cases h'
section
variable (P:Program) (w:World)
def ObjOk (H:Hp) (h:Heap) (a:Addr):HO->Prop
 | .lst xs=>xs.length<=sizeLine/\∃(its:List Value) (n:Nat),Vals xs its/\h.get? a=some { cls:= .type "list",data:= .seq its.toArray n }
 | .tup xs=>xs.length<=sizeLine/\∃its:List Value,Vals xs its/\IsTup h a its.toArray
 | .dK kvs=>kvs.length<=sizeLine/\(a == sysModules)=false/\∃vs,KV kvs vs/\h.DictOf (a_Y P w) a vs
 | .dT kvs=>kvs.length≤sizeLine∧(a == sysModules)=false∧∃xs:List (List Key×Addr×Value),
    Paired (λ(p:List Key×V) (q:List Key×Addr×Value)=>p.1=q.1/\H q.2.1=some (.tup (p.1.map kV))/\RelV p.2 q.2.2) kvs xs/\
    ∃o es ep,h.get? a=some o/\o.ExactDict/\o.data= .dict es ep/\es.toList=xs.map (entryOfKey (tupleKind (a_Y P w)))/\(xs.map (·.1)).Nodup
 | .set S n=>h.SetOf (intKind P w) a S n
 | .ins C dx fs=>H dx=some (.own a)∧fs.length≤1000∧dx≠a∧h.get? a=some (PySem.W.instObj C dx)∧
    ∃mA,h.Ns1 dx mA/\(∀f,RelO (fs.lookup f) (mA f))/\PySem.Within mA (fs.map (·.1))
 | .own _=>∃o,h.get? a=some o
 | .xd fs=>∃mA,h.Ns1 a mA/\∀f,RelO (fs.lookup f) (mA f)
 | .rng lo hi=>∃t u v,h.get? a=some { cls:= .type "range",data:= .fields #[.int lo t,.int hi u,.int 1 v] }
 | .frz o u=>h.get? a=some o/\ObjOk H h a u
 | .tbl ps=>h.get? a=some { cls:= .none,data:= .fields ps }
 | .met f x=>h.get? a=some (PySem.W.methodObj (.ref f) (.ref x))
 | .ext φ=>φ h/\(∃o,h.get? a=some o)/\∀h1 h2:Heap,φ h1->(∀o,h1.get? a=some o->h2.get? a=some o)->φ h2
def HOk (H:Hp) (h:Heap):Prop:=∀a o,H a=some o->ObjOk P w H h a o
end
section
variable {P:Program} {w:World} {H H':Hp} {h h':Heap} {a:Addr} {o:HO}
theorem ObjOk.lt (x:ObjOk P w H h a o):a < h.objs.size:=by
 cases o with
 | lst xs=>obtain⟨_,_,_,_,e⟩:=x;exact Heap.lt_size e
 | tup xs=>obtain⟨_,_,_,p⟩:=x;exact p.lt
 | dK kvs=>obtain⟨_,_,_,_,o,_,_,e,_⟩:=x;exact Heap.lt_size e
 | dT kvs=>obtain⟨_,_,_,_,o,_,_,e,_⟩:=x;exact Heap.lt_size e
 | set S n=>obtain⟨o,_,_,_,e,_⟩:=x;exact Heap.lt_size e
 | ins C dx fs=>obtain⟨_,_,_,e,_⟩:=x;exact Heap.lt_size e
 | own y=>obtain⟨_,e⟩:=x;exact Heap.lt_size e
 | xd fs=>obtain⟨_,⟨_,_,_,e,_⟩,_⟩:=x;exact Heap.lt_size e
 | rng lo hi=>obtain⟨_,_,_,e⟩:=x;exact Heap.lt_size e
 | frz ob u=>obtain⟨e,_⟩:=x;exact Heap.lt_size e
 | tbl ps=>exact Heap.lt_size (show h.get? a=some _ from x)
 | met f y=>exact Heap.lt_size (show h.get? a=some _ from x)
 | ext φ=>obtain⟨_,⟨_,e⟩,_⟩:=x;exact Heap.lt_size e
theorem Paired.mapP {α β:Type} {F G:α->β->Prop}:∀{l₁:List α} {l₂:List β},Paired F l₁ l₂->(∀a b,F a b->G a b)->Paired G l₁ l₂
 | _,_,.nil,_=> .nil
 | _,_,.cons r t,f=> .cons (f _ _ r) (Paired.mapP t f)
theorem ObjOk.stay (x:ObjOk P w H h a o) (k:∀b u,(b=a\/H b=some (.own a))->h.get? b=some u->h'.get? b=some u)
 (ho:∀b,H b=some (.own a)->H' b=some (.own a)) (ht:∀b xs,H b=some (.tup xs)->H' b=some (.tup xs)):ObjOk P w H' h' a o:=by
 induction o with
 | lst xs=>obtain⟨z,its,n,r,e⟩:=x;exact⟨z,its,n,r,k _ _ (.inl rfl) e⟩
 | tup xs=>obtain⟨z,its,r,ob,e,c⟩:=x;exact⟨z,its,r,ob,k _ _ (.inl rfl) e,c⟩
 | dK kvs=>obtain⟨z,y,vs,r,ob,es,ep,e,c⟩:=x;exact⟨z,y,vs,r,ob,es,ep,k _ _ (.inl rfl) e,c⟩
 | dT kvs=>
   obtain⟨z,y,xs,r,ob,es,ep,e,c⟩:=x;exact⟨z,y,xs,Paired.mapP r λp q z=>⟨z.1,ht _ _ z.2.1,z.2.2⟩,ob,es,ep,k _ _ (.inl rfl) e,c⟩
 | set S n=>obtain⟨ob,es,ep,t,e,c⟩:=x;exact⟨ob,es,ep,t,k _ _ (.inl rfl) e,c⟩
 | ins C dx fs=>
   obtain⟨d,z,ne,e,mA,⟨od,es,ep,g,c⟩,r⟩:=x;exact⟨ho _ d,z,ne,k _ _ (.inl rfl) e,mA,⟨od,es,ep,k _ _ (.inr d) g,c⟩,r⟩
 | own y=>obtain⟨ob,e⟩:=x;exact⟨ob,k _ _ (.inl rfl) e⟩
 | xd fs=>obtain⟨mA,⟨od,es,ep,e,c⟩,r⟩:=x;exact⟨mA,⟨od,es,ep,k _ _ (.inl rfl) e,c⟩,r⟩
 | rng lo hi=>obtain⟨t,u,v,e⟩:=x;exact⟨t,u,v,k _ _ (.inl rfl) e⟩
 | frz ob u ih=>obtain⟨e,q⟩:=x;exact⟨k _ _ (.inl rfl) e,ih q⟩
 | tbl ps=>
   have e:h.get? a=some { cls:= .none,data:= .fields ps }:=x;show h'.get? a=some { cls:= .none,data:= .fields ps };exact k a _ (.inl rfl) e
 | met f y=>
   have e:h.get? a=some (PySem.W.methodObj (.ref f) (.ref y)):=x;show h'.get? a=some (PySem.W.methodObj (.ref f) (.ref y));exact k a _ (.inl rfl) e
 | ext φ=>obtain⟨p,⟨o,e⟩,st⟩:=x;exact⟨st _ _ p λo q=>k _ _ (.inl rfl) q,⟨o,k _ _ (.inl rfl) e⟩,st⟩
theorem HOk.lt (x:HOk P w H h) (e:H a=some o):a < h.objs.size:=(x a o e).lt
theorem HOk.fresh (x:HOk P w H h) (e:h.objs.size<=a):H a=none:=by
 cases q:H a with
 | none=>rfl
 | some u=>exact absurd (s_d (x.lt q) e) (Nat.lt_irrefl _)
theorem HOk.kept (x:HOk P w H h) (k:∀b u,h.get? b=some u->h'.get? b=some u):HOk P w H h':=λa o e=>
 (x a o e).stay (λb u _ q=>k b u q) (λ_ q=>q) λ_ _ q=>q
theorem HOk.laid (x:HOk P w H h) (k:∀b u,h.get? b=some u->h'.get? b=some u) (hp:h.objs.size<=a) (new:ObjOk P w (upd H a o) h' a o):HOk P w (upd H a o) h':=λb u e=>by
 have d:=x.fresh hp;by_cases f:b=a
 ·subst f;rw[a_b] at e;cases e;exact new
 ·rw[a_i f] at e
  exact (x b u e).stay (λc v _ q=>k c v q) (λc q=>by rw[a_i (a_h q d)];exact q) λc xs q=>by rw[a_i (a_h q d)];exact q
end
def Rd (H:Hp) (a:Addr) (u:HO):Prop:=H a=some u\/∃o,H a=some (.frz o u)
theorem Rd.ok {P:Program} {w:World} {H:Hp} {h:Heap} {a:Addr} {u:HO} (r:Rd H a u) (x:HOk P w H h):ObjOk P w H h a u:=by
 rcases r with r | ⟨o,r⟩
 ·exact x a u r
 ·obtain⟨_,q⟩:=x a _ r
  exact q
def Mut:Option HO->Prop
 | some (.lst _)=>True
 | some (.dK _)=>True
 | some (.dT _)=>True
 | some (.set _ _)=>True
 | some (.ins _ _ _)=>True
 | some (.ext _)=>True
 | _=>False
section
variable {P:Program} {w:World} {H:Hp} {h h':Heap} {x e:Addr} {o':HO}
theorem HOk.write (ok:HOk P w H h) (mu:Mut (H x)) (he:e=x\/H e=some (.own x)) (k:∀b u,b≠e->h.get? b=some u->h'.get? b=some u) (heo:∃u,h'.get? e=some u)
 (new:ObjOk P w (upd H x o') h' x o'):HOk P w (upd H x o') h':=λb u q=>by
 have nown:∀c y,H c=some (.own y)->c≠x:=λc y r z=>by subst z;rw[r] at mu;exact mu
 have ntup:∀c xs,H c=some (.tup xs)->c≠x:=λc xs r z=>by subst z;rw[r] at mu;exact mu
 by_cases d:b=x
 ·subst d;rw[a_b] at q;cases q;exact new
 ·rw[a_i d] at q
  by_cases a:b=e
  ·have q':H b=some (.own x):=by
    rcases he with z | z
    ·exact absurd (a.trans z) d
    ·rw[a];exact z
   rw[q] at q';cases q';obtain⟨v,g⟩:=heo;exact⟨v,by rw[a];exact g⟩
  ·refine (ok b u q).stay (λc v f r=>k c v ?_ r) (λc r=>by rw[a_i (nown c b r)];exact r) λc xs r=>by rw[a_i (ntup c xs r)];exact r
   rcases f with rfl | f
   ·exact a
   ·rintro rfl
    rcases he with z | z
    ·exact nown c b f z
    ·rw[f] at z;cases z;exact d rfl
end
structure Un (fs ex:List Addr) (H H':Hp) (h h':Heap):Prop where
 keep:∀b o,h.get? b=some o->H b=none->b∉fs->b∉ex->h'.get? b=some o
 slot:∀b o,h.get? b=some o->H b=none->b∈fs->b∉ex->∃sl,h'.get? b=some { o with slots:=sl }
 free:∀b o,h.get? b=some o->H b=none->b∉ex->H' b=none
 there:∀b o,h.get? b=some o->b∉ex->∃o',h'.get? b=some o'
 tups:∀b xs,H b=some (.tup xs)->H' b=some (.tup xs)
 frzs:∀b o u,H b=some (.frz o u)->H' b=some (.frz o u)
 tbls:∀b ps,H b=some (.tbl ps)->∃more,H' b=some (.tbl (ps++more))
section
variable {fs fs' ex ex':List Addr} {H H1 H2:Hp} {h h1 h2 h':Heap} {a x e:Addr} {o:HO}
theorem Un.any (u:Un fs ex H H1 h h1) {b:Addr} {ob:Obj} (q:h.get? b=some ob) (n:H b=none) (hx:b∉ex):∃sl,h1.get? b=some { ob with slots:=sl }:=by
 by_cases hb:b∈fs
 ·exact u.slot b ob q n hb hx
 ·exact⟨ob.slots,u.keep b ob q n hb hx⟩
theorem Un.kept (k:∀b u,h.get? b=some u->h'.get? b=some u):Un fs ex H H h h':=
 ⟨λb ob q _ _ _=>k b ob q,λb ob q _ _ _=>⟨ob.slots,k b ob q⟩,λ_ _ _ n _=>n,λb ob q _=>⟨ob,k b ob q⟩,λ_ _ q=>q,λ_ _ _ q=>q,λ_ ps q=>⟨#[],by rw[q];simp⟩⟩
theorem Un.refl:Un fs ex H H h h:=Un.kept λ_ _ q=>q
theorem Un.laid (k:∀b u,h.get? b=some u->h'.get? b=some u) (hp:h.objs.size<=a) (hn:H a=none):Un fs ex H (upd H a o) h h' where
 keep:=λb u q _ _ _=>k b u q
 slot:=λb u q _ _ _=>⟨u.slots,k b u q⟩
 free:=λb u q n _=>by rw[a_i (s_l (s_d (Heap.lt_size q) hp))];exact n
 there:=λb u q _=>⟨u,k b u q⟩
 tups:=λb xs q=>by rw[a_i (a_h q hn)];exact q
 frzs:=λb u xs q=>by rw[a_i (a_h q hn)];exact q
 tbls:=λb ps q=>⟨#[],by rw[a_i (a_h q hn),q];simp⟩
theorem Un.write (mu:Mut (H x)) (he:e=x\/H e=some (.own x)) (k:∀b u,b≠e->h.get? b=some u->h'.get? b=some u) (heo:∃u,h'.get? e=some u):Un fs ex H (upd H x o) h h':=by
 have f:∀b,H b=none->b≠x:=λb n z=>by subst z;rw[n] at mu;exact mu
 have d:∀b,H b=none->b≠e:=λb n z=>by
  subst z;rcases he with r | r
  ·exact f b n r
  ·rw[n] at r;cases r
 have c:∀b u,H b=some u->¬ Mut (some u)->b≠x:=λb u q nm z=>by subst z;rw[q] at mu;exact nm mu
 refine⟨λb u q n _ _=>k b u (d b n) q,λb u q n _ _=>⟨u.slots,k b u (d b n) q⟩,λb u q n _=>by rw[a_i (f b n)];exact n,λb u q _=> ?_,
  λb xs q=>by rw[a_i (c b _ q λz=>z)];exact q,λb u xs q=>by rw[a_i (c b _ q λz=>z)];exact q,λb ps q=>⟨#[],by rw[a_i (c b _ q λz=>z),q];simp⟩⟩
 by_cases a:b=e
 ·subst a;exact heo
 ·exact⟨u,k b u a q⟩
end
def trk (h:Heap) (H:Hp):List Addr:=(List.range h.objs.size).filter λa=>(H a).isSome
def l_H (h:Heap) (H:Hp):Heap:=PySem.W.hideAll h (trk h H)
theorem k_O (h:Heap) (H:Hp):(l_H h H).objs.size=h.objs.size:=PySem.W.hideAll_size _ _
theorem l_X {h:Heap} {H:Hp} {b:Addr} {o:Obj} (e:h.get? b=some o) (n:H b=none):(l_H h H).get? b=some o:=
 PySem.W.hideAll_get _ e λhm=>by
  have q:(H b).isSome=true:=(List.mem_filter.mp hm).2;rw[n] at q;simp at q
theorem n_c {h:Heap} {H:Hp} {b:Addr} {o:Obj} (e:(l_H h H).get? b=some o):h.get? b=some o/\H b=none:=by
 have e':h.get? b=some o:=PySem.W.of_hideAll (trk h H) e;refine⟨e',?_⟩;cases q:H b with
 | none=>rfl
 | some x=>
   have a:b∈trk h H:=List.mem_filter.mpr ⟨List.mem_range.mpr (Heap.lt_size e'),by simp[q]⟩;have z:(l_H h H).get? b=none:=PySem.W.hideAll_none (trk h H) a;rw[z] at e;cases e
def c_U (g h:Heap) (L:Addr):List (Addr×Obj):=(List.range h.objs.size).filterMap λa=>if a=L\/(g.get? a).isSome=true then none else (h.get? a).map λo=>(a,o)
theorem d_b {g h:Heap} {L a:Addr} {o:Obj} (h1:a≠L) (h2:g.get? a=none) (h3:h.get? a=some o):(a,o)∈c_U g h L:=
 List.mem_filterMap.mpr ⟨a,List.mem_range.mpr (Heap.lt_size h3),by simp[h1,h2,h3]⟩
theorem e_S {g h:Heap} {L:Addr} {p:Addr×Obj} (hp:p∈c_U g h L):p.1≠L/\g.get? p.1=none/\h.get? p.1=some p.2:=by
 obtain⟨b,_,e⟩:=List.mem_filterMap.mp hp;split at e
 ·cases e
 ·rename_i hn
  cases q:h.get? b with
  | none=>rw[q] at e;simp at e
  | some u=>
    rw[q] at e;simp only[Option.map_some,Option.some.injEq] at e;subst e;refine⟨λz=>hn (.inl z),?_, q⟩;show g.get? b=none;cases r:g.get? b with
    | none=>rfl
    | some v=>exact (hn (.inr (by simp[r]))).elim
def e_r (g h:Heap) (L d:Addr):List (Addr×Obj):=(c_U g h L).filter λp=>decide (p.1≠d)
theorem l_Q {g h:Heap} {L:Addr}:News g L h (c_U g h L):=λp hp=>let ⟨a,b,c⟩:=e_S hp;⟨c,a,b⟩
structure Mod (K:PySem.W.Frag) (mg:Str->Option Value) (base:Heap):Prop where
 kin:K.In base
 glob:base.Ns mainGlobals mg
 blt:∃mb,base.Ns builtinsNs mb/\∀x:Str,x≠"__name__"->mb x=bootBuiltins x
 nolimit:base.NoLimit
structure Cx where
 prog:Program
 w:World
 K:PySem.W.Frag
 mg:Str->Option Value
 base:Heap
 A:Around
 N:List Str
 s₀:Shared
 H₀:Hp
 env:Env
 outer:List Env
 stack:List Env
 ex:List Addr
 fn:Str->Bool
 calm:Bool
 pn:List (Addr×Obj)
 xe:Value->Shared->Prop
def frs (l:List Env):List Addr:=l.filterMap (·.frame)
abbrev Cx.fs (X:Cx):List Addr:=frs X.outer
def Vis (sc:Scope) (x:Str):Prop:=sc.names.lookup x=some .local\/sc.names.lookup x=some .cell\/sc.names.lookup x=some .free
def Loc (sc:Scope) (x:Str):Prop:=sc.names.lookup x=some .local\/sc.names.lookup x=some .cell
def r_u (env:Env) (h:Heap) (m:Str->Option Value) (x:Str) (u:Value):Prop:=
 (env.kindOf x=some .local/\m x=some u)\/((env.kindOf x=some .cell\/env.kindOf x=some .free)/\∃c,env.cells.lookup x=some c/\h.IsCell c (some u))
structure Cx.Ok (X:Cx):Prop where
 mod:Mod X.K X.mg X.base
 kind:X.env.scope.kind= .function
 glob:X.env.globals=mainGlobals
 blt:X.env.builtins=builtinsNs
 above:X.s₀.heap.objs.size<=X.env.locals
 inj:∀x y c,X.env.cells.lookup x=some c->X.env.cells.lookup y=some c->x=y
 has:∀x,(X.env.kindOf x=some .cell\/X.env.kindOf x=some .free)->∃c,X.env.cells.lookup x=some c
 cab:∀x c,X.fn x=true->X.env.cells.lookup x=some c->X.s₀.heap.objs.size<=c
 hd:X.calm=true->X.A.handled=none
 frames:X.A.frames=some X.stack
 stk:X.stack=X.outer\/(X.stack=X.env::X.outer/\X.env.frame=some X.env.locals)
 exf:∀b∈X.ex,b≠X.env.locals/\∀x c,X.env.cells.lookup x=some c->c≠b
 bs:∀b o,X.base.get? b=some o->X.s₀.heap.get? b=some o/\X.H₀ b=none
 bsz:X.base.objs.size<=X.s₀.heap.objs.size
 noex:∀b o,X.base.get? b=some o->b∉X.ex
 exfs:∀b∈X.ex,b∉X.fs
 funs:X.s₀.heap.FunFrames X.base X.outer
 frf:∀b∈X.fs,X.H₀ b=none
structure Inv (X:Cx) (pins:List (Addr×Obj)) (σ:List (Option V)) (H:Hp) (s:Shared):Prop where
 ok:X.Ok
 os:s.os=X.s₀.os
 bare:AllBare s.gens
 base:Un X.fs X.ex X.H₀ H X.s₀.heap s.heap
 loc:∃m,s.heap.Ns X.env.locals m/\∀(i:Nat) (x:Str) (v:V),X.N[i]? =some x->σ[i]? =some (some v)->Vis X.env.scope x->∃u,RelV v u/\r_u X.env s.heap m x u
 cell:∀x c,X.env.cells.lookup x=some c->∃v,s.heap.IsCell c v
 free:H X.env.locals=none
 freeC:∀x c,X.env.cells.lookup x=some c->H c=none
 pin:∀p∈X.pn++pins,s.heap.get? p.1=some p.2/\H p.1=none/\p.1≠X.env.locals/\p.1∉X.fs/\∀v,p.2.data≠ .cell v
 hok:HOk X.prog X.w H s.heap
 len:σ.length=X.N.length
section
variable {X:Cx} {pins:List (Addr×Obj)} {σ:List (Option V)} {H H':Hp} {s:Shared} {h':Heap}
theorem Cx.Ok.nofr (ok:X.Ok) {b:Addr} {o:Obj} (e:X.base.get? b=some o):b∉X.fs:=λhb=>by
 have:=(ok.funs.mem hb).1;rw[e] at this;cases this
theorem Inv.bs (I:Inv X pins σ H s):∀b o,X.base.get? b=some o->s.heap.get? b=some o/\H b=none:=λb o e=>
 ⟨I.base.keep b o (I.ok.bs b o e).1 (I.ok.bs b o e).2 (I.ok.nofr e) (I.ok.noex b o e),I.base.free b o (I.ok.bs b o e).1 (I.ok.bs b o e).2 (I.ok.noex b o e)⟩
theorem Inv.bk (I:Inv X pins σ H s):∀b o,X.base.get? b=some o->s.heap.get? b=some o:=λb o e=>(I.bs b o e).1
theorem Inv.mod (I:Inv X pins σ H s):Mod X.K X.mg X.base:=I.ok.mod
theorem Inv.kIn (I:Inv X pins σ H s):X.K.In s.heap:=I.ok.mod.kin.keeps I.bk
theorem Inv.nolimit (I:Inv X pins σ H s):s.heap.NoLimit:=I.ok.mod.nolimit.keeps I.bk
theorem Inv.fr (I:Inv X pins σ H s):∃m,Fr X.base X.env.locals s.heap m:=
 let ⟨m,hn,_⟩:=I.loc
 ⟨m,hn,I.bk,s_i I.ok.bsz I.ok.above⟩
theorem Inv.lt (I:Inv X pins σ H s):X.env.locals < s.heap.objs.size:=let ⟨_,hn,_⟩:=I.loc;hn.lt
theorem Inv.sz (I:Inv X pins σ H s):X.s₀.heap.objs.size<=s.heap.objs.size:=s_i I.ok.above (Nat.le_of_lt I.lt)
theorem Inv.nofs (I:Inv X pins σ H s) {a:Addr} (h:s.heap.objs.size<=a):a∉X.fs:=λhb=>by
 obtain⟨_,o,ho,_⟩:=I.ok.funs.mem hb;exact absurd (s_d (Heap.lt_size ho) (s_i I.sz h)) (Nat.lt_irrefl _)
theorem Inv.cne (I:Inv X pins σ H s):∀x c,X.env.cells.lookup x=some c->c≠X.env.locals:=λx c e z=>by
 obtain⟨v,o,ho,hd⟩:=I.cell x c e;obtain⟨m,⟨o',es,ep,ho',hd',_⟩,_⟩:=I.loc;rw[z,ho'] at ho;cases ho;rw[hd'] at hd;cases hd
theorem Inv.funs (I:Inv X pins σ H s):s.heap.FunFrames X.base X.outer:=by
 have all:∀(l:List Env),(∀b∈frs l,b∈X.fs)->X.s₀.heap.FunFrames X.base l->s.heap.FunFrames X.base l:=by
  intro l;induction l with
  | nil=>intro _ _;trivial
  | cons env r ih=>
    intro f h;obtain⟨j,⟨L,o,c,i,k,g⟩,m⟩:=h;have d:L∈X.fs:=f L (by unfold frs;rw[List.filterMap_cons,c];exact r_1);obtain⟨sl,e⟩:=I.base.slot L o k (I.ok.frf L d) d λz=>I.ok.exfs L z d;exact⟨j,⟨L,_,c,i,e,g⟩,ih (λb a=>f b (by unfold frs;rw[List.filterMap_cons,c];exact r_0 _ a)) m⟩
 exact all X.outer (λ_ a=>a) I.ok.funs
theorem Inv.stack (I:Inv X pins σ H s):s.heap.FunFrames X.base X.stack:=by
 rcases I.ok.stk with e | ⟨e,hf⟩
 ·rw[e];exact I.funs
 ·rw[e]
  obtain⟨m,hn,_⟩:=I.loc;refine .cons (by rw[I.ok.kind];decide) hf hn ?_ I.funs;exact Heap.get?_none_of_le (s_i I.ok.bsz I.ok.above)
theorem Inv.stkSub (I:Inv X pins σ H s):∀b∈frs X.stack,b∈X.env.locals::X.fs:=λb hb=>by
 rcases I.ok.stk with e | ⟨e,hf⟩
 ·rw[e] at hb;exact r_0 _ hb
 ·rw[e] at hb
  unfold frs at hb;rw[List.filterMap_cons,hf] at hb;exact hb
theorem Inv.stkFree (I:Inv X pins σ H s):∀b∈frs X.stack,H b=none:=λb hb=>by
 rcases r_8.mp (I.stkSub b hb) with e | hb
 ·rw[e];exact I.free
 ·obtain⟨_,o,ho,_⟩:=I.ok.funs.mem hb
  exact I.base.free b o ho (I.ok.frf b hb) λz=>I.ok.exfs b z hb
theorem Inv.step {g':Array GenState} {t':Nat} {d':Drawn} {ch:List Addr} (I:Inv X pins σ H s)
 (hch:∀b∈ch,(b∈X.ex\/X.s₀.heap.objs.size<=b)/\b≠X.env.locals/\(∀x c,X.env.cells.lookup x=some c->c≠b)/\∀p∈X.pn++pins,p.1≠b)
 (keep:∀b o,b≠X.env.locals->b∉X.fs->b∉ch->s.heap.get? b=some o->H b=none->h'.get? b=some o)
 (slot:∀b o,b≠X.env.locals->b∈X.fs->b∉ch->s.heap.get? b=some o->H b=none->∃sl,h'.get? b=some { o with slots:=sl }) (free:∀b o,b∉ch->s.heap.get? b=some o->H b=none->H' b=none)
 (there:∀b o,b∉ch->s.heap.get? b=some o->∃o',h'.get? b=some o')
 (tups:∀b xs,H b=some (.tup xs)->H' b=some (.tup xs)) (frzs:∀b o u,H b=some (.frz o u)->H' b=some (.frz o u)) (tbls:∀b ps,H b=some (.tbl ps)->∃more,H' b=some (.tbl (ps++more)))
 (ns:∀m,s.heap.Ns X.env.locals m->h'.Ns X.env.locals m) (hok:HOk X.prog X.w H' h') (hg:AllBare g'):
 Inv X pins σ H' { s with heap:=h',gens:=g',drawn:=d',toks:=t' }:=by
 have neL:∀b o,X.s₀.heap.get? b=some o->b≠X.env.locals:=λb o e=>s_l (s_d (Heap.lt_size e) I.ok.above)
 have neC:∀b o,X.s₀.heap.get? b=some o->b∉X.ex->b∉ch:=λb o e a g=>by
  rcases (hch b g).1 with z | z
  ·exact a z
  ·exact absurd (s_d (Heap.lt_size e) z) (Nat.lt_irrefl _)
 have cellK:∀x c,X.env.cells.lookup x=some c->∀v,s.heap.IsCell c v->h'.IsCell c v:=λx c e v ⟨o,h,t⟩=>by
  have nch:c∉ch:=λz=>(hch c z).2.2.1 x c e rfl;by_cases A:c∈X.fs
  ·obtain⟨sl,q⟩:=slot c o (I.cne x c e) A nch h (I.freeC x c e)
   exact⟨_,q,t⟩
  ·exact⟨o,keep c o (I.cne x c e) A nch h (I.freeC x c e),t⟩
 refine⟨I.ok,I.os,hg,⟨λb o e n g a=> ?_, λb o e n g a=> ?_, λb o e n a=> ?_, λb o e a=> ?_, λb xs e=>tups b xs (I.base.tups b xs e),λb o xs e=>frzs b o xs (I.base.frzs b o xs e),λb ps e=> ?_⟩,?_, λx c e=> ?_, ?_, λx c e=> ?_, λp y=> ?_, hok,I.len⟩
 ·exact keep b o (neL b o e) g (neC b o e a) (I.base.keep b o e n g a) (I.base.free b o e n a)
 ·obtain⟨sl,f⟩:=I.base.slot b o e n g a
  obtain⟨sl',j⟩:=slot b _ (neL b o e) g (neC b o e a) f (I.base.free b o e n a);exact⟨sl',j⟩
 ·obtain⟨o',f⟩:=I.base.there b o e a
  exact free b o' (neC b o e a) f (I.base.free b o e n a)
 ·obtain⟨o',f⟩:=I.base.there b o e a
  exact there b o' (neC b o e a) f
 ·obtain⟨B,f⟩:=I.base.tbls b ps e
  obtain⟨F,j⟩:=tbls b _ f;exact⟨B++F,by rw[j,Array.append_assoc]⟩
 ·obtain⟨m,G,C⟩:=I.loc
  refine⟨m,ns m G,λi x v f j E=> ?_⟩;obtain⟨u,r,l⟩:=C i x v f j E;refine⟨u,r,?_⟩;rcases l with l | ⟨k,c,e,z⟩
  ·exact .inl l
  ·exact .inr ⟨k,c,e,cellK x c e _ z⟩
 ·obtain⟨v,z⟩:=I.cell x c e
  exact⟨v,cellK x c e v z⟩
 ·obtain⟨m,⟨o,_,_,h,_⟩,_⟩:=I.loc
  exact free _ o (λz=>(hch _ z).2.1 rfl) h I.free
 ·obtain⟨v,o,h,t⟩:=I.cell x c e
  exact free c o (λz=>(hch c z).2.2.1 x c e rfl) h (I.freeC x c e)
 ·obtain⟨e,n,ne,nf,d⟩:=I.pin p y
  have nch:p.1∉ch:=λz=>(hch p.1 z).2.2.2 p y rfl;exact⟨keep p.1 p.2 ne nf nch e n,free p.1 p.2 nch e n,ne,nf,d⟩
theorem Inv.un {t':Nat} (I:Inv X pins σ H s) (u:Un X.fs [] H H' s.heap h') (hok:HOk X.prog X.w H' h'):Inv X pins σ H' { s with heap:=h',toks:=t' }:=by
 obtain⟨m,⟨o,es,ep,d,r⟩,_⟩:=id I.loc;obtain⟨sl,g⟩:=u.any d I.free (by simp)
 exact I.step (g':=s.gens) (d':=s.drawn) (ch:= []) (λ_ z=>nomatch z) (λb o _ c _ e n=>u.keep b o e n c (by simp)) (λb o _ c _ e n=>u.slot b o e n c (by simp)) (λb o _ e n=>u.free b o e n (by simp)) (λb o _ e=>u.there b o e (by simp)) u.tups u.frzs u.tbls (λm' f=>by
  obtain⟨o',es',ep',a,r'⟩:=f;rw[d] at a;cases a;exact⟨_,es',ep',g,r'⟩) hok I.bare
theorem Inv.call {g':Array GenState} {t':Nat} {d':Drawn} {ch:List Addr} (I:Inv X pins σ H s) (u:Un (frs X.stack) ch H H' s.heap h') (hok:HOk X.prog X.w H' h') (hg:AllBare g')
 (hch:∀b∈ch,(b∈X.ex\/X.s₀.heap.objs.size<=b)/\b≠X.env.locals/\(∀x c,X.env.cells.lookup x=some c->c≠b)/\∀p∈X.pn++pins,p.1≠b):
 Inv X pins σ H' { s with heap:=h',gens:=g',drawn:=d',toks:=t' }:=by
 obtain⟨m,⟨o,es,ep,g,r⟩,_⟩:=id I.loc;obtain⟨sl,f⟩:=u.any g I.free λz=>(hch _ z).2.1 rfl
 exact I.step (ch:=ch) hch (λb o f h a e n=>u.keep b o e n (λz=>(r_8.mp (I.stkSub b z)).elim f h) a) (λb o _ _ a e n=>u.any e n a) (λb o a e n=>u.free b o e n a) (λb o a e=>u.there b o e a) u.tups u.frzs u.tbls (λm' i=>by
  obtain⟨o',es',ep',d,r'⟩:=i;rw[g] at d;cases d;exact⟨_,es',ep',f,r'⟩) hok hg
theorem Inv.turned {t':Nat} {it:Addr} (I:Inv X pins σ H s) (k:∀b o,b≠it->s.heap.get? b=some o->h'.get? b=some o) (hn:H it=none) (hL:it≠X.env.locals)
 (h1:it∈X.ex\/X.s₀.heap.objs.size<=it) (h2:∀x c,X.env.cells.lookup x=some c->c≠it) (h3:∀p∈X.pn++pins,p.1≠it):Inv X pins σ H { s with heap:=h',toks:=t' }:=by
 have nit:∀b u,H b=some u->b≠it:=λb u e z=>by rw[z,hn] at e;cases e
 refine I.step (g':=s.gens) (d':=s.drawn) (ch:= [it]) (λb d=> ?_) (λb o _ _ a e _=>k b o (λz=>a (by simp[z])) e) (λb o _ _ a e _=>⟨o.slots,k b o (λz=>a (by simp[z])) e⟩) (λ_ _ _ _ n=>n)
  (λb o a e=>⟨o,k b o (λz=>a (by simp[z])) e⟩) (λ_ _ e=>e) (λ_ _ _ e=>e) (λb ps e=>⟨#[],by rw[e];simp⟩) (λm f=> ?_) (λb u e=> ?_) I.bare
 ·have e:b=it:=by simpa using d
  subst e;exact⟨h1,hL,h2,h3⟩
 ·obtain⟨o,es,ep,g,r⟩:=f
  exact⟨o,es,ep,k _ o (Ne.symm hL) g,r⟩
 ·refine (I.hok b u e).stay (λc v a q=>k c v ?_ q) (λ_ q=>q) λ_ _ q=>q
  rcases a with z | z
  ·rw[z];exact nit b u e
  ·exact nit c _ z
theorem Inv.tok (I:Inv X pins σ H s) (t:Nat):Inv X pins σ H { s with toks:=t }:=I.un (h':=s.heap) (t':=t) Un.refl I.hok
theorem Inv.kept {t':Nat} (I:Inv X pins σ H s) (k:∀b u,s.heap.get? b=some u->h'.get? b=some u):Inv X pins σ H { s with heap:=h',toks:=t' }:=I.un (Un.kept k) (I.hok.kept k)
theorem Inv.laid {a:Addr} {o:HO} {t':Nat} (I:Inv X pins σ H s) (k:∀b u,s.heap.get? b=some u->h'.get? b=some u) (hp:s.heap.objs.size<=a) (new:ObjOk X.prog X.w (upd H a o) h' a o):
 Inv X pins σ (upd H a o) { s with heap:=h',toks:=t' }:=I.un (Un.laid k hp (I.hok.fresh hp)) (I.hok.laid k hp new)
theorem Inv.write {x e:Addr} {o:HO} {t':Nat} (I:Inv X pins σ H s) (mu:Mut (H x)) (he:e=x\/H e=some (.own x)) (k:∀b u,b≠e->s.heap.get? b=some u->h'.get? b=some u) (heo:∃u,h'.get? e=some u)
 (new:ObjOk X.prog X.w (upd H x o) h' x o):Inv X pins σ (upd H x o) { s with heap:=h',toks:=t' }:=I.un (Un.write mu he k heo) (I.hok.write mu he k heo new)
theorem Inv.pins_of {pins':List (Addr×Obj)} (I:Inv X pins σ H s) (h:∀p∈pins',s.heap.get? p.1=some p.2/\H p.1=none/\p.1≠X.env.locals/\p.1∉X.fs/\∀v,p.2.data≠ .cell v):Inv X pins' σ H s:=
 ⟨I.ok,I.os,I.bare,I.base,I.loc,I.cell,I.free,I.freeC,λp hp=>(s_f.mp hp).elim (λz=>I.pin p (s_w _ z)) (h p),I.hok,I.len⟩
theorem i_f {N:List Str} (hN:N.Nodup) {i j:Nat} {x:Str} (a:N[i]? =some x) (b:N[j]? =some x):i=j:=by
 obtain⟨h1,e1⟩:=s_b.mp a;obtain⟨h2,e2⟩:=s_b.mp b;exact (List.getElem_inj hN).mp (e1.trans e2.symm)
theorem j_L {M:Model} {A:Around} {E:Value->Shared->Prop} {i:Nat} {x:Str} {v:V} {u:Value} {Q:Unit->Shared->Prop} (I:Inv X pins σ H s) (hN:X.N.Nodup) (hi:X.N[i]? =some x) (hx:Loc X.env.scope x) (r:RelV v u)
 (h:∀s',Inv X pins (σ.set i (some v)) H s'->(∃a,Heap.SameBut a s.heap s'.heap/\(a=X.env.locals\/X.env.cells.lookup x=some a))->Q () s') (hf:X.fn x=true\/X.env.scope.names.lookup x=some .local:=by first | exact .inl rfl | exact .inr rfl | assumption):wpAny M A (storeName X.env x u) Q E s:=by
 obtain⟨m,T,Z⟩:=id I.loc;have U:(X.env.scope.kind == .class||(X.env.scope.kind == .module&&X.env.locals != X.env.globals))=false:=by rw[I.ok.kind];rfl
 have hiσ:i < σ.length:=by rw[I.len];exact (s_b.mp hi).1
 have cne:=I.cne
 have tracked:∀{a:Addr} {J:Heap},(∃o,s.heap.get? a=some o/\H a=none)->Heap.SameBut a s.heap J->HOk X.prog X.w H J:=λ{a J} ha f b ob e=>by
  obtain⟨_,_,G⟩:=ha;refine (I.hok b ob e).stay (λc w' l q=>(f.2 c ?_).trans q) (λ_ q=>q) λ_ _ q=>q;rintro rfl;rcases l with rfl | l
  ·rw[G] at e;cases e
  ·rw[G] at l;cases l
 rcases hx with B | B
 ·refine wpAny_storeName_local B T (λJ Y f=> ?_) U
  obtain⟨oL,_,_,a0,_⟩:=id T;refine h _ ⟨I.ok,I.os,I.bare,⟨λb o e n C hx=> ?_, λb o e n C hx=> ?_, I.base.free,λb o e hx=> ?_, I.base.tups,I.base.frzs,I.base.tbls⟩,⟨_,Y,λj y v' g t S=> ?_⟩,λy c e=> ?_, I.free,I.freeC,λp R=> ?_, tracked ⟨oL,a0,I.free⟩ f,by simpa using I.len⟩ ⟨_,f,.inl rfl⟩
  ·exact (f.2 b (s_l (s_d (Heap.lt_size e) I.ok.above))).trans (I.base.keep b o e n C hx)
  ·obtain⟨sl,g⟩:=I.base.slot b o e n C hx
   exact⟨sl,(f.2 b (s_l (s_d (Heap.lt_size e) I.ok.above))).trans g⟩
  ·obtain⟨o',g⟩:=I.base.there b o e hx
   exact⟨o',(f.2 b (s_l (s_d (Heap.lt_size e) I.ok.above))).trans g⟩
  ·by_cases F:j=i
   ·subst F
    rw[hi] at g;cases g;rw[List.getElem?_set_self hiσ] at t;cases t;exact⟨u,r,.inl ⟨B,by simp⟩⟩
   ·rw[List.getElem?_set_ne (Ne.symm F)] at t
    obtain⟨u',r',q⟩:=Z j y v' g t S;refine⟨u',r',?_⟩;rcases q with⟨k,e⟩ | ⟨k,c,e,z⟩
    ·refine .inl ⟨k,?_⟩
     have:y≠x:=λe=>F (i_f hN g (e ▸ hi));simp[this,e]
    ·exact .inr ⟨k,c,e,z.sameBut f (cne y c e)⟩
  ·obtain⟨w',z⟩:=I.cell y c e
   exact⟨w',z.sameBut f (cne y c e)⟩
  ·obtain⟨e,n,ne,nf,d⟩:=I.pin p R
   exact⟨(f.2 p.1 ne).trans e,n,ne,nf,d⟩
 ·have K:X.fn x=true:=by
   rcases hf with z | z
   ·exact z
   ·rw[z] at B;cases B
  obtain⟨c,l⟩:=I.ok.has x (.inl B);obtain⟨w',z⟩:=I.cell x c l;refine wpAny_storeName_cell I.ok.kind B l z (λJ O f=> ?_);obtain⟨oc,L,W⟩:=id z;refine h { s with heap:=J } ⟨I.ok,I.os,I.bare,⟨λb o e n C hx=> ?_, λb o e n C hx=> ?_, I.base.free,λb o e hx=> ?_, I.base.tups,I.base.frzs,I.base.tbls⟩,⟨m,T.sameBut f (Ne.symm (cne x c l)),λj y v' g t S=> ?_⟩,λy c' e=> ?_, I.free,I.freeC,λp R=> ?_, tracked ⟨oc,L,I.freeC x c l⟩ f,by simpa using I.len⟩ ⟨c,f,.inr l⟩
  ·exact (f.2 b (s_l (s_d (Heap.lt_size e) (I.ok.cab x c K l)))).trans (I.base.keep b o e n C hx)
  ·obtain⟨sl,g⟩:=I.base.slot b o e n C hx
   exact⟨sl,(f.2 b (s_l (s_d (Heap.lt_size e) (I.ok.cab x c K l)))).trans g⟩
  ·obtain⟨o',g⟩:=I.base.there b o e hx
   exact⟨o',(f.2 b (s_l (s_d (Heap.lt_size e) (I.ok.cab x c K l)))).trans g⟩
  ·by_cases F:j=i
   ·subst F
    rw[hi] at g;cases g;rw[List.getElem?_set_self hiσ] at t;cases t;exact⟨u,r,.inr ⟨.inl B,c,l,O⟩⟩
   ·rw[List.getElem?_set_ne (Ne.symm F)] at t
    obtain⟨u',r',q⟩:=Z j y v' g t S;refine⟨u',r',?_⟩;rcases q with q | ⟨k,c',e,z'⟩
    ·exact .inl q
    ·refine .inr ⟨k,c',e,z'.sameBut f ?_⟩
     rintro rfl;exact F (i_f hN g (I.ok.inj _ _ _ e l ▸ hi))
  ·by_cases P:c'=c
   ·subst P;exact⟨_,O⟩
   ·obtain⟨w2,z2⟩:=I.cell y c' e
    exact⟨w2,z2.sameBut f P⟩
  ·obtain⟨e,n,ne,nf,d⟩:=I.pin p R
   refine⟨(f.2 p.1 ?_).trans e,n,ne,nf,d⟩;intro q;rw[q,L] at e;have q':oc=p.2:=r_4 e;exact d w' (by rw[<-q'];exact W)
theorem d_0 {M:Model} {A:Around} {E:Value->Shared->Prop} {i:Nat} {x:Str} {v:V} {u:Value} {Q:Unit->Shared->Prop} (I:Inv X pins σ H s) (hN:X.N.Nodup) (hi:X.N[i]? =some x) (hx:Loc X.env.scope x) (r:RelV v u)
 (h:∀s',Inv X pins (σ.set i (some v)) H s'->Q () s') (hf:X.fn x=true\/X.env.scope.names.lookup x=some .local:=by first | exact .inl rfl | exact .inr rfl | assumption):wpAny M A (storeName X.env x u) Q E s:=
 j_L I hN hi hx r (λs' I' _=>h s' I') hf
theorem Inv.call' {s':Shared} {ch:List Addr} (I:Inv X pins σ H s) (ho:s'.os=s.os) (u:Un (frs X.stack) ch H H' s.heap s'.heap) (hok:HOk X.prog X.w H' s'.heap) (hg:AllBare s'.gens)
 (hch:∀b∈ch,(b∈X.ex\/X.s₀.heap.objs.size<=b)/\b≠X.env.locals/\(∀x c,X.env.cells.lookup x=some c->c≠b)/\∀p∈X.pn++pins,p.1≠b):Inv X pins σ H' s':=by
 obtain⟨a,g',d',t',o'⟩:=s';have e:o'=s.os:=ho;subst e;exact I.call (g':=g') (t':=t') (d':=d') u hok hg hch
end
abbrev XK:=Value->Option Addr->Hp->Prop
abbrev St:=List (Option V)
abbrev VK:=V->Hp->Prop
abbrev TE:=St->Hp->VK->Prop
abbrev TT:=St->Hp->(Bool->Hp->Prop)->Prop
abbrev TA:=St->Hp->(List V->Hp->Prop)->Prop
structure i_O where
 nx:St->Hp->Prop
 rt:VK
 bk:St->Hp->Prop:=λ_ _=>False
 ct:St->Hp->Prop:=λ_ _=>False
abbrev TS:=i_O->St->Hp->Prop
def EP (X:Cx) (pins:List (Addr×Obj)) (σ:St) (Q:VK) (u:Value) (s':Shared):Prop:=∃v H',Inv X pins σ H' s'/\RelV v u/\Q v H'
def TP (X:Cx) (pins:List (Addr×Obj)) (σ:St) (Q:Bool->Hp->Prop) (b:Bool) (s':Shared):Prop:=∃H',Inv X pins σ H' s'/\Q b H'
def AP (X:Cx) (pins:List (Addr×Obj)) (σ:St) (Q:List V->Hp->Prop) (us:List Value) (s':Shared):Prop:=∃vs H',Inv X pins σ H' s'/\Vals vs us/\Q vs H'
def SP (X:Cx) (pins:List (Addr×Obj)) (D:i_O) (f:Flow) (s':Shared):Prop:=
 match f with
 | .next=>∃σ' H',Inv X pins σ' H' s'/\D.nx σ' H'
 | .brk=>∃σ' H',Inv X pins σ' H' s'/\D.bk σ' H'
 | .cont=>∃σ' H',Inv X pins σ' H' s'/\D.ct σ' H'
 | .ret u=>∃v σ' H',Inv X pins σ' H' s'/\RelV v u/\D.rt v H'
def PE (X:Cx) (e:Expr) (t:TE):Prop:=
 ∀(pins:List (Addr×Obj)) (s:Shared) (σ:St) (H:Hp) (Q:VK),Inv X pins σ H s->t σ H Q->wpAny (model X.prog X.w) X.A (eval e X.env) (EP X pins σ Q) X.xe s
def PT (X:Cx) (e:Expr) (t:TT):Prop:=
 ∀(pins:List (Addr×Obj)) (s:Shared) (σ:St) (H:Hp) (Q:Bool->Hp->Prop),Inv X pins σ H s->t σ H Q->wpAny (model X.prog X.w) X.A (isTrue e X.env (eval e X.env)) (TP X pins σ Q) X.xe s
def PW (X:Cx) (e:Expr) (t:TT):Prop:=
 ∀(whole:Sem Value) (pins:List (Addr×Obj)) (s:Shared) (σ:St) (H:Hp) (Q:Bool->Hp->Prop),Inv X pins σ H s->t σ H Q->wpAny (model X.prog X.w) X.A (isTrue e X.env whole) (TP X pins σ Q) X.xe s
theorem PW.pt {X:Cx} {e:Expr} {t:TT} (h:PW X e t):PT X e t:=h _
def PA (X:Cx) (es:List Expr) (t:TA):Prop:=
 ∀(pos:Pos) (pins:List (Addr×Obj)) (s:Shared) (σ:St) (H:Hp) (Q:List V->Hp->Prop),Inv X pins σ H s->t σ H Q->wpAny (model X.prog X.w) X.A (spliced (backTo pos (starEach es X.env))) (AP X pins σ Q) X.xe s
def PS (X:Cx) (st:Stmt) (t:TS):Prop:=
 ∀(pins:List (Addr×Obj)) (s:Shared) (σ:St) (H:Hp) (D:i_O),Inv X pins σ H s->t D σ H->wpAny (model X.prog X.w) X.A (exec st X.env) (SP X pins D) X.xe s
def PSs (X:Cx) (st:List Stmt) (t:TS):Prop:=
 ∀(pins:List (Addr×Obj)) (s:Shared) (σ:St) (H:Hp) (D:i_O),Inv X pins σ H s->t D σ H->wpAny (model X.prog X.w) X.A (execs st X.env) (SP X pins D) X.xe s
theorem thn {α:Type} {t:Sem α} {Q Q':α->Shared->Prop} {M:Model} {A:Around} {E:Value->Shared->Prop} {s:Shared} (h:wpAny M A t Q E s) (hQ:∀a s,Q a s->Q' a s):wpAny M A t Q' E s:=wpAny_mono h hQ λ_ _ x=>x
section
variable {X:Cx}
theorem bin {a b:Expr} {ta tb:TE} (ha:PE X a ta) (hb:PE X b tb) {pins:List (Addr×Obj)} {s:Shared} {σ:St} {H:Hp} {R:V->V->Hp->Prop} (I:Inv X pins σ H s) (h:ta σ H λx H1=>tb σ H1 λy H2=>R x y H2)
 {α:Type} {Q:α->Shared->Prop} {f:Value->Value->Sem α}
 (hf:∀v u s2 x y H2,Inv X pins σ H2 s2->RelV x v->RelV y u->R x y H2->wpAny (model X.prog X.w) X.A (f v u) Q X.xe s2):
 wpAny (model X.prog X.w) X.A (eval a X.env) (λv s₁=>wpAny (model X.prog X.w) X.A (eval b X.env) (λu s₂=>wpAny (model X.prog X.w) X.A (f v u) Q X.xe s₂) X.xe s₁) X.xe s:=by
 refine thn (ha pins s σ H _ I h) λv e ⟨x,H1,g,d,k⟩=> ?_;refine thn (hb pins e σ H1 _ g k) λu s2 ⟨y,H2,j,c,i⟩=> ?_;exact hf v u s2 x y H2 j d c i
def q_9 (i:Nat):TE:=λσ H Q=>∃v,σ[i]? =some (some v)/\Q v H
def tC (v:V):TE:=λ_ H Q=>Q v H
theorem o_Y {i:Nat} {x:Str} {pos:Pos} (hN:X.N[i]? =some x) (hv:Vis X.env.scope x) (hd:(x == ("__debug__":Str))=false:=by decide) (hcd:(x == ("__classdict__":Str))=false:=by decide):PE X (.Name x pos) (q_9 i):=by
 intro pins s σ H Q I h;obtain⟨v,e,h⟩:=h;obtain⟨m,j,f⟩:=I.loc;obtain⟨u,r,l⟩:=f i x v hN e hv;have fin:EP X pins σ Q u s:=⟨v,H,I,r,h⟩;rcases l with⟨a,g⟩ | ⟨a,c,d,b⟩
 ·exact wpAny_Name (wpAny_loadName_local I.ok.kind a j g fin) hd
 ·rcases a with a | a
  ·exact wpAny_Name (wpAny_loadName_cell I.ok.kind a d b fin) hd
  ·exact wpAny_Name (wpAny_loadName_free I.ok.kind a d b fin hcd) hd
theorem a_g {i j pos}:PE X (.Constant (.int i) j pos) (tC (.int i)):=λ_ _ _ H _ I h=>wpAny_Constant_int ⟨.int i,H,I.tok _,⟨_,rfl⟩,h⟩
theorem d_o {b j pos}:PE X (.Constant (.bool b) j pos) (tC (.bl b)):=λ_ _ _ H _ I h=>Constant_bool ⟨.bl b,H,I,rfl,h⟩
theorem m_v {j pos}:PE X (.Constant .none j pos) (tC .non):=λ_ _ _ H _ I h=>Constant_none ⟨.non,H,I,rfl,h⟩
theorem a_l {x j pos}:PE X (.Constant (.str x) j pos) (tC (.str x)):=λ_ _ _ H _ I h=>Calls.Constant_str ⟨.str x,H,I.tok _,⟨_,rfl⟩,h⟩
def Gl (X:Cx) (x:Str):Prop:=X.env.kindOf x=some .globalImplicit
theorem c_Y {E:Value->Shared->Prop} {pins:List (Addr×Obj)} {s:Shared} {σ:St} {H:Hp} {x:Str} {u:Value} {pos:Pos} {Q:Value->Shared->Prop} (I:Inv X pins σ H s) (hg:Gl X x) (hm:X.mg x=some u) (h:Q u s)
 (hd:(x == ("__debug__":Str))=false:=by decide):wpAny (model X.prog X.w) X.A (eval (.Name x pos) X.env) Q E s:=
 Calls.Name_function_global I.ok.kind hg (Calls.loadGlobal_global (by rw[I.ok.glob];exact I.mod.glob.keeps I.bk) hm h) hd
theorem e_9 {E:Value->Shared->Prop} {pins:List (Addr×Obj)} {s:Shared} {σ:St} {H:Hp} {x:Str} {u:Value} {pos:Pos} {Q:Value->Shared->Prop} (I:Inv X pins σ H s) (hg:Gl X x) (hm:X.mg x=none) (hv:bootBuiltins x=some u) (h:Q u s)
 (hn:x≠"__name__":=by decide) (hd:(x == ("__debug__":Str))=false:=by decide):wpAny (model X.prog X.w) X.A (eval (.Name x pos) X.env) Q E s:=by
 obtain⟨mb,b,a⟩:=I.mod.blt;exact Calls.Name_function_global I.ok.kind hg (Calls.loadGlobal_builtin (by rw[I.ok.glob];exact I.mod.glob.keeps I.bk) hm (by rw[I.ok.blt];exact b.keeps I.bk) ((a x hn).trans hv) h) hd
theorem h_p {x:Str} {v:V} {u:Value} {pos:Pos} (hg:Gl X x) (hm:X.mg x=some u) (r:RelV v u) (hd:(x == ("__debug__":Str))=false:=by decide):PE X (.Name x pos) (tC v):=
 λ_ _ _ H _ I h=>c_Y I hg hm ⟨v,H,I,r,h⟩ hd
theorem n_o {x:Str} {v:V} {u:Value} {pos:Pos} (hg:Gl X x) (hm:X.mg x=none) (hv:bootBuiltins x=some u) (r:RelV v u) (hn:x≠"__name__":=by decide) (hd:(x == ("__debug__":Str))=false:=by decide):PE X (.Name x pos) (tC v):=
 λ_ _ _ H _ I h=>e_9 I hg hm hv ⟨v,H,I,r,h⟩ hn hd
variable {a b:Expr} {ta tb:TE} {pos:Pos}
def PC (X:Cx) (op:CmpOp) (a b:Expr) (t:TE):Prop:=
 ∀(pins:List (Addr×Obj)) (s:Shared) (σ:St) (H:Hp) (Q:VK),Inv X pins σ H s->t σ H Q->
  wpAny (model X.prog X.w) X.A (eval a X.env) (λv s₁=>wpAny (model X.prog X.w) X.A (eval b X.env) (λu s₂=>wpAny (model X.prog X.w) X.A (compareOp op v u) (EP X pins σ Q) X.xe s₂) X.xe s₁) X.xe s
theorem l_E (b:Expr) {op:CmpOp} (h:op≠ .In) (h2:op≠ .NotIn):behindInMarks op b=false:=by
 have e1:(op == CmpOp.In)=false:=by cases op <;> first | rfl | exact absurd rfl h
 have e2:(op == CmpOp.NotIn)=false:=by cases op <;> first | rfl | exact absurd rfl h2
 cases b <;> simp[behindInMarks,e1,e2]
def p_3 (ta:TE):TE:=λσ H Q=>ta σ H λx H1=>Q (.bl (!decide (x= .non))) H1
theorem RelV.none_iff {x:V} {v:Value} (r:RelV x v):(v == Value.none)=decide (x= .non):=by
 cases x with
 | non=>cases r;rfl
 | bl _=>cases r;rfl
 | int _=>obtain⟨t,rfl⟩:=r;rfl
 | str _=>obtain⟨t,rfl⟩:=r;rfl
 | byt _=>obtain⟨t,rfl⟩:=r;rfl
 | flt _=>obtain⟨t,rfl⟩:=r;rfl
 | ref _=>cases r;rfl
 | ty _=>cases r;rfl
theorem j_w {j pos'} (ha:PE X a ta):PC X .IsNot a (.Constant .none j pos') (p_3 ta):=by
 intro pins s σ H Q I h;refine thn (ha pins s σ H _ I h) λv s1 ⟨x,H1,I1,r1,q1⟩=> ?_;exact Constant_none (isnot_none_gen ⟨.bl _,H1,I1,by rw[r1.none_iff];rfl,q1⟩)
def tB (t:TE):TT:=λσ H Q=>t σ H λx H1=>∃c,x= .bl c/\Q c H1
theorem d_N {op:CmpOp} {t:TE} (h:PC X op a b t) (h1:behindInMarks op b=false:=by first | exact l_E _ (by decide) (by decide) | rfl):PT X (.Compare a [op] [b] pos) (tB t):=by
 intro pins s σ H Q I g;refine wpAny_isTrue_Compare1 (thn (h pins s σ H _ I g) λv l h1=>thn h1 λu m j=>thn j λc n ⟨x,i,k,e,f⟩=> ?_) h1;obtain⟨d,rfl,q⟩:=f;cases e;exact wpAny_truthy_bool ⟨i,k,q⟩
theorem b_s {e:Expr} {t:TE} (h:PE X e t) (he:∀whole,isTrue e X.env whole=(do let v<-whole;standAt e.pos;holding [v] (truthy v)):=by intro _;rfl):PT X e (tB t):=by
 intro pins s σ H Q I hw;refine isTrue_plain (thn (h pins s σ H _ I hw) λv s1 ⟨x,H1,I1,r1,q1⟩=> ?_) (he _);obtain⟨d,rfl,q⟩:=q1;cases r1;exact wpAny_truthy_bool ⟨H1,I1,q⟩
variable {tA tB':TT} {e_r:List Expr}
def r_M (t u:TT):TT:=λσ H Q=>t σ H λc H1=>if c=true then u σ H1 Q else Q false H1
def tOr (t u:TT):TT:=λσ H Q=>t σ H λc H1=>if c=true then Q true H1 else u σ H1 Q
def r_q (t:TT):TT:=λσ H Q=>t σ H λc H1=>Q (!c) H1
theorem c_X (ha:PT X a tA):PW X (.BoolOp .And [a] pos) tA:=by
 intro wh pins s σ H Q I h;refine isTrue_and (thn (ha pins s σ H Q I h) λc s1 e=> ?_);cases c with
 | true=>exact isTrue_and_nil e
 | false=>exact e
theorem b_I (ha:PT X a tA):PW X (.BoolOp .Or [a] pos) tA:=by
 intro wh pins s σ H Q I h;refine isTrue_or (thn (ha pins s σ H Q I h) λc s1 e=> ?_);cases c with
 | false=>exact isTrue_or_nil e
 | true=>exact e
theorem e_O (ha:PT X a tA) (hb:PW X (.BoolOp .And (b::e_r) pos) tB'):PW X (.BoolOp .And (a::b::e_r) pos) (r_M tA tB'):=by
 intro wh pins s σ H Q I h;refine isTrue_and (thn (ha pins s σ H _ I h) λc s1 ⟨H1,I1,q1⟩=> ?_);cases c with
 | true=>exact hb wh pins s1 σ H1 Q I1 q1
 | false=>exact⟨H1,I1,q1⟩
theorem c_D (ha:PT X a tA) (hb:PW X (.BoolOp .Or (b::e_r) pos) tB'):PW X (.BoolOp .Or (a::b::e_r) pos) (tOr tA tB'):=by
 intro wh pins s σ H Q I h;refine isTrue_or (thn (ha pins s σ H _ I h) λc s1 ⟨H1,I1,q1⟩=> ?_);cases c with
 | true=>exact⟨H1,I1,q1⟩
 | false=>exact hb wh pins s1 σ H1 Q I1 q1
theorem b_1 (ha:PT X a tA):PT X (.UnaryOp .Not a pos) (r_q tA):=by
 intro pins s σ H Q I h;exact isTrue_not (ha pins s σ H (λc H1=>Q (!c) H1) I h)
def q_H (ta tb:TE):TE:=λσ H Q=>ta σ H λx H1=>∃c,x= .bl c/\if c=true then tb σ H1 Q else Q (.bl false) H1
def q_0 (ta:TE):TE:=λσ H Q=>ta σ H λx H1=>∃c,x= .bl c/\Q (.bl (!c)) H1
theorem j_V {op} {t:TE} (h:PE X a t):PE X (.BoolOp op [a] pos) t:=λpins s σ H Q I hw=>BoolOp_one (h pins s σ H Q I hw)
theorem i_9 (ha:PE X a ta) (hb:PE X (.BoolOp .And (b::e_r) pos) tb):PE X (.BoolOp .And (a::b::e_r) pos) (q_H ta tb):=by
 intro pins s σ H Q I h;refine BoolOp_and (thn (ha pins s σ H _ I h) λv i ⟨x,f,e,g,d⟩=> ?_);obtain⟨c,rfl,d⟩:=d;cases g;refine wpAny_truthy_bool ?_;cases c with
 | true=>exact hb pins i σ f Q e d
 | false=>exact⟨.bl false,f,e,rfl,d⟩
theorem o_9 (ha:PE X a ta):PE X (.UnaryOp .Not a pos) (q_0 ta):=by
 intro pins s σ H Q I h;refine UnaryOp_ (thn (ha pins s σ H _ I h) λv s1 ⟨x,H1,I1,r1,q1⟩=> ?_);obtain⟨c,rfl,q1⟩:=q1;cases r1;exact not_of (wpAny_truthy_bool ⟨.bl (!c),H1,I1,rfl,q1⟩)
end
def SqL (K:PySem.W.Frag) (H:Hp) (a:Addr) (xs:List V):Prop:=
 Rd H a (.lst xs)\/
  ∃(o:Obj) (its:Array Value) (n:Nat),K.lookup a=some o/\o.cls= .type "list"/\o.dict=none/\o.data= .seq its n/\its.size<=sizeLine/\Vals xs its.toList
def SqT (K:PySem.W.Frag) (H:Hp) (a:Addr) (xs:List V):Prop:=
 Rd H a (.tup xs)\/
  ∃(o:Obj) (its:Array Value) (n:Nat),K.lookup a=some o/\o.cls= .type "tuple"/\o.data= .seq its n/\its.size<=sizeLine/\Vals xs its.toList
def r_D:Value->Option V
 | .none=>some .non
 | .bool b=>some (.bl b)
 | .int i _=>some (.int i)
 | .str x _=>some (.str x)
 | .bytes b _=>some (.byt b)
 | .float b _=>some (.flt b)
 | .ref a=>some (.ref a)
 | .type n=>some (.ty n)
 | _=>none
theorem RelV.abs {x:V} {u:Value} (r:RelV x u):r_D u=some x:=by
 cases x with
 | non=>cases r;rfl
 | bl _=>cases r;rfl
 | int _=>obtain⟨t,rfl⟩:=r;rfl
 | str _=>obtain⟨t,rfl⟩:=r;rfl
 | byt _=>obtain⟨t,rfl⟩:=r;rfl
 | flt _=>obtain⟨t,rfl⟩:=r;rfl
 | ref _=>cases r;rfl
 | ty _=>cases r;rfl
theorem RelV.inj {x y:V} {u:Value} (r:RelV x u) (q:RelV y u):x=y:=r_4 (r.abs.symm.trans q.abs)
theorem Vals.inj:∀{xs ys:List V} {us:List Value},Vals xs us->Vals ys us->xs=ys
 | _,_,_,.nil,.nil=>rfl
 | _,_,_,.cons r t,.cons r' t'=>by rw[r.inj r',Vals.inj t t']
section
variable {X:Cx} {pins:List (Addr×Obj)} {σ:St} {H:Hp} {s:Shared} {a:Addr} {xs ys:List V}
theorem SqL.of {K:PySem.W.Frag} (h:H a=some (.lst xs)):SqL K H a xs:= .inl (.inl h)
theorem SqT.of {K:PySem.W.Frag} (h:H a=some (.tup xs)):SqT K H a xs:= .inl (.inl h)
theorem Inv.list (I:Inv X pins σ H s) (h:SqL X.K H a xs):∃its:List Value,Vals xs its/\PlainL s.heap a its.toArray/\xs.length<=sizeLine:=by
 rcases h with h | ⟨o,its,n,f,c,d,b,g,r⟩
 ·obtain⟨z,its,n,r,e⟩:=h.ok I.hok
  exact⟨its,r,⟨_,n,e,rfl,rfl,rfl⟩,z⟩
 ·refine⟨its.toList,r,⟨o,n,I.kIn a o f,c,d,by simpa using b⟩,?_⟩
  have e:=r.length;simp only[Array.length_toList] at e;omega
theorem Inv.tuple (I:Inv X pins σ H s) (h:SqT X.K H a xs):∃its:List Value,Vals xs its/\IsTup s.heap a its.toArray/\xs.length<=sizeLine:=by
 rcases h with h | ⟨o,its,n,d,c,b,f,r⟩
 ·obtain⟨z,its,r,p⟩:=h.ok I.hok
  exact⟨its,r,p,z⟩
 ·refine⟨its.toList,r,⟨o,I.kIn a o d,c,n,by simpa using b⟩,?_⟩
  have e:=r.length;simp only[Array.length_toList] at e;omega
theorem Inv.list_inj (I:Inv X pins σ H s) (h:SqL X.K H a xs) (h':SqL X.K H a ys):xs=ys:=by
 obtain⟨its,r,⟨o,n,e,_,_,d⟩,_⟩:=I.list h;obtain⟨its',r',⟨o',n',e',_,_,d'⟩,_⟩:=I.list h';rw[e] at e';cases e';rw[d] at d';injection d' with d1 _
 have:its=its':=by simpa using congrArg Array.toList d1
 subst this;exact r.inj r'
end
abbrev Cx.wish (X:Cx) (E:Value->Shared->Prop):Cx:={ X with xe:=E }
abbrev Cx.nox (X:Cx):Cx:=X.wish λ_ _=>False
theorem Cx.Ok.wish {X:Cx} (ok:X.Ok) (E:Value->Shared->Prop):(X.wish E).Ok:=
 ⟨ok.mod,ok.kind,ok.glob,ok.blt,ok.above,ok.inj,ok.has,ok.cab,ok.hd,ok.frames,ok.stk,ok.exf,ok.bs,ok.bsz,ok.noex,ok.exfs,ok.funs,ok.frf⟩
theorem Cx.Ok.unwish {X:Cx} {E:Value->Shared->Prop} (ok:(X.wish E).Ok):X.Ok:=
 ⟨ok.mod,ok.kind,ok.glob,ok.blt,ok.above,ok.inj,ok.has,ok.cab,ok.hd,ok.frames,ok.stk,ok.exf,ok.bs,ok.bsz,ok.noex,ok.exfs,ok.funs,ok.frf⟩
section
variable {X:Cx} {pins:List (Addr×Obj)} {σ:St} {H:Hp} {s:Shared} {E:Value->Shared->Prop}
theorem Inv.wish (I:Inv X pins σ H s) (E:Value->Shared->Prop):Inv (X.wish E) pins σ H s:=⟨I.ok.wish E,I.os,I.bare,I.base,I.loc,I.cell,I.free,I.freeC,I.pin,I.hok,I.len⟩
theorem Inv.unwish (I:Inv (X.wish E) pins σ H s):Inv X pins σ H s:=⟨I.ok.unwish,I.os,I.bare,I.base,I.loc,I.cell,I.free,I.freeC,I.pin,I.hok,I.len⟩
theorem SP.unwish {D:i_O} {f:Flow} {s':Shared} (h:SP (X.wish E) pins D f s'):SP X pins D f s':=by
 cases f with
 | next=>obtain⟨σ',H',I,q⟩:=h;exact⟨σ',H',I.unwish,q⟩
 | brk=>obtain⟨σ',H',I,q⟩:=h;exact⟨σ',H',I.unwish,q⟩
 | cont=>obtain⟨σ',H',I,q⟩:=h;exact⟨σ',H',I.unwish,q⟩
 | ret u=>obtain⟨v,σ',H',I,r,q⟩:=h;exact⟨v,σ',H',I.unwish,r,q⟩
theorem PSs.nox {st:List Stmt} {t:TS} (h:PSs X.nox st t):PSs X st t:=λpins s σ H D I hw=>
 wpAny_mono (h pins s σ H D (I.wish _) hw) (λ_ _ q=>q.unwish) λ_ _ z=>False.elim z
end
section
variable {X:Cx} {st:Stmt} {e_r:List Stmt} {t u:TS} {e:Expr} {te:TE} {pos:Pos}
def q_c:TS:=λD σ H=>D.nx σ H
def q_j (t u:TS):TS:=λD σ H=>t { D with nx:=u D } σ H
theorem a_p:PSs X [] q_c:=λ_ _ σ H _ I h=>wpAny_execs_nil ⟨σ,H,I,h⟩
theorem a_c (h1:PS X st t) (h2:PSs X e_r u):PSs X (st::e_r) (q_j t u):=by
 intro pins s σ H D I h;refine wpAny_execs_cons (thn (h1 pins s σ H { D with nx:=u D } I h) λf s1 q=> ?_);cases f with
 | next=>
   obtain⟨σ',H',I',q⟩:=q;exact h2 pins s1 σ' H' D I' q
 | ret v=>exact q
 | brk=>exact q
 | cont=>exact q
theorem a_f (h1:PS X st t):PSs X [st] t:=by
 intro pins s σ H D I h;refine wpAny_execs_cons (thn (h1 pins s σ H D I h) λf s1 q=> ?_);cases f with
 | next=>exact wpAny_execs_nil q
 | ret v=>exact q
 | brk=>exact q
 | cont=>exact q
theorem Inv.quiet {pins:List (Addr×Obj)} {σ:St} {H:Hp} {s:Shared} (I:Inv X pins σ H s):interactive X.env=false:=by simp[interactive,I.ok.kind]
def q_x (te:TE):TS:=λD σ H=>te σ H λ_ H1=>D.nx σ H1
theorem a_y (he:PE X e te) (hs:swapsWith e none pos.line X.env=pure false:=by rfl):PS X (.Expr e pos) (q_x te):=by
 intro pins s σ H D I h;exact wpAny_Expr_any (thn (he pins s σ H _ I h) λv s1 ⟨x,H1,I1,r1,q1⟩=>⟨σ,H1,I1,q1⟩) I.quiet hs
def r_v (te:TE):TS:=λD σ H=>te σ H D.rt
theorem a_o (he:PE X e te):PS X (.Return (some e) pos) (r_v te):=by
 intro pins s σ H D I h;exact wpAny_Return_some (thn (he pins s σ H _ I h) λv s1 ⟨x,H1,I1,r1,q1⟩=>⟨x,σ,H1,I1,r1,q1⟩)
def q_w:TS:=λD _ H=>D.rt .non H
theorem j_P:PS X (.Return none pos) q_w:=λ_ _ σ H _ I h=>wpAny_Return_none ⟨.non,σ,H,I,rfl,h⟩
def r_T (c:TT) (t u:TS):TS:=λD σ H=>c σ H λb H1=>if b=true then t D σ H1 else u D σ H1
theorem a_C {c:Expr} {a b:List Stmt} {tc:TT} (hc:PT X c tc) (ha:PSs X a t) (hb:PSs X b u):PS X (.If c a b pos) (r_T tc t u):=by
 intro pins s σ H D I h;refine wpAny_If (thn (hc pins s σ H _ I h) λd s1 ⟨H1,I1,q1⟩=> ?_);cases d with
 | true=>exact ha pins s1 σ H1 D I1 q1
 | false=>exact hb pins s1 σ H1 D I1 q1
def p_c:TS:=λ_ _ _=>False
theorem l_k:PS X st p_c:=λ_ _ _ _ _ _ h=>h.elim
end
abbrev TG:=V->St->Hp->(St->Hp->Prop)->Prop
abbrev TGs:=List V->St->Hp->(St->Hp->Prop)->Prop
def PG (X:Cx) (target:Expr) (t:TG):Prop:=
 ∀(pins:List (Addr×Obj)) (s:Shared) (σ:St) (H:Hp) (v:V) (u:Value) (Q:St->Hp->Prop),Inv X pins σ H s->RelV v u->t v σ H Q->
  wpAny (model X.prog X.w) X.A (assign target X.env u) (λ_ s'=>∃σ' H',Inv X pins σ' H' s'/\Q σ' H') X.xe s
def PGs (X:Cx) (ts:List Expr) (t:TGs):Prop:=
 ∀(pins:List (Addr×Obj)) (s:Shared) (σ:St) (H:Hp) (vs:List V) (us:List Value) (Q:St->Hp->Prop),Inv X pins σ H s->Vals vs us->t vs σ H Q->
  wpAny (model X.prog X.w) X.A (assignInOrder ((assignEach ts X.env).map (·.2)) us) (λ_ s'=>∃σ' H',Inv X pins σ' H' s'/\Q σ' H') X.xe s
abbrev q_e:=V->V->V->Hp->(Hp->Prop)->Prop
def r_h (X:Cx) (t:q_e):Prop:=
 ∀(pins:List (Addr×Obj)) (s:Shared) (σ:St) (H:Hp) (o i v:V) (ov iv u:Value) (Q:Hp->Prop),Inv X pins σ H s->RelV o ov->RelV i iv->RelV v u->t o i v H Q->
  wpAny (model X.prog X.w) X.A (setItem ov iv u) (λ_ s'=>∃H',Inv X pins σ H' s'/\Q H') X.xe s
section
variable {X:Cx} {pos:Pos}
def k_V (i:Nat):TG:=λv σ H Q=>Q (σ.set i (some v)) H
theorem b_b {i:Nat} {x:Str} (hN:X.N.Nodup) (hi:X.N[i]? =some x) (hx:Loc X.env.scope x) (hf:X.fn x=true\/X.env.scope.names.lookup x=some .local:=by first | exact .inl rfl | exact .inr rfl | assumption):PG X (.Name x pos) (k_V i):=by
 intro pins s σ H v u Q I r h;exact wpAny_assign_Name (d_0 I hN hi hx r (λs' I'=>⟨_,H,I',h⟩) hf)
def r_P:TGs:=λvs σ H Q=>vs= []/\Q σ H
def p_5 (t:TG) (u:TGs):TGs:=λvs σ H Q=>∃v r,vs=v::r/\t v σ H λσ' H'=>u r σ' H' Q
theorem m_P:PGs X [] r_P:=by
 intro pins s σ H vs us Q I r h;obtain⟨e,h⟩:=h;subst e;cases r;exact assignInOrder_nil ⟨σ,H,I,h⟩
theorem i_e {e:Expr} {es:List Expr} {t:TG} {u:TGs} (h1:PG X e t) (h2:PGs X es u)
 (hs:(assignEach (e::es) X.env).map (·.2)=assign e X.env::(assignEach es X.env).map (·.2):=by rfl):PGs X (e::es) (p_5 t u):=by
 intro pins s σ H vs us Q I r h;obtain⟨v,vr,d,h⟩:=h;subst d;cases r with
 | cons r rr=>
   rw[hs];refine assignInOrder_cons (thn (h1 pins s σ H _ _ _ I r h) λ_ a ⟨σ1,c,f,b⟩=> ?_);exact h2 pins a σ1 c _ _ Q f rr b
def r_n (K:PySem.W.Frag) (n:Nat) (t:TGs):TG:=λv σ H Q=>∃a xs,v= .ref a/\SqT K H a xs/\xs.length=n/\t xs σ H Q
theorem p_u {es:List Expr} {k:Nat} {t:TGs} {n:Nat} (hc:X.calm=true) (h:PGs X es t)
 (hn:(assignEach es X.env).length=n:=by rfl) (hst:(assignEach es X.env).findIdx? (·.1)=none:=by rfl):PG X (.Tuple es k pos) (r_n X.K n t):=by
 intro pins s σ H v u Q I r c;obtain⟨a,xs,l,g,f,c⟩:=c;subst l;cases r;obtain⟨its,rv,d,p⟩:=I.tuple g;refine assign_Tuple_tuple (I.ok.hd hc) d (by simp[hn,<-f,rv.length]) hst λi j=> ?_;have m:Inv X pins σ H { s with heap:=i }:=I.kept (t':=s.toks) λb o e=>j b o (s_l (Heap.lt_size e)) e;exact h pins _ σ H xs _ Q m (by simpa using rv) c
def r_r (to ti:TE) (t:q_e):TG:=λv σ H Q=>to σ H λo H1=>ti σ H1 λi H2=>t o i v H2 λH3=>Q σ H3
theorem m_k {o i:Expr} {to ti:TE} {t:q_e} (ho:PE X o to) (hi:PE X i ti) (hs:r_h X t)
 (ha:∀v,assign (.Subscript o i pos) X.env v=(do
   let ov<-holding [v] (eval o X.env);let iv<-holding [v,ov] (eval i X.env)
   standAt pos
   holding [v,ov,iv] (setItem ov iv v)
   release [v,ov,iv] []):=by intro _;rfl):PG X (.Subscript o i pos) (r_r to ti t):=by
 intro pins s σ H v u Q I r h;rw[ha];refine wpAny_bind (wpAny_holding (thn (ho pins s σ H _ I h) λov c ⟨x,l,n,a,g⟩=> ?_));refine wpAny_bind (wpAny_holding (thn (hi pins c σ l _ n g) λiv d ⟨y,b,k,m,p⟩=> ?_));refine wpAny_bind (wpAny_standAt (wpAny_bind (wpAny_holding (thn (hs pins d σ b x y v ov iv u _ k a m r p) λ_ q ⟨e,j,f⟩=> ?_))));exact wpAny_release ⟨σ,e,j,f⟩
def p_V (te:TE) (g:TG):TS:=λD σ H=>te σ H λx H1=>g x σ H1 D.nx
theorem m_G {tg e:Expr} {te:TE} {g:TG} (he:PE X e te) (hg:PG X tg g) (hs:swapsWithSole [tg] e pos.line X.env=pure false:=by rfl) (hw:swappedStores [tg] e X.env=pure none:=by rfl)
 (h1:(assignEach [tg] X.env).map (·.2)= [assign tg X.env]:=by rfl):PS X (.Assign [tg] e pos) (p_V te g):=by
 intro pins s σ H D I h;refine wpAny_Assign_stores (thn (he pins s σ H _ I h) λv c ⟨x,f,d,a,b⟩=> ?_) hs hw;rw[h1];exact thn (hg pins c σ f x v _ d a b) λ_ i q=>q
theorem a_w {i:Nat} {x:Str} {e:Expr} {te:TE} {pos':Pos} (hN:X.N.Nodup) (hi:X.N[i]? =some x) (hx:Loc X.env.scope x) (he:PE X e te) (hs:swapsWith e (some (.Name x pos')) pos.line X.env=pure false:=by rfl) (hf:X.fn x=true\/X.env.scope.names.lookup x=some .local:=by first | exact .inl rfl | exact .inr rfl | assumption):
 PS X (.Assign [.Name x pos'] e pos) (p_V te (k_V i)):=by
 intro pins s σ H D I h;refine wpAny_Assign_Name (thn (he pins s σ H _ I h) λv g ⟨y,f,c,a,b⟩=> ?_) hs;exact d_0 c hN hi hx a (λj d=>⟨_,f,d,b⟩) hf
end
section
variable {X:Cx} {pos:Pos}
def o_7 (c:TT) (tb:TS):TS:=λD σ H=>∃W:Nat->St->Hp->Prop,(∃m,W m σ H)/\∀m σ H,W m σ H->
 c σ H λb H1=>if b=true then ∃N:St->Hp->Prop,(∀σ' H',N σ' H'->∃m',m' < m/\W m' σ' H')/\tb { D with nx:=N,ct:=N,bk:=D.nx } σ H1 else D.nx σ H1
theorem d_x {c:Expr} {body:List Stmt} {tc:TT} {tb:TS} (hp:PassesOwn (model X.prog X.w) X.A X.env X.xe) (hc:PT X c tc) (hb:PSs X body tb):PS X (.While c body [] pos) (o_7 tc tb):=by
 intro pins s σ H D I h;obtain⟨W,⟨t,u⟩,turn⟩:=h;refine wpAny_While (codeAny_whileLoop (λn s'=>∃σ' H',Inv X pins σ' H' s'/\W n σ' H') ?_ t ⟨σ,H,I,u⟩);rintro n q ⟨σ1,p,x,y⟩;refine wpAny_passesOwn hp (thn (hc pins q σ1 p _ x (turn n σ1 p y)) λb r ⟨l,o,e⟩=> ?_);cases b with
 | true=>
   obtain⟨N,m,e⟩:=e;rw[if_pos rfl];refine wpAny_passesOwn hp (thn (hb pins r σ1 l _ o e) λf z d=> ?_);cases f with
   | next=>
     obtain⟨σ3,a,i,k⟩:=d;obtain⟨m',j,g⟩:=m σ3 a k;exact⟨m',j,σ3,a,i,g⟩
   | cont=>
     obtain⟨σ3,a,i,k⟩:=d;obtain⟨m',j,g⟩:=m σ3 a k;exact⟨m',j,σ3,a,i,g⟩
   | brk=>exact d
   | ret v=>exact d
 | false=>
   rw[if_neg s_e];exact wpAny_execs_nil ⟨σ1,l,o,e⟩
end
structure It where
 go:Nat->Hp->Prop
 yld:Nat->Hp->V->Hp->Prop
 stop:Nat->Hp->Prop
def f_V (X:Cx) (pins:List (Addr×Obj)) (H:Hp) (b:Addr):Prop:=
 H b=none/\b≠X.env.locals/\b∉X.fs/\(b∈X.ex\/X.s₀.heap.objs.size<=b)/\(∀x c,X.env.cells.lookup x=some c->c≠b)/\∀p∈X.pn++pins,p.1≠b
theorem Inv.fpOk {X:Cx} {pins:List (Addr×Obj)} {σ:St} {H H':Hp} {s:Shared} {b:Addr} (I:Inv X pins σ H s) (hb:s.heap.objs.size<=b) (hn:H' b=none):f_V X pins H' b:=by
 refine⟨hn,Nat.ne_of_gt (s_d I.lt hb),I.nofs hb,.inr (s_i I.sz hb),λx c e z=> ?_, λp a z=> ?_⟩
 ·obtain⟨v,q⟩:=I.cell x c e
  exact absurd (s_d q.lt (by rw[z];exact hb)) (Nat.lt_irrefl _)
 ·exact absurd (s_d (Heap.lt_size (I.pin p a).1) (by rw[z];exact hb)) (Nat.lt_irrefl _)
structure p_W (P:Program) (w:World) (K:PySem.W.Frag) (tg:Expr) (J:It) (fp:List Addr) (it:Addr) (tn:Nat->Heap->Prop):Prop where
 mem:it∈fp
 obj:∀i h,tn i h->∀b∈fp,∃o,h.get? b=some o/\∀v,o.data≠ .cell v
 keep:∀i h h',tn i h->(∀b∈fp,∀o,h.get? b=some o->h'.get? b=some o)->tn i h'
 item:∀(X:Cx),X.prog=P->X.w=w->X.K=K->X.calm=true->∀(i:Nat) (pins:List (Addr×Obj)) (s:Shared) (σ:St) (H:Hp) (E:Value->Shared->Prop),Inv X pins σ H s->(∀b∈fp,f_V X pins H b)->tn i s.heap->J.go i H->
  wpAny (model P w) X.A (pyNext (.ref it)) (λr s1=>∃u,r=some u/\
   wpAny (model P w) X.A (letOwnedTupleGo tg (.ref it) u) (λ_ s2=>∃x H',Inv X pins σ H' s2/\RelV x u/\J.yld i H x H'/\tn (i+1) s2.heap/\∀b∈fp,H' b=none) E s1) E s
 done:∀(X:Cx),X.prog=P->X.w=w->X.K=K->X.calm=true->∀(i:Nat) (pins:List (Addr×Obj)) (s:Shared) (σ:St) (H:Hp) (E:Value->Shared->Prop),Inv X pins σ H s->(∀b∈fp,f_V X pins H b)->tn i s.heap->J.stop i H->
  wpAny (model P w) X.A (pyNext (.ref it)) (λr s1=>r=none/\Inv X pins σ H s1) E s
 self:∀(A:Around) (i:Nat) (s:Shared) (Q:Value->Shared->Prop) (E:Value->Shared->Prop),tn i s.heap->Q (.ref it) s->wpAny (model P w) A (pyIter (.ref it)) Q E s
abbrev TI:=St->Hp->(It->Hp->Prop)->Prop
def PIE (X:Cx) (pins:List (Addr×Obj)) (σ:St) (tg:Expr) (R:It->Hp->Prop) (itv:Value) (s2:Shared):Prop:=
 ∃(it:Addr) (fp:List Addr) (tn:Nat->Heap->Prop) (J:It) (H':Hp),itv= .ref it/\Inv X pins σ H' s2/\p_W X.prog X.w X.K tg J fp it tn/\tn 0 s2.heap/\(∀b∈fp,f_V X pins H' b)/\R J H'
def PI (X:Cx) (tg iter:Expr) (wi:TI):Prop:=
 ∀(pins:List (Addr×Obj)) (s:Shared) (σ:St) (H:Hp) (R:It->Hp->Prop),Inv X pins σ H s->wi σ H R->
  wpAny (model X.prog X.w) X.A (eval iter X.env) (λv s1=>wpAny (model X.prog X.w) X.A (pyIter v) (PIE X pins σ tg R) X.xe s1) X.xe s
theorem m_X {M:Model} {A:Around} {E:Value->Shared->Prop} {s:Shared} {tg:Expr} {it:Addr} {u:Value} {o:Obj} {n:String} {vs:Array Value} {Q:Unit->Shared->Prop} (ho:s.heap.get? it=some o) (hc:o.cls= .type n) (hd:o.data= .fields vs)
 (hn: ["enumerate","zip","dict_itemiterator","dict_reverseitemiterator","odict_iterator","itertools.zip_longest","itertools.pairwise"].contains n=false) (hQ:Q () s):wpAny M A (letOwnedTupleGo tg (.ref it) u) Q E s:=by
 unfold letOwnedTupleGo
 cases tg <;> first
  | exact wpAny_pure hQ
  | (cases u <;> first
      | exact wpAny_pure hQ
      | (refine wpAny_bind (wpAny_load ho ?_)
         rw[hc,hd];show wpAny M A (if (["enumerate","zip","dict_itemiterator","dict_reverseitemiterator","odict_iterator","itertools.zip_longest","itertools.pairwise"].contains n&&vs[0]? == some (rawInt _))=true then _ else _) Q E s;rw[if_neg (by intro h;rw[hn,Bool.false_and] at h;cases h)];exact wpAny_pure hQ))
def Itl (K:PySem.W.Frag) (a:Addr):It:=
 ⟨λi H=>∃xs x,SqL K H a xs/\xs[i]? =some x,λi H x H'=>H'=H/\∀xs,SqL K H a xs->xs[i]? =some x,λi H=>∃xs,SqL K H a xs/\xs.length<=i⟩
def Itr (lo:Int) (n:Nat):It:=⟨λi _=>i < n,λi H x H'=>H'=H/\x= .int (lo+i),λi _=>n<=i⟩
theorem j_R {P:Program} {w:World} {K:PySem.W.Frag} {tg:Expr} (a it:Addr):p_W P w K tg (Itl K a) [it] it (λi h=>h.IsListIter it a i) where
 mem:=by simp
 obj:=λi h st b f=>by
  have e:b=it:=by simpa using f
  subst e;obtain⟨o,e,c,d⟩:=st;exact⟨o,e,λv z=>by rw[d] at z;cases z⟩
 keep:=λi h j st k=>st.at λo e=>k it (by simp) o e
 item:=by
  intro X y q F G i pins s σ H E I l st B;subst y q F;obtain⟨xs,x,g,t⟩:=B;obtain⟨its,rv,p,N⟩:=I.list g;obtain⟨u,L,ru⟩:=rv.get t;obtain⟨C,A,J,m,n,r⟩:=l it (by simp);refine wpAny_pyNext_list_item st p.isList (x:=u) (by simpa using L) λj st' sb=> ?_;have M:Inv X pins σ H { s with heap:=j }:=I.turned (t':=s.toks) (λb o f e=>(sb.2 b f).trans e) C A m n r;obtain⟨o,e,c,d⟩:=id st';exact⟨u,rfl,m_X (s:={ s with heap:=j }) e c d (by decide) ⟨x,H,M,ru,⟨rfl,λys O=>by rw[I.list_inj O g];exact t⟩,st',λb f=>(l b f).1⟩⟩
 done:=by
  intro X y q F G i pins s σ H E I l st B;subst y q F;obtain⟨xs,g,t⟩:=B;obtain⟨its,rv,p,N⟩:=I.list g;obtain⟨C,A,J,m,n,r⟩:=l it (by simp);have Q:=rv.length;exact wpAny_pyNext_list_end (I.ok.hd G) st p.isList (by simp;omega) λj eb=>⟨rfl,I.turned (t':=s.toks) (λb o f e=>eb b o f e) C A m n r⟩
 self:=λ_ _ _ _ _ st h=>wpAny_pyIter_listiter st h
theorem i_m {P:Program} {w:World} {K:PySem.W.Frag} {tg:Expr} (it:Addr) (lo:Int) (n:Nat):p_W P w K tg (Itr lo n) [it] it (λi h=>IsRangeIter h it (lo+(i:Nat) * 1) ((n:Int) - (i:Nat)) 1) where
 mem:=by simp
 obj:=λi h st b a=>by
  have e:b=it:=by simpa using a
  subst e
  exact⟨_,st,λv z=>by
   have z':Data.fields _=Data.cell v:=z;cases z'⟩
 keep:=λi h c st k=>k it (by simp) _ st
 item:=by
  intro X p l x g i pins s σ H E I d st r;subst p l x;obtain⟨u,q,y,f,j,m⟩:=d it (by simp);have W:=Walks.range (prog:=X.prog) (w:=X.w) (I.ok.hd g) it lo 1 n;refine W.item i s _ _ r st λv c tk B st' kk=> ?_;obtain⟨t,rfl⟩:=B;have A:Inv X pins σ H { s with heap:=c,toks:=tk }:=I.turned (λb o a e=>kk b o (by simpa using a) e) u q f j m;refine⟨_,rfl,m_X (s:={ s with heap:=c,toks:=tk }) (n:="range_iterator") st' rfl rfl (by decide) ⟨.int (lo+i),H,A,⟨t,?_⟩,⟨rfl,rfl⟩,st',λb a=>(d b a).1⟩⟩;rw[Int.mul_one]
 done:=by
  intro X p l x g i pins s σ H E I d st r;subst p l x;obtain⟨u,q,y,f,j,m⟩:=d it (by simp);exact wpAny_pyNext_range_end (I.ok.hd g) st (by have:n<=i:=r;omega) λc eb=>⟨rfl,I.turned (t':=s.toks) (λb o a e=>eb b o a e) u q f j m⟩
 self:=λ_ _ _ _ _ st h=>wpAny_pyIter_rangeiter st h
section
variable {X:Cx} {tg:Expr}
def o_5 (K:PySem.W.Frag) (tl:TE):TI:=λσ H R=>tl σ H λx H1=>∃a,x= .ref a/\(∃xs,SqL K H1 a xs)/\R (Itl K a) H1
theorem m_L {l:Expr} {tl:TE} (hl:PE X l tl):PI X tg l (o_5 X.K tl):=by
 intro pins s σ H R I h;refine thn (hl pins s σ H _ I h) λv c ⟨x,k,d,f,g⟩=> ?_;obtain⟨a,e,⟨xs,j⟩,q⟩:=g;subst e;cases f;obtain⟨its,rv,p,m⟩:=d.list j;refine wpAny_pyIter_list p.isList ?_;refine⟨c.heap.objs.size, [c.heap.objs.size],_,_,k,rfl,d.kept (t':=c.toks) λb o e=>Heap.get?_push_of_some _ e,j_R a _,⟨_,Heap.get?_push_size _ rfl,rfl,rfl⟩,λb i=> ?_, q⟩;have e:b=c.heap.objs.size:=by simpa using i
 subst e;exact d.fpOk (r_6 _) (d.hok.fresh (r_6 _))
theorem h_F {pins:List (Addr×Obj)} {σ:St} {H:Hp} {s:Shared} {R:It->Hp->Prop} {E:Value->Shared->Prop} {lo hi:Int} {t u v:Tok} {tk:Nat} (I:Inv X pins σ H s) (h1: -(2 ^ 62)<=lo) (h2:lo < 2 ^ 62) (h3: -(2 ^ 62)<=hi) (h4:hi < 2 ^ 62)
 (q:R (Itr lo (hi - lo).toNat) H):wpAny (model X.prog X.w) X.A (pyIter (.ref s.heap.objs.size)) (PIE X pins σ tg R) E { s with heap:=s.heap.push { cls:= .type "range",data:= .fields #[.int lo t,.int hi u,.int 1 v] },toks:=tk }:=by
 refine wpAny_pyIter_range (IsRange.new ..) (small_one h1 h2 h3 h4) ?_;have a:Inv X pins σ H { s with heap:=s.heap.push { cls:= .type "range",data:= .fields #[.int lo t,.int hi u,.int 1 v] },toks:=tk }:=I.kept λb o e=>Heap.get?_push_of_some _ e
 refine⟨(s.heap.push { cls:= .type "range",data:= .fields #[.int lo t,.int hi u,.int 1 v] }).objs.size, [(s.heap.push { cls:= .type "range",data:= .fields #[.int lo t,.int hi u,.int 1 v] }).objs.size],_,_,H,rfl,
  a.kept (t':=tk) λb o e=>Heap.get?_push_of_some _ e,i_m _ lo (hi - lo).toNat,?_, λb f=> ?_, q⟩
 ·have c:lo+((0:Nat):Int) * 1=lo:=by simp
  have d:(((hi - lo).toNat:Nat):Int) - ((0:Nat):Int)=Builtin.Range.rangeSize lo hi 1:=by rw[rangeSize_one];split <;> omega
  show IsRangeIter _ _ (lo+((0:Nat):Int) * 1) ((((hi - lo).toNat:Nat):Int) - ((0:Nat):Int)) 1;rw[c,d];exact Heap.get?_push_size _ rfl
 ·have e:b=(s.heap.push { cls:= .type "range",data:= .fields #[.int lo t,.int hi u,.int 1 v] }).objs.size:=by simpa using f
  subst e;exact a.fpOk (r_6 _) (a.hok.fresh (r_6 _))
def q_n (ta:TA):TI:=λσ H R=>ta σ H λvs H1=>∃j:Int,vs= [.int j]/\-(2 ^ 62)<=j/\j < 2 ^ 62/\R (Itr 0 j.toNat) H1
def q_P (ta:TA):TI:=λσ H R=>ta σ H λvs H1=>∃i j:Int,vs= [.int i,.int j]/\(-(2 ^ 62)<=i/\i < 2 ^ 62/\-(2 ^ 62)<=j/\j < 2 ^ 62)/\R (Itr i (j - i).toNat) H1
theorem c_a {a:Expr} {ta:TA} {p pos:Pos} (hg:Gl X "range") (hm:X.mg "range"=none) (ha:PA X [a] ta) (hs:starEach [a] X.env= [(false,eval a X.env)]:=by rfl):PI X tg (.Call (.Name "range" p) [a] [] pos) (q_n ta):=by
 intro pins s σ H R I h;refine Call_ (e_9 I hg hm boot_range (PyProof.Rows.callWith_type1 (thn (ha pos pins s σ H _ I h) λus g ⟨vs,i,d,c,b⟩=> ?_) hs rfl));obtain⟨j,e,b,f,q⟩:=b;subst e;cases c with
 | cons r rr=>
   cases rr;obtain⟨t,rfl⟩:=r;exact call_range_1 (h_F d (by omega) (by omega) b f (by simpa using q))
theorem k_F {a b:Expr} {ta:TA} {p pos:Pos} (hg:Gl X "range") (hm:X.mg "range"=none) (ha:PA X [a,b] ta) (hs:starEach [a,b] X.env= [(false,eval a X.env),(false,eval b X.env)]:=by rfl) (hs2:starEach [b] X.env= [(false,eval b X.env)]:=by rfl):
 PI X tg (.Call (.Name "range" p) [a,b] [] pos) (q_P ta):=by
 intro pins s σ H R I h;refine Call_ (e_9 I hg hm boot_range (PyProof.Rows.callWith_type1 (thn (ha pos pins s σ H _ I h) λus m ⟨vs,n,g,d,c⟩=> ?_) (by rw[hs,hs2]) (by rw[hs2];rfl)));obtain⟨i,j,e,⟨c,l,f,k⟩,q⟩:=c;subst e;cases d with
 | cons r rr=>
   cases rr with
   | cons r' rr=>
     cases rr;obtain⟨t,rfl⟩:=r;obtain⟨t',rfl⟩:=r';exact call_range_2 (h_F g c l f k q)
def r_I (wi:TI) (g:TG) (tb:TS):TS:=λD σ H=>wi σ H λJ H1=>∃W:Nat->Nat->St->Hp->Prop,(∃m,W 0 m σ H1)/\∀i m σ H,W i m σ H->
 (J.stop i H/\D.nx σ H)\/(J.go i H/\∃N:St->Hp->Prop,(∀σ' H',N σ' H'->∃m',m' < m/\W (i+1) m' σ' H')/\∀x H',J.yld i H x H'->g x σ H' λσ2 H2=>tb { D with nx:=N,ct:=N,bk:=D.nx } σ2 H2)
def f_c (fp:List Addr) (h:Heap):List (Addr×Obj):=fp.filterMap λb=>(h.get? b).map λo=>(b,o)
theorem b_O {fp:List Addr} {h:Heap} {b:Addr} {o:Obj} (hb:b∈fp) (e:h.get? b=some o):(b,o)∈f_c fp h:=List.mem_filterMap.mpr ⟨b,hb,by rw[e];rfl⟩
theorem k_J {fp:List Addr} {h:Heap} {p:Addr×Obj} (hp:p∈f_c fp h):p.1∈fp/\h.get? p.1=some p.2:=by
 obtain⟨b,hb,e⟩:=List.mem_filterMap.mp hp;cases q:h.get? b with
 | none=>rw[q] at e;cases e
 | some o=>
   rw[q] at e;have e':(b,o)=p:=r_4 e;subst e';exact⟨hb,q⟩
theorem Inv.pinned {pins:List (Addr×Obj)} {σ:St} {H:Hp} {s:Shared} {fp:List Addr} (I:Inv X pins σ H s) (hf:∀b∈fp,f_V X pins H b) (ho:∀b∈fp,∃o,s.heap.get? b=some o/\∀v,o.data≠ .cell v):Inv X (pins++f_c fp s.heap) σ H s:=
 I.pins_of λp g=>(s_f.mp g).elim (λz=>I.pin p (s_a _ z)) λz=>by
  obtain⟨a,e⟩:=k_J z;obtain⟨f,h,c,_⟩:=hf p.1 a;obtain⟨o,e',d⟩:=ho p.1 a;rw[e] at e';cases e';exact⟨e,f,h,c,d⟩
theorem Inv.unpinned {pins pl:List (Addr×Obj)} {σ:St} {H:Hp} {s:Shared} (I:Inv X (pins++pl) σ H s):Inv X pins σ H s:=I.pins_of λp hp=>I.pin p (s_a _ (s_w _ hp))
theorem b_Z {iter:Expr} {body:List Stmt} {wi:TI} {g:TG} {tb:TS} {pos:Pos} (hp:PassesOwn (model X.prog X.w) X.A X.env X.xe) (hc:X.calm=true) (hi:PI X tg iter wi) (hg:PG X tg g) (hb:PSs X body tb)
 (hs:∀x,foldedSetIterable iter X.env x=pure x:=by intro _;rfl):PS X (.For tg iter body [] pos) (r_I wi g tb):=by
 intro pins s σ H D I h;refine wpAny_For (thn (hi pins s σ H _ I h) λv s1 h1=>thn h1 λitv s2 h2=> ?_) hs;obtain⟨it,fp,tn,J,O,e,I2,T,F,M,W,⟨m0,w0⟩,turn⟩:=h2;subst e
 -- what stays true of the iterator's objects through the loop
 have stat:∀{H':Hp},(∀b∈fp,H' b=none)->∀b∈fp,f_V X pins H' b:=λhn b hb=>⟨hn b hb,(M b hb).2⟩;refine codeAny_forLoop_any (λn s'=>∃i σ' H',Inv X pins σ' H' s'/\tn i s'.heap/\(∀b∈fp,H' b=none)/\W i n σ' H') ?_ m0 ⟨0,σ,O,I2,F,λb hb=>(M b hb).1,w0⟩;rintro n G ⟨i,σ3,p,C,q,t,w3⟩;rcases turn i n σ3 p w3 with⟨stop,qn⟩ | ⟨go,N,Z,step⟩
 ·refine wpAny_passesOwn hp (thn (T.done X rfl rfl rfl hc i pins G σ3 p X.xe C (stat t) q stop) λr s4 ⟨z,R⟩=> ?_)
  subst z;exact wpAny_execs_nil ⟨σ3,p,R,qn⟩
 ·refine wpAny_passesOwn hp (thn (T.item X rfl rfl rfl hc i pins G σ3 p X.xe C (stat t) q go) λr s4 ⟨u,z,h4⟩=> ?_)
  subst z;refine wpAny_passesOwn hp (thn h4 λ_ K ⟨x,E,I5,S,Y,l,L⟩=> ?_);have B:=I5.pinned (stat L) (T.obj _ _ l);refine wpAny_passesOwn hp (thn (hg _ K σ3 E x u _ B S (step x E Y)) λ_ s6 ⟨σ6,H6,I6,Q⟩=> ?_);refine wpAny_passesOwn hp (thn (hb _ s6 σ6 H6 _ I6 Q) λf y j=> ?_)
  have again:∀{σ7:St} {a:Hp},Inv X (pins++f_c fp K.heap) σ7 a y->N σ7 a->∃m,m < n/\∃i σ' H',Inv X pins σ' H' y/\tn i y.heap/\(∀b∈fp,H' b=none)/\W i m σ' H':=λ{σ7 a} c k=>by
   obtain⟨m',hm,U⟩:=Z σ7 a k;refine⟨m',hm,i+1,σ7,a,c.unpinned,T.keep _ _ _ l λb hb o e=>(c.pin (b,o) (s_a _ (s_a _ (b_O hb e)))).1,λb hb=> ?_, U⟩;obtain⟨o,e,d⟩:=T.obj _ _ l b hb;exact (c.pin (b,o) (s_a _ (s_a _ (b_O hb e)))).2.1
  cases f with
  | next=>obtain⟨σ7,a,c,k⟩:=j;exact again c k
  | cont=>obtain⟨σ7,a,c,k⟩:=j;exact again c k
  | brk=>obtain⟨σ7,a,c,j⟩:=j;exact⟨σ7,a,c.unpinned,j⟩
  | ret v=>obtain⟨x7,σ7,a,c,P,j⟩:=j;exact⟨x7,σ7,a,c.unpinned,P,j⟩
end
theorem b_X {K:PySem.W.Frag} {a:Addr} {xs:List V} {g:TG} {tb:TS} {D:i_O} {σ:St} {H:Hp} (Pv:Nat->St->Hp->Prop) (h0:Pv 0 σ H) (hl:∀i σ H,i<=xs.length->Pv i σ H->SqL K H a xs)
 (hs:∀i x σ H,xs[i]? =some x->Pv i σ H->g x σ H λσ2 H2=>tb { D with nx:=Pv (i+1),ct:=Pv (i+1),bk:=D.nx } σ2 H2) (hd:∀σ H,Pv xs.length σ H->D.nx σ H):
 ∃W:Nat->Nat->St->Hp->Prop,(∃m,W 0 m σ H)/\∀i m σ H,W i m σ H->
  ((Itl K a).stop i H/\D.nx σ H)\/((Itl K a).go i H/\∃N:St->Hp->Prop,(∀σ' H',N σ' H'->∃m',m' < m/\W (i+1) m' σ' H')/\∀x H',(Itl K a).yld i H x H'->g x σ H' λσ2 H2=>tb { D with nx:=N,ct:=N,bk:=D.nx } σ2 H2):=by
 refine⟨λi m σ H=>m=xs.length - i/\i<=xs.length/\Pv i σ H,⟨xs.length,by simp,s_p _,h0⟩,?_⟩;rintro i m σ H ⟨rfl,c,p⟩;have q:=hl i σ H c p;by_cases b:i < xs.length
 ·refine .inr ⟨⟨xs,xs[i],q,by simp[b]⟩,Pv (i+1),λσ' H' p'=>⟨xs.length - (i+1),by omega,rfl,b,p'⟩,λx H' y=> ?_⟩
  obtain⟨e,y⟩:=y;subst e;exact hs i x σ _ (y xs q) p
 ·have e:i=xs.length:=by omega
  subst e;exact .inl ⟨⟨xs,q,r_6 _⟩,hd σ H p⟩
theorem b_7 {lo:Int} {n:Nat} {g:TG} {tb:TS} {D:i_O} {σ:St} {H:Hp} (Pv:Nat->St->Hp->Prop) (h0:Pv 0 σ H)
 (hs:∀i σ H,i < n->Pv i σ H->g (.int (lo+i)) σ H λσ2 H2=>tb { D with nx:=Pv (i+1),ct:=Pv (i+1),bk:=D.nx } σ2 H2) (hd:∀σ H,Pv n σ H->D.nx σ H):
 ∃W:Nat->Nat->St->Hp->Prop,(∃m,W 0 m σ H)/\∀i m σ H,W i m σ H->
  ((Itr lo n).stop i H/\D.nx σ H)\/((Itr lo n).go i H/\∃N:St->Hp->Prop,(∀σ' H',N σ' H'->∃m',m' < m/\W (i+1) m' σ' H')/\∀x H',(Itr lo n).yld i H x H'->g x σ H' λσ2 H2=>tb { D with nx:=N,ct:=N,bk:=D.nx } σ2 H2):=by
 refine⟨λi m σ H=>m=n - i/\i<=n/\Pv i σ H,⟨n,by simp,s_p _,h0⟩,?_⟩;rintro i m σ H ⟨rfl,b,p⟩;by_cases a:i < n
 ·refine .inr ⟨a,Pv (i+1),λσ' H' p'=>⟨n - (i+1),by omega,rfl,a,p'⟩,λx H' y=> ?_⟩
  obtain⟨e,y⟩:=y;subst e y;exact hs i σ _ a p
 ·have e:i=n:=by omega
  subst e;exact .inl ⟨r_6 _,hd σ H p⟩
abbrev R2:=V->V->Hp->VK->Prop
def OpR (X:Cx) (f:Value->Value->Sem Value) (r:R2):Prop:=
 ∀(pins:List (Addr×Obj)) (s:Shared) (σ:St) (H:Hp) (x y:V) (v u:Value) (Q:VK),Inv X pins σ H s->RelV x v->RelV y u->r x y H Q->
  wpAny (model X.prog X.w) X.A (f v u) (EP X pins σ Q) X.xe s
def UnR (X:Cx) (f:Value->Sem Value) (r:V->Hp->VK->Prop):Prop:=
 ∀(pins:List (Addr×Obj)) (s:Shared) (σ:St) (H:Hp) (x:V) (v:Value) (Q:VK),Inv X pins σ H s->RelV x v->r x H Q->
  wpAny (model X.prog X.w) X.A (f v) (EP X pins σ Q) X.xe s
def d_a (X:Cx) (f:Value) (r:List V->Hp->VK->Prop):Prop:=
 ∀(pins:List (Addr×Obj)) (s:Shared) (σ:St) (H:Hp) (xs:List V) (us:List Value) (Q:VK),Inv X pins σ H s->Vals xs us->r xs H Q->
  wpAny (model X.prog X.w) X.A (call f us) (EP X pins σ Q) X.xe s
def tOp (r:R2) (ta tb:TE):TE:=λσ H Q=>ta σ H λx H1=>tb σ H1 λy H2=>r x y H2 Q
def tUn (r:V->Hp->VK->Prop) (ta:TE):TE:=λσ H Q=>ta σ H λx H1=>r x H1 Q
def rI (C:Int->Int->Prop) (g:Int->Int->V):R2:=λx y H Q=>∃i j,x= .int i/\y= .int j/\C i j/\Q (g i j) H
def rI0 (g:Int->Int->V):R2:=λx y H Q=>∃i j,x= .int i/\y= .int j/\Q (g i j) H
def rU (g:Int->V):V->Hp->VK->Prop:=λx H Q=>∃i,x= .int i/\Q (g i) H
section
variable {X:Cx} {a b c:Expr} {ta tb tc:TE} {pos:Pos}
theorem q_K (ha:PE X a ta) (hb:PE X b tb) {pins:List (Addr×Obj)} {s:Shared} {σ:St} {H:Hp} {R:V->V->Hp->Prop} (I:Inv X pins σ H s)
 (h:ta σ H λx H1=>tb σ H1 λy H2=>R x y H2) {Q:Value->Shared->Prop} {f:Value->Value->Sem Value}
 (hf:∀v u s2 x y H2,Inv X pins σ H2 s2->RelV x v->RelV y u->R x y H2->wpAny (model X.prog X.w) X.A (f v u) Q X.xe s2):
 wpAny (model X.prog X.w) X.A (eval a X.env) (λv s₁=>wpAny (model X.prog X.w) X.A (eval b X.env) (λu s₂=>wpAny (model X.prog X.w) X.A (f v u) Q X.xe s₂) X.xe s₁) X.xe s:=by
 refine thn (ha pins s σ H _ I h) λv e ⟨x,H1,g,d,k⟩=> ?_;refine thn (hb pins e σ H1 _ g k) λu s2 ⟨y,H2,j,c,i⟩=> ?_;exact hf v u s2 x y H2 j d c i
theorem a_v {op:Operator} {r:R2} (ho:OpR X (binaryOp op) r) (ha:PE X a ta) (hb:PE X b tb):PE X (.BinOp a op b pos) (tOp r ta tb):=by
 intro pins s σ H Q I h;exact wpAny_BinOp (q_K ha hb I h λv u s2 x y H2 I2 rx ry q=>ho pins s2 σ H2 x y v u Q I2 rx ry q)
theorem n_8 {op:UnaryOp} {r:V->Hp->VK->Prop} (ho:UnR X (unaryOp op) r) (ha:PE X a ta):PE X (.UnaryOp op a pos) (tUn r ta):=by
 intro pins s σ H Q I h;exact UnaryOp_ (thn (ha pins s σ H _ I h) λv s1 ⟨x,H1,I1,r1,q1⟩=>ho pins s1 σ H1 x v Q I1 r1 q1)
theorem opI {f:Value->Value->Sem Value} {C:Int->Int->Prop} {g:Int->Int->Int}
 (rule:∀(i j:Int) (t u:Tok) (s:Shared) (Q:Value->Shared->Prop) (E:Value->Shared->Prop),C i j->Q (.int (g i j) s.toks) { s with toks:=s.toks+1 }->wpAny (model X.prog X.w) X.A (f (.int i t) (.int j u)) Q E s):
 OpR X f (rI C λi j=> .int (g i j)):=by
 intro pins s σ H x y v u Q I rx ry h;obtain⟨i,j,rfl,rfl,a,q⟩:=h;obtain⟨t,rfl⟩:=rx;obtain⟨t',rfl⟩:=ry;exact rule i j t t' s _ _ a ⟨.int (g i j),H,I.tok _,⟨_,rfl⟩,q⟩
theorem q_7 {f:Value->Value->Sem Value} {g:Int->Int->Int}
 (rule:∀(i j:Int) (t u:Tok) (s:Shared) (Q:Value->Shared->Prop) (E:Value->Shared->Prop),Q (.int (g i j) s.toks) { s with toks:=s.toks+1 }->wpAny (model X.prog X.w) X.A (f (.int i t) (.int j u)) Q E s):
 OpR X f (rI0 λi j=> .int (g i j)):=by
 intro pins s σ H x y v u Q I rx ry h;obtain⟨i,j,rfl,rfl,q⟩:=h;obtain⟨t,rfl⟩:=rx;obtain⟨t',rfl⟩:=ry;exact rule i j t t' s _ _ ⟨.int (g i j),H,I.tok _,⟨_,rfl⟩,q⟩
theorem p_T {f:Value->Value->Sem Value} {g:Int->Int->Bool}
 (rule:∀(i j:Int) (t u:Tok) (s:Shared) (Q:Value->Shared->Prop) (E:Value->Shared->Prop),Q (.bool (g i j)) s->wpAny (model X.prog X.w) X.A (f (.int i t) (.int j u)) Q E s):
 OpR X f (rI0 λi j=> .bl (g i j)):=by
 intro pins s σ H x y v u Q I rx ry h;obtain⟨i,j,rfl,rfl,q⟩:=h;obtain⟨t,rfl⟩:=rx;obtain⟨t',rfl⟩:=ry;exact rule i j t t' s _ _ ⟨.bl (g i j),H,I,rfl,q⟩
def r_S (i j:Int):Prop:=0 < j/\j < 1073741824
def r_U (i j:Int):Prop:=0<=j/\j<=1000000/\i.natAbs < 2 ^ 64
def CMul (i j:Int):Prop:=(-(2 ^ 64) < i/\i < 2 ^ 64)\/(-(2 ^ 64) < j/\j < 2 ^ 64)
theorem CMul.ok {i j:Int} (h:CMul i j):IntMulOk i j:=by
 rcases h with⟨h1,h2⟩ | ⟨h1,h2⟩
 ·exact .of_left (intBits_le_64 h1 h2)
 ·exact .of_right (intBits_le_64 h1 h2)
theorem a_V:OpR X (binaryOp .Add) (rI0 λi j=> .int (i+j)):=q_7 λ_ _ _ _ _ _ _ q=>add_int q
theorem b_S:OpR X (binaryOp .Sub) (rI0 λi j=> .int (i - j)):=q_7 λ_ _ _ _ _ _ _ q=>sub_int q
theorem b_H:OpR X (binaryOp .Mult) (rI CMul λi j=> .int (i * j)):=opI λ_ _ _ _ _ _ _ hc q=>mul_int q hc.ok
theorem a_3:OpR X (binaryOp .FloorDiv) (rI r_S λi j=> .int (i / j)):=opI λi j _ _ _ _ _ hc q=>by
 have h1:(0:Int) < j:=hc.1;have h2:j < 1073741824:=hc.2;exact floordiv_int (by omega) (by rw[Int.fdiv_eq_ediv_of_nonneg i (by omega)];exact q) (.inl (PyProof.noPylong_small (by omega)))
theorem a_S:OpR X (binaryOp .Mod) (rI (λ_ j=>0 < j) λi j=> .int (i % j)):=opI λi j _ _ _ _ _ hc q=>by
 have h1:(0:Int) < j:=hc;exact mod_int' (by omega) (by rw[Int.fmod_eq_emod_of_nonneg i (by omega)];exact q)
theorem h_O:OpR X (binaryOp .Pow) (rI r_U λi j=> .int (i ^ j.toNat)):=opI λ_ _ _ _ _ _ _ hc q=>pow_int_small hc.1 hc.2.1 hc.2.2 q
theorem unI {f:Value->Sem Value} {g:Int->Int}
 (rule:∀(i:Int) (t:Tok) (s:Shared) (Q:Value->Shared->Prop) (E:Value->Shared->Prop),Q (.int (g i) s.toks) { s with toks:=s.toks+1 }->wpAny (model X.prog X.w) X.A (f (.int i t)) Q E s):
 UnR X f (rU λi=> .int (g i)):=by
 intro pins s σ H x v Q I rx h;obtain⟨i,rfl,q⟩:=h;obtain⟨t,rfl⟩:=rx;exact rule i t s _ _ ⟨.int (g i),H,I.tok _,⟨_,rfl⟩,q⟩
theorem j_C:UnR X (unaryOp .USub) (rU λi=> .int (-i)):=unI λ_ _ _ _ _ q=>neg_int q
end
def r_i:V->V->Bool
 | .non,.non=>true | .non,.int _=>true | .int _,.non=>true | .non,.bl _=>true | .bl _,.non=>true | .non,.str _=>true | .str _,.non=>true
 | .int _,.int _=>true | .bl _,.bl _=>true | .str _,.str _=>true | .byt _,.byt _=>true
 | .int _,.str _=>true | .str _,.int _=>true | .bl _,.str _=>true | .str _,.bl _=>true
 | _,_=>false
def rEq:R2:=λx y H Q=>r_i x y=true/\Q (.bl (decide (x=y))) H
def rNe:R2:=λx y H Q=>r_i x y=true/\Q (.bl (!decide (x=y))) H
theorem h_q {i j:Int}:decide (V.int i=V.int j)=(i == j):=by
 rw[Bool.eq_iff_iff];simp
theorem m_u {i j:Bool}:decide (V.bl i=V.bl j)=(i == j):=by
 rw[Bool.eq_iff_iff];simp
theorem g_X {i j:Str}:decide (V.str i=V.str j)=(i == j):=by
 rw[Bool.eq_iff_iff];simp
theorem k_t {i j:Array UInt8}:decide (V.byt i=V.byt j)=(i.toList == j.toList):=by
 rw[Bool.eq_iff_iff];cases i;cases j;simp
section
variable {X:Cx} {a b c:Expr} {ta tb tc:TE} {pos:Pos}
theorem a_M {pins:List (Addr×Obj)} {σ:St} {H:Hp} {s:Shared} {Q:VK} {k k':Bool} (I:Inv X pins σ H s) (q:Q (.bl k) H) (e:k=k'):EP X pins σ Q (.bool k') s:=by
 subst e;exact⟨.bl k,H,I,rfl,q⟩
theorem a_J:OpR X (compareOp .Eq) rEq:=by
 intro pins s σ H x y v u Q I rx ry h;obtain⟨a,q⟩:=h;cases x with
 | non=>
   cases rx;cases y with
   | non=>cases ry;exact PySem.EqNone.eq_none_none (a_M I q (by simp))
   | bl j=>cases ry;exact PySem.EqNone.eq_none_bool (a_M I q (by simp))
   | int j=>obtain⟨t',rfl⟩:=ry;exact PySem.EqNone.eq_none_int (a_M I q (by simp))
   | str j=>obtain⟨t',rfl⟩:=ry;exact PySem.EqNone.eq_none_str (a_M I q (by simp))
   | _=>exact absurd (show false=true from a) s_e
 | bl i=>
   cases rx;cases y with
   | non=>cases ry;exact PySem.EqNone.eq_bool_none (a_M I q (by simp))
   | bl j=>cases ry;exact eq_bool (a_M I q m_u)
   | str j=>obtain⟨t',rfl⟩:=ry;exact PySem.EqMixed.eq_bool_str (a_M I q (by simp))
   | _=>exact absurd (show false=true from a) s_e
 | int i=>
   obtain⟨t,rfl⟩:=rx;cases y with
   | non=>cases ry;exact PySem.EqNone.eq_int_none (a_M I q (by simp))
   | int j=>obtain⟨t',rfl⟩:=ry;exact eq_int (a_M I q h_q)
   | str j=>obtain⟨t',rfl⟩:=ry;exact PySem.EqMixed.eq_int_str (a_M I q (by simp))
   | _=>exact absurd (show false=true from a) s_e
 | str i=>
   obtain⟨t,rfl⟩:=rx;cases y with
   | non=>cases ry;exact PySem.EqNone.eq_str_none (a_M I q (by simp))
   | bl j=>cases ry;exact PySem.EqMixed.eq_str_bool (a_M I q (by simp))
   | int j=>obtain⟨t',rfl⟩:=ry;exact PySem.EqMixed.eq_str_int (a_M I q (by simp))
   | str j=>obtain⟨t',rfl⟩:=ry;exact eq_str (a_M I q g_X)
   | _=>exact absurd (show false=true from a) s_e
 | byt i=>
   obtain⟨t,rfl⟩:=rx;cases y with
   | byt j=>obtain⟨t',rfl⟩:=ry;exact PySem.W.eq_bytes (a_M I q k_t)
   | _=>exact absurd (show false=true from a) s_e
 | _=>cases y <;> exact absurd (show false=true from a) s_e
theorem d_m:OpR X (compareOp .NotEq) rNe:=by
 intro pins s σ H x y v u Q I rx ry h;obtain⟨a,q⟩:=h;cases x with
 | non=>
   cases rx;cases y with
   | non=>cases ry;exact PySem.EqNone.ne_none_none (a_M I q (by simp))
   | bl j=>cases ry;exact PySem.EqNone.ne_none_bool (a_M I q (by simp))
   | int j=>obtain⟨t',rfl⟩:=ry;exact PySem.EqNone.ne_none_int (a_M I q (by simp))
   | str j=>obtain⟨t',rfl⟩:=ry;exact PySem.EqNone.ne_none_str (a_M I q (by simp))
   | _=>exact absurd (show false=true from a) s_e
 | bl i=>
   cases rx;cases y with
   | non=>cases ry;exact PySem.EqNone.ne_bool_none (a_M I q (by simp))
   | bl j=>cases ry;exact ne_bool (a_M I q (congrArg not m_u))
   | str j=>obtain⟨t',rfl⟩:=ry;exact PySem.EqMixed.ne_bool_str (a_M I q (by simp))
   | _=>exact absurd (show false=true from a) s_e
 | int i=>
   obtain⟨t,rfl⟩:=rx;cases y with
   | non=>cases ry;exact PySem.EqNone.ne_int_none (a_M I q (by simp))
   | int j=>obtain⟨t',rfl⟩:=ry;exact ne_int (a_M I q (congrArg not h_q))
   | str j=>obtain⟨t',rfl⟩:=ry;exact PySem.EqMixed.ne_int_str (a_M I q (by simp))
   | _=>exact absurd (show false=true from a) s_e
 | str i=>
   obtain⟨t,rfl⟩:=rx;cases y with
   | non=>cases ry;exact PySem.EqNone.ne_str_none (a_M I q (by simp))
   | bl j=>cases ry;exact PySem.EqMixed.ne_str_bool (a_M I q (by simp))
   | int j=>obtain⟨t',rfl⟩:=ry;exact PySem.EqMixed.ne_str_int (a_M I q (by simp))
   | str j=>obtain⟨t',rfl⟩:=ry;exact ne_str (a_M I q (congrArg not g_X))
   | _=>exact absurd (show false=true from a) s_e
 | byt i=>
   obtain⟨t,rfl⟩:=rx;cases y with
   | byt j=>obtain⟨t',rfl⟩:=ry;exact PySem.W.ne_bytes (a_M I q (congrArg not k_t))
   | _=>exact absurd (show false=true from a) s_e
 | _=>cases y <;> exact absurd (show false=true from a) s_e
theorem e_R:OpR X (compareOp .Lt) (rI0 λi j=> .bl (decide (i < j))):=p_T λ_ _ _ _ _ _ _ q=>lt_int q
theorem q_W:OpR X (compareOp .LtE) (rI0 λi j=> .bl (decide (i<=j))):=p_T λ_ _ _ _ _ _ _ q=>le_int q
theorem h_o:OpR X (compareOp .Gt) (rI0 λi j=> .bl (decide (j < i))):=p_T λ_ _ _ _ _ _ _ q=>gt_int q
theorem j_c:OpR X (compareOp .GtE) (rI0 λi j=> .bl (decide (j<=i))):=p_T λ_ _ _ _ _ _ _ q=>ge_int q
theorem a_q (b:Expr) {op:CmpOp} (h:op≠ .In:=by decide) (h2:op≠ .NotIn:=by decide):behindInMarks op b=false:=by
 have e1:(op == CmpOp.In)=false:=by cases op <;> first | rfl | exact absurd rfl h
 have e2:(op == CmpOp.NotIn)=false:=by cases op <;> first | rfl | exact absurd rfl h2
 cases b <;> simp[behindInMarks,e1,e2]
theorem c_n {op:CmpOp} {r:R2} (ho:OpR X (compareOp op) r) (ha:PE X a ta) (hb:PE X b tb) (hm:behindInMarks op b=false):PE X (.Compare a [op] [b] pos) (tOp r ta tb):=by
 intro pins s σ H Q I h;exact wpAny_Compare1 (q_K ha hb I h λv u s2 x y H2 I2 rx ry q=>ho pins s2 σ H2 x y v u Q I2 rx ry q) hm
def q_V (t:TE):TT:=λσ H Q=>t σ H λx H'=>∃k,x= .bl k/\Q k H'
theorem a_m {op:CmpOp} {r:R2} (ho:OpR X (compareOp op) r) (ha:PE X a ta) (hb:PE X b tb) (hm:behindInMarks op b=false):PT X (.Compare a [op] [b] pos) (q_V (tOp r ta tb)):=by
 intro pins s σ H Q I h
 refine wpAny_isTrue_Compare1 (thn (ha pins s σ H _ I h) λv g ⟨x,p,t,d,m⟩=>thn (hb pins g σ p _ t m) λu i ⟨y,f,o,q,A⟩=>
  thn (ho pins i σ f x y v u _ o d q A) λc B ⟨z,j,n,w,k,e,l⟩=> ?_) hm
 subst e;cases w;exact wpAny_truthy_bool ⟨j,n,l⟩
theorem e_j:(sizeLine:Nat) < 2 ^ 63:=by rw[sizeLine_eq];decide
theorem e_8:OpR X (binaryOp .Add) (λx y H Q=>∃i j,x= .str i/\y= .str j/\i.length+j.length<=sizeLine/\Q (.str (i++j)) H):=by
 intro pins s σ H x y v u Q I rx ry h;obtain⟨i,j,rfl,rfl,hz,q⟩:=h;obtain⟨t,rfl⟩:=rx;obtain⟨t',rfl⟩:=ry;exact add_str (λt' tk=>⟨.str (i++j),H,I.tok _,⟨_,rfl⟩,q⟩) hz
theorem i_r {x:V} {us:List Value} (r:Vals [x] us):∃u,us= [u]/\RelV x u:=by
 cases r with
 | cons r1 r2=>cases r2;exact⟨_,rfl,r1⟩
theorem o_F {x y:V} {us:List Value} (r:Vals [x,y] us):∃u w',us= [u,w']/\RelV x u/\RelV y w':=by
 cases r with
 | cons r1 r2=>
   cases r2 with
   | cons r3 r4=>cases r4;exact⟨_,_,rfl,r1,r3⟩
theorem j_h (hc:X.calm=true):d_a X (.builtin "max") (λxs H Q=>∃i j,xs= [.int i,.int j]/\Q (.int (if j > i then j else i)) H):=by
 intro pins s σ H xs us Q I r h;obtain⟨i,j,rfl,q⟩:=h;obtain⟨u,w',rfl,⟨t,rfl⟩,⟨t',rfl⟩⟩:=o_F r;refine max_two_ints (I.ok.hd hc) λb tk k=>⟨_,H,I.kept k,?_, q⟩;by_cases a:j > i
 ·rw[if_pos a,if_pos a];exact⟨_,rfl⟩
 ·rw[if_neg a,if_neg a];exact⟨_,rfl⟩
theorem k_E (hc:X.calm=true):d_a X (.builtin "min") (λxs H Q=>∃i j,xs= [.int i,.int j]/\Q (.int (if j < i then j else i)) H):=by
 intro pins s σ H xs us Q I r h;obtain⟨i,j,rfl,q⟩:=h;obtain⟨u,w',rfl,⟨t,rfl⟩,⟨t',rfl⟩⟩:=o_F r;refine min_two_ints (I.ok.hd hc) λb tk k=>⟨_,H,I.kept k,?_, q⟩;by_cases a:j < i
 ·rw[if_pos a,if_pos a];exact⟨_,rfl⟩
 ·rw[if_neg a,if_neg a];exact⟨_,rfl⟩
theorem b_T:d_a X (.type "int") (λxs H Q=>(∃i,xs= [.int i]/\Q (.int i) H)\/∃k,xs= [.bl k]/\Q (.int (if k then 1 else 0)) H):=by
 intro pins s σ H xs us Q I r h;rcases h with⟨i,rfl,q⟩ | ⟨k,rfl,q⟩
 ·obtain⟨u,rfl,t,rfl⟩:=i_r r
  exact call_int_int ⟨.int i,H,I,⟨_,rfl⟩,q⟩
 ·obtain⟨u,rfl,a⟩:=i_r r
  cases a;exact call_int_bool ⟨.int (if k then 1 else 0),H,I.tok _,⟨_,rfl⟩,q⟩
end
structure ObjM (h:Heap) (x dx C:Addr) (mA:Str->Option Value):Prop where
 obj:h.get? x=some (PySem.W.instObj C dx)
 ns:h.Ns1 dx mA
 ne:dx≠x
theorem k_h {h:Heap} {dx:Addr} {mA:Str->Option Value} (n:h.Ns1 dx mA):∃od,h.get? dx=some od/\∀name,PySem.W.lookIn name od=some (mA name):=by
 obtain⟨o,es,ep,d,g,i,_,c⟩:=n;refine⟨o,d,λname=> ?_⟩;have e:=c name;unfold nsFind findBy at e;rw[<-Array.find?_toList] at e;unfold PySem.W.lookIn;rw[g];dsimp only;split
 ·rename_i y q
  rw[q] at e;exact congrArg some e
 ·rename_i q
  rw[q] at e
  have a:es.toList.any (·.refKey)=false:=by
   rw[List.any_eq_false];intro y f;obtain⟨z,t,b⟩:=i y (Array.mem_toList_iff.mp f);simp[DictEntry.refKey,b]
  have a':¬ es.toList.any (·.refKey)=true:=by rw[a];exact s_e
  rw[if_neg a'];exact congrArg some e
theorem ObjM.look {h:Heap} {x dx C:Addr} {mA:Str->Option Value} (I:ObjM h x dx C mA):∃od,PySem.W.InstAt h x (PySem.W.instObj C dx) C (some od)/\∀name,PySem.W.lookIn name od=some (mA name):=
 let ⟨od,ho,hl⟩:=k_h I.ns
 ⟨od,⟨I.obj,rfl,rfl,ho⟩,hl⟩
section
variable {prog:Program} {w:World} {A:Around} {E:Value->Shared->Prop} {s:Shared} {K:PySem.W.Frag} {x dx C f:Addr} {mA:Str->Option Value} {name:Str} {v:Value}
theorem n_K {expr:Bool} {Q:Value->Shared->Prop} (X:K.In s.heap) (I:ObjM s.heap x dx C mA) (hg:PySem.W.plainGet K C name=true) (hh:PySem.W.hasDictIn K C=true)
 (ha:PySem.W.findIn K (.ref C) name=some none) (hv:mA name=some v) (hv':PySem.W.handedIn v=true) (h:Q v { s with toks:=s.toks+1 }):
 wpAny (model prog w) A (getAttr (.ref x) name expr) Q E s:=by
 obtain⟨od,J,a⟩:=I.look;exact PySem.W.get_value X J (PySem.W.plainGet_of hg).1 (PySem.W.findObj_own hh ha rfl (by rw[a,hv])) hv' h
theorem l_e {pl:Sem Bool} {Q:Value×List Value->Shared->Prop} (X:K.In s.heap) (I:ObjM s.heap x dx C mA) (hg:PySem.W.plainGet K C name=true)
 (hf:PySem.W.findIn K (.ref C) name=some (some (.ref f))) (ht:PySem.W.isFn K (.ref f)=true) (hv:mA name=none) (h:Q (.ref f, [.ref x]) s):
 wpAny (model prog w) A (getMethod (.ref x) name pl) Q E s:=by
 obtain⟨od,J,a⟩:=I.look;exact PySem.W.method_fn X J (PySem.W.plainGet_of hg).1 (PySem.W.plainGet_of hg).2 hf (beq_iff_eq.mp ht) (by show (PySem.W.lookIn name od).map (·.isSome)=some false;rw[a,hv];rfl) h
theorem m_Z {ns:List Str} {Q:Unit->Shared->Prop} (X:K.In s.heap) (I:ObjM s.heap x dx C mA)
 (hs:PySem.W.findIn K (.ref C) "__setattr__"=some (some (.builtin "object.__setattr__"))) (hp:PySem.W.plainOver K C=true) (ht:PySem.W.takerIn K C name=some none) (hh:PySem.W.hasDictIn K C=true)
 (hw:PySem.Within mA ns) (hsz:ns.length<=sizeLine)
 (h:∀h',ObjM h' x dx C (λy=>if y=name then some v else mA y)->Heap.SameBut dx s.heap h'->Q () { s with heap:=h',toks:=s.toks+2 }):
 wpAny (model prog w) A (setAttr (.ref x) name v) Q E s:=by
 obtain⟨od,J,l⟩:=I.look;refine PySem.W.set_plain X J hs (PySem.W.osa_open (s:={ s with toks:=s.toks+1 }) (r:=none) X J hp ht λb=> ?_);obtain⟨cd,j,i⟩:=PySem.W.any_some hh;have k:s.heap.get? x=some ⟨.ref C,some dx,.plain,#[]⟩:=I.obj;refine wpAny_bind (wpAny_pure (wpAny_bind (wpAny_bind (wpAny_loadPart k (wpAny_bind (PySem.W.Looks.here (s:={ s with toks:=s.toks+1 }) (PySem.W.looks_clsIn X j) ?_))))));rw[i];refine wpAny_pure (a:=some dx) (wpAny_bind (wpAny_pure (wpAny_bind ?_)));refine wpAny_nsSet1 (s:={ s with toks:=s.toks+1 }) I.ns λh' d c=> ?_;obtain⟨oD,esD,epD,e,g,f⟩:=d.count (PySem.Within.cons name v hw);refine wpAny_bind (wpAny_lookBehind e (by rw[g];exact pastItsLine_dict (s_i f (by rw[r_3];omega))) ?_);exact wpAny_pure (h _ ⟨(c.2 _ (Ne.symm I.ne)).trans I.obj,d,I.ne⟩ c)
theorem l_T {R:Result->Shared->Prop} {vs:List Value} {kw:List (Str×Value)} (X:K.In s.heap) (hm:PySem.W.makesIn K C=true)
 (hi:PySem.W.findIn K (.ref C) "__init__"=some (some (.ref f))) (hf:PySem.W.typeIn K (.ref f)=some (.type "function"))
 (h:codeAny (model prog w) (A.under (.builtin "type.__call__" ⟨.ref C::vs,kw⟩)) (.call (.ref f) ⟨.ref (s.heap.objs.size+1)::vs,kw⟩) (PySem.W.InitBack (s.heap.objs.size+1) R)
   { s with heap:=(s.heap.push PySem.W.emptyDict).push (PySem.W.instObj C s.heap.objs.size) }):
 codeAny (model prog w) A (.call (.ref C) ⟨vs,kw⟩) R s:=by
 obtain⟨a,g,d,t,os⟩:=s;exact PySem.W.make_core (PySem.W.makes_of X hm) (PySem.W.looks_findIn X hi) (λself=>PySem.W.bind_fn X self hf) (.inl rfl) h
end
def d_z (f:Str) (v:V):List (Str×V)->List (Str×V)
 | []=> [(f,v)]
 | (g,x)::r=>if g=f then (g,v)::r else (g,x)::d_z f v r
theorem b_m (f g:Str) (v:V):∀fs:List (Str×V),(d_z f v fs).lookup g=if g=f then some v else fs.lookup g
 | []=>by
   show List.lookup g [(f,v)]=_;by_cases h:g=f
   ·have a:(g == f)=true:=beq_iff_eq.mpr h
    simp only[List.lookup,a,if_pos h]
   ·have a:(g == f)=false:=beq_eq_false_iff_ne.mpr h
    simp only[List.lookup,a,if_neg h]
 | (k,x)::r=>by
   have ih:=b_m f g v r;rw[show d_z f v ((k,x)::r)=(if k=f then (k,v)::r else (k,x)::d_z f v r) from rfl];by_cases b:k=f
   ·rw[if_pos b]
    by_cases h:g=k
    ·have a:(g == k)=true:=beq_iff_eq.mpr h
     simp only[List.lookup,a,if_pos (h.trans b)]
    ·have a:(g == k)=false:=beq_eq_false_iff_ne.mpr h
     simp only[List.lookup,a,if_neg (λe:g=f=>h (e.trans b.symm))]
   ·rw[if_neg b]
    by_cases h:g=k
    ·have a:(g == k)=true:=beq_iff_eq.mpr h
     simp only[List.lookup,a,if_neg (λe:g=f=>b (h.symm.trans e))]
    ·have a:(g == k)=false:=beq_eq_false_iff_ne.mpr h
     simp only[List.lookup,a];exact ih
theorem e_w (f:Str) (v:V):∀fs:List (Str×V),f∈(d_z f v fs).map (·.1)/\∀g,g∈fs.map (·.1)->g∈(d_z f v fs).map (·.1)
 | []=>⟨by simp[d_z],λg h=>by simp at h⟩
 | (k,x)::r=>by
   obtain⟨i1,b⟩:=e_w f v r;rw[show d_z f v ((k,x)::r)=(if k=f then (k,v)::r else (k,x)::d_z f v r) from rfl];by_cases a:k=f
   ·rw[if_pos a]
    subst a;exact⟨by simp,λg h=>by simpa using h⟩
   ·rw[if_neg a]
    refine⟨?_, λg h=> ?_⟩
    ·rw[s_c]
     exact r_0 _ i1
    ·rw[s_c] at h ⊢
     rcases r_8.mp h with e | e
     ·exact r_8.mpr (.inl e)
     ·exact r_0 _ (b g e)
theorem e_E (f:Str) (v:V):∀fs:List (Str×V),(d_z f v fs).length<=fs.length+1
 | []=>by simp[d_z]
 | (k,x)::r=>by
   have ih:=e_E f v r;rw[show d_z f v ((k,x)::r)=(if k=f then (k,v)::r else (k,x)::d_z f v r) from rfl];by_cases hk:k=f
   ·rw[if_pos hk,r_3,r_3];omega
   ·rw[if_neg hk,r_3,r_3];omega
theorem RelO.some_of {v:V} {o:Option Value} (r:RelO (some v) o):∃u,o=some u/\RelV v u:=by
 cases o with
 | none=>exact (show False from r).elim
 | some u=>exact⟨u,rfl,r⟩
theorem RelO.none_of {o:Option Value} (r:RelO none o):o=none:=by
 cases o with
 | none=>rfl
 | some u=>exact (show False from r).elim
theorem k_x {v:V} {u:Value} (r:RelV v u):PySem.W.handedIn u=true:=by
 cases v with
 | non=>cases (show u=Value.none from r);rfl
 | bl b=>cases (show u=Value.bool b from r);rfl
 | int i=>obtain⟨t,e⟩:=(show ∃t,u=Value.int i t from r);cases e;rfl
 | str x=>obtain⟨t,e⟩:=(show ∃t,u=Value.str x t from r);cases e;rfl
 | byt b=>obtain⟨t,e⟩:=(show ∃t,u=Value.bytes b t from r);cases e;rfl
 | flt b=>obtain⟨t,e⟩:=(show ∃t,u=Value.float b t from r);cases e;rfl
 | ref a=>cases (show u=Value.ref a from r);rfl
 | ty n=>cases (show u=Value.type n from r);rfl
section
variable {P:Program} {w:World} {H H':Hp} {h h':Heap} {a C dx:Addr} {fs fs':List (Str×V)}
theorem f_s (hok:HOk P w H h) (e:H a=some (.ins C dx fs)):∃mA,ObjM h a dx C mA/\(∀f,RelO (fs.lookup f) (mA f))/\PySem.Within mA (fs.map (·.1))/\fs.length<=1000/\H dx=some (.own a):=by
 obtain⟨d,z,ne,ob,mA,n,r,q⟩:=(show ObjOk P w H h a (.ins C dx fs) from hok a _ e);exact⟨mA,⟨ob,n,ne⟩,r,q,z,d⟩
end
structure Cls (K:PySem.W.Frag) (C:Addr):Prop where
 pg:PySem.W.plainGet K C Str.empty=true
 hd:PySem.W.hasDictIn K C=true
 po:PySem.W.plainOver K C=true
 sa:PySem.W.findIn K (.ref C) "__setattr__"=some (some (.builtin "object.__setattr__"))
theorem Cls.get {K:PySem.W.Frag} {C:Addr} (c:Cls K C) (f:Str):PySem.W.plainGet K C f=true:=c.pg
def NoAttr (K:PySem.W.Frag) (C:Addr) (f:Str):Prop:=PySem.W.findIn K (.ref C) f=some none
theorem NoAttr.taker {K:PySem.W.Frag} {C:Addr} {f:Str} (n:NoAttr K C f):PySem.W.takerIn K C f=some none:=by
 unfold PySem.W.takerIn;rw[show PySem.W.findIn K (.ref C) f=some none from n];rfl
structure p_y (K:PySem.W.Frag) (C:Addr) (m:Str) (f:Addr):Prop where
 at_:PySem.W.findIn K (.ref C) m=some (some (.ref f))
 fn:PySem.W.isFn K (.ref f)=true
 kp:PySem.W.keepIn K (.ref f)=true
section
variable {X:Cx} {pins:List (Addr×Obj)} {σ:St} {H:Hp} {s:Shared} {a C dx:Addr} {fs:List (Str×V)} {f:Str} {v:V} {A:Around} {E:Value->Shared->Prop}
theorem i_k {b:Bool} {Q:Value->Shared->Prop} (I:Inv X pins σ H s) (e:H a=some (.ins C dx fs)) (c:Cls X.K C) (n:NoAttr X.K C f) (l:fs.lookup f=some v)
 (h:∀u s',Inv X pins σ H s'->RelV v u->Q u s'):wpAny (model X.prog X.w) A (getAttr (.ref a) f b) Q E s:=by
 obtain⟨mA,O,r,_,_,_⟩:=f_s I.hok e;obtain⟨u,d,ru⟩:=RelO.some_of (v:=v) (o:=mA f) (by rw[<-l];exact r f);exact n_K I.kIn O (c.get f) c.hd n d (k_x ru) (h u _ (I.tok _) ru)
theorem d_F {m:Str} {g:Addr} {pl:Sem Bool} {Q:Value×List Value->Shared->Prop} (I:Inv X pins σ H s) (e:H a=some (.ins C dx fs)) (c:Cls X.K C) (k:p_y X.K C m g) (l:fs.lookup m=none)
 (h:Q (.ref g, [.ref a]) s):wpAny (model X.prog X.w) A (getMethod (.ref a) m pl) Q E s:=by
 obtain⟨mA,O,r,_,_,_⟩:=f_s I.hok e;have b:mA m=none:=RelO.none_of (by rw[<-l];exact r m);exact l_e I.kIn O (c.get m) k.at_ k.fn b h
theorem i_w {y:V} {u:Value} {Q:Unit->Shared->Prop} (I:Inv X pins σ H s) (e:H a=some (.ins C dx fs)) (c:Cls X.K C) (n:NoAttr X.K C f) (hl:fs.length < 1000) (ry:RelV y u)
 (h:∀s',Inv X pins σ (upd H a (.ins C dx (d_z f y fs))) s'->Q () s'):wpAny (model X.prog X.w) A (setAttr (.ref a) f u) Q E s:=by
 obtain⟨mA,O,r,wi,_,d⟩:=f_s I.hok e;have i:(fs.map (·.1)).length<=sizeLine:=by rw[r_X,sizeLine_eq];omega
 refine m_Z I.kIn O c.sa c.po n.taker c.hd wi i λl O' sb=>h _ ?_;have hd:∃o,l.get? dx=some o:=let ⟨o,_,_,e',_⟩:=O'.ns;⟨o,e'⟩;refine I.write (x:=a) (e:=dx) (by rw[e];exact True.intro) (.inr d) (λb q k z=>(sb.2 b k).trans z) hd ?_;refine⟨by rw[a_i O.ne];exact d,?_, O.ne,O'.obj,_,O'.ns,λg=> ?_, λg j=> ?_⟩
 ·have:=e_E f y fs;omega
 ·show RelO ((d_z f y fs).lookup g) (if g=f then some u else mA g)
  rw[b_m];by_cases q:g=f
  ·rw[if_pos q,if_pos q];exact ry
  ·rw[if_neg q,if_neg q];exact r g
 ·by_cases q:g=f
  ·rw[q];exact (e_w f y fs).1
  ·refine (e_w f y fs).2 g (wi g λz=>j ?_)
   show (if g=f then some u else mA g)=none;rw[if_neg q];exact z
theorem Inv.made (I:Inv X pins σ H s):Inv X pins σ (upd (upd H s.heap.objs.size (.own (s.heap.objs.size+1))) (s.heap.objs.size+1) (.ins C s.heap.objs.size []))
 { s with heap:=(s.heap.push PySem.W.emptyDict).push (PySem.W.instObj C s.heap.objs.size) }:=by
 have c:(s.heap.push PySem.W.emptyDict).get? s.heap.objs.size=some PySem.W.emptyDict:=Heap.get?_push_size s.heap rfl
 have f:((s.heap.push PySem.W.emptyDict).push (PySem.W.instObj C s.heap.objs.size)).get? (s.heap.objs.size+1)=some (PySem.W.instObj C s.heap.objs.size):=by
  have:=Heap.get?_push_size (s.heap.push PySem.W.emptyDict) (o:=PySem.W.instObj C s.heap.objs.size) rfl
  rwa [Heap.size_push] at this
 have d:(s.heap.push PySem.W.emptyDict).Ns s.heap.objs.size (λ_=>none):=⟨PySem.W.emptyDict,#[],_,c,rfl,(λe h=>absurd h (by simp)),λ_=>rfl⟩;have i:=I.laid (a:=s.heap.objs.size) (o:= .own (s.heap.objs.size+1)) (h':=s.heap.push PySem.W.emptyDict) (t':=s.toks) (λb u q=>Heap.get?_push_of_some _ q) (r_6 _) ⟨_,c⟩;refine i.laid (a:=s.heap.objs.size+1) (o:= .ins C s.heap.objs.size []) (t':=s.toks) (λb u q=>Heap.get?_push_of_some _ q) (Nat.le_of_eq (Heap.size_push _ _)) ?_;have ne:s.heap.objs.size≠s.heap.objs.size+1:=s_l (Nat.lt_succ_self _);refine⟨by rw[a_i ne,a_b],s_p _,ne,f,λ_=>none,(Heap.Ns1.of_empty d).at λo q=>Heap.get?_push_of_some _ q,λ_=>True.intro,λy g=>absurd rfl g⟩
theorem n_V {prog:Program} {w:World} {env:Env} {e:Expr} {f:Str} {pos:Pos} {s:Shared} {Q:Value->Shared->Prop} (hb:attributeBase e f env (eval e env)=eval e env)
 (h:wpAny (model prog w) A (eval e env) (λo s₁=>wpAny (model prog w) A (getAttr o f true) Q E s₁) E s):wpAny (model prog w) A (eval (.Attribute e f pos) env) Q E s:=
 Attribute_any_ h (by rw[arm_eval_Attribute,hb])
end
def r_C (K:PySem.W.Frag) (ta:TE) (f:Str):TE:=λσ H Q=>ta σ H λx H1=>∃a C dx fs v,x= .ref a/\H1 a=some (.ins C dx fs)/\Cls K C/\NoAttr K C f/\fs.lookup f=some v/\Q v H1
def r_V (K:PySem.W.Frag) (ta tv:TE) (f:Str):TS:=λD σ H=>tv σ H λy H1=>ta σ H1 λx H2=>∃a C dx fs,x= .ref a/\H2 a=some (.ins C dx fs)/\Cls K C/\NoAttr K C f/\fs.length < 1000/\
 D.nx σ (upd H2 a (.ins C dx (d_z f y fs)))
section
variable {X:Cx} {o e value:Expr} {f:Str} {pos pos' tpos:Pos} {ta tv:TE}
theorem a_E (he:PE X e ta) (hb:attributeBase e f X.env (eval e X.env)=eval e X.env):PE X (.Attribute e f pos) (r_C X.K ta f):=by
 intro pins s σ H Q I h;refine n_V hb (thn (he pins s σ H _ I h) λu s1 ⟨x,H1,I1,rx,a,C,dx,fs,v,ex,ea,c,n,l,q⟩=> ?_);subst ex;obtain rfl:u=Value.ref a:=rx;exact i_k I1 ea c n l λu' s2 I2 ru=>⟨v,H1,I2,ru,q⟩
theorem d_u (ha:PE X o ta) (hv:PE X value tv) (hs:swapsWith value (some (.Attribute o f pos')) pos.line X.env=pure false):PS X (.Assign [.Attribute o f pos'] value pos) (r_V X.K ta tv f):=by
 intro pins s σ H D I h;refine plainObj_wpAny_Assign_Attribute (thn (hv pins s σ H _ I h) λu b ⟨y,g,i,ry,q⟩=>thn (ha pins b σ g _ i q) λov m ⟨x,k,e,rx,a,C,dx,fs,ex,ea,c,n,l,j⟩=> ?_) hs;subst ex;obtain rfl:ov=Value.ref a:=rx;exact i_w e ea c n l ry λp d=>⟨σ,_,d,j⟩
theorem m_T {pl:Sem Bool} {m:Str} {apos:Pos} {args:List Expr} {pins:List (Addr×Obj)} {s:Shared} {σ:St} {H:Hp} {Q:Value->Shared->Prop} {te:TE} (he:PE X e te) (I:Inv X pins σ H s)
 (h:te σ H fun x H1=>∃a C dx fs g,x= .ref a∧H1 a=some (.ins C dx fs)∧Cls X.K C∧p_y X.K C m g∧fs.lookup m=none∧
   ∀s1,Inv X pins σ H1 s1->wpAny (model X.prog X.w) X.A (callWith pos (.ref g) [.ref a] (backTo pos (starEach args X.env)) (backToKw pos (keywordEach [] X.env))) Q X.xe s1)
 (ht:eval (.Call (.Attribute e m apos) args [] pos) X.env=(do
   let ov<-eval e X.env
   standAt apos.atName
   let (f,first)<-holding [ov] (getMethod ov m pl)
   callWith pos f first (backTo pos (starEach args X.env)) (backToKw pos (keywordEach [] X.env)))):
 wpAny (model X.prog X.w) X.A (eval (.Call (.Attribute e m apos) args [] pos) X.env) Q X.xe s:=by
 refine PySem.W.methodCall_KW (pl:=pl) (thn (he pins s σ H _ I h) λu s1 ⟨x,H1,b,rx,a,C,dx,fs,g,ex,ea,c,k,l,q⟩=> ?_) ht;subst ex;obtain rfl:u=Value.ref a:=rx;exact d_F b ea c k l (q s1 b)
end
section
variable {X:Cx} {pins:List (Addr×Obj)} {σ:St} {H:Hp} {s:Shared} {A:Around} {E:Value->Shared->Prop} {Q:Value->Shared->Prop} {c:Value} {b:Bool}
inductive g_0 (K:PySem.W.Frag) (H:Hp):V->Value->Prop where
 | non:g_0 K H .non (.type "NoneType")
 | bl (x:Bool):g_0 K H (.bl x) (.type "bool")
 | int (i:Int):g_0 K H (.int i) (.type "int")
 | str (x:Str):g_0 K H (.str x) (.type "str")
 | flt (x:UInt64):g_0 K H (.flt x) (.type "float")
 | lst {a:Addr} {xs:List V} (e:H a=some (.lst xs)):g_0 K H (.ref a) (.type "list")
 | frz {a:Addr} {o:Obj} {xs:List V} (e:H a=some (.frz o (.lst xs))):g_0 K H (.ref a) (.type "list")
 | tup {a:Addr} {xs:List V} (e:H a=some (.tup xs)):g_0 K H (.ref a) (.type "tuple")
 | dK {a:Addr} {kvs:List (Key×V)} (e:H a=some (.dK kvs)):g_0 K H (.ref a) (.type "dict")
 | dT {a:Addr} {kvs:List (List Key×V)} (e:H a=some (.dT kvs)):g_0 K H (.ref a) (.type "dict")
 | ins {a C dx:Addr} {fs:List (Str×V)} (e:H a=some (.ins C dx fs)) (cl:Cls K C) (ha:PySem.W.findIn K (.ref C) "__class__"=some (some (.builtin "object.__class__")))
    (hn:PySem.W.specialIn K (.builtin "object.__class__") "__get__"=some (some (.builtin "getset_descriptor.__get__"))) (htk:PySem.W.takesIn K (.builtin "object.__class__")=some true)
    (hm:PySem.W.mroIn K C (.type "object")=some true):g_0 K H (.ref a) (.ref C)
theorem j_g {x:V} {u t:Value} (I:Inv X pins σ H s) (rx:RelV x u) (ty:g_0 X.K H x t) (e:PySem.W.kitOne X.K t c=some b) (h:∀tk,Q (.bool b) { s with toks:=tk }):
 wpAny (model X.prog X.w) A (call (.builtin "isinstance") [u,c]) Q E s:=by
 cases ty with
 | non=>cases (show u=Value.none from rx);exact PySem.W.kia_one PySem.W.kitx_none I.kIn True.intro e (λz=>nomatch z) h
 | bl y=>cases (show u=Value.bool y from rx);exact PySem.W.kia_one PySem.W.kitx_bool I.kIn True.intro e (λz=>nomatch z) h
 | int i=>obtain⟨t,q⟩:=(show ∃t,u=Value.int i t from rx);cases q;exact PySem.W.kia_one PySem.W.kitx_int I.kIn True.intro e (λz=>nomatch z) h
 | str y=>obtain⟨t,q⟩:=(show ∃t,u=Value.str y t from rx);cases q;exact PySem.W.kia_one PySem.W.kitx_str I.kIn True.intro e (λz=>nomatch z) h
 | flt y=>obtain⟨t,q⟩:=(show ∃t,u=Value.float y t from rx);cases q;exact PySem.W.kia_one PySem.W.kitx_float I.kIn True.intro e (λz=>nomatch z) h
 | @lst a xs ea=>
   cases (show u=Value.ref a from rx);obtain⟨_,_,n,_,d⟩:=(show ObjOk X.prog X.w H s.heap a (.lst xs) from I.hok a _ ea);exact PySem.W.kia_one PySem.W.kitx_list I.kIn ⟨_,d,rfl⟩ e (λz=>nomatch z) h
 | @frz a ob xs ea=>
   cases (show u=Value.ref a from rx);obtain⟨_,_,_,n,_,d⟩:=(show ObjOk X.prog X.w H s.heap a (.frz ob (.lst xs)) from I.hok a _ ea);exact PySem.W.kia_one PySem.W.kitx_list I.kIn ⟨_,d,rfl⟩ e (λz=>nomatch z) h
 | @tup a xs ea=>
   cases (show u=Value.ref a from rx);obtain⟨_,_,_,p⟩:=(show ObjOk X.prog X.w H s.heap a (.tup xs) from I.hok a _ ea);obtain⟨o,d,f,_⟩:=p;exact PySem.W.kia_one PySem.W.kitx_tuple I.kIn ⟨o,d,f⟩ e (λz=>nomatch z) h
 | @dK a kvs ea=>
   cases (show u=Value.ref a from rx);obtain⟨_,_,vs,_,p⟩:=(show ObjOk X.prog X.w H s.heap a (.dK kvs) from I.hok a _ ea);obtain⟨o,es,ep,d,f,_⟩:=p;exact PySem.W.kia_one PySem.W.kitx_dict I.kIn ⟨o,d,f.1⟩ e (λz=>nomatch z) h
 | @dT a kvs ea=>
   cases (show u=Value.ref a from rx);obtain⟨_,_,xs,_,o,es,ep,d,f,_⟩:=(show ObjOk X.prog X.w H s.heap a (.dT kvs) from I.hok a _ ea);exact PySem.W.kia_one PySem.W.kitx_dict I.kIn ⟨o,d,f.1⟩ e (λz=>nomatch z) h
 | @ins a C dx fs ea cl ha hn htk hm=>
   cases (show u=Value.ref a from rx);obtain⟨mA,O,_⟩:=f_s I.hok ea;obtain⟨od,J,_⟩:=O.look;exact PySem.W.kia_one (PySem.W.kitx_own (cl.get _) cl.hd ha hn htk hm) I.kIn J e (λz=>nomatch z) h
end
structure Room (k:Nat) (A:Around):Prop where
 hd:A.handled=none
 dp:A.depth+3 * k+5 < recursionLimit
 un:A.units+16 * k+200 < cLine
theorem Room.mono {j k:Nat} {A:Around} (r:Room k A) (h:j<=k):Room j A:=⟨r.hd,by have:=r.dp;omega,by have:=r.un;omega⟩
theorem Room.deeper {k:Nat} {A:Around} (r:Room (k+1) A) (env:Env):Room k (A.deeper env):=
 ⟨r.hd,by have:=r.dp;show A.depth+1+3 * k+5 < _;omega,by have:=r.un;show A.units+3+16 * k+200 < _;omega⟩
theorem i_G {A:Around} {C:Addr} {us:List Value} {kw:List (Str×Value)}:(A.under (.builtin "type.__call__" ⟨.ref C::us,kw⟩)).depth=A.depth+1:=by
 first | rfl | simp[Around.under,Code.weight,Code.isCreation,Code.isGuard,Code.isCaller,Code.frames,Code.isFrame,guardIds]
theorem i_B {A:Around} {C:Addr} {us:List Value} {kw:List (Str×Value)}:(A.under (.builtin "type.__call__" ⟨.ref C::us,kw⟩)).units=A.units+1:=by
 first | rfl | simp[Around.under,Code.cUnits,Code.frames,Code.isFrame]
theorem Room.make {k:Nat} {A:Around} (r:Room (k+1) A) (C:Addr) (us:List Value) (kw:List (Str×Value)):Room k (A.under (.builtin "type.__call__" ⟨.ref C::us,kw⟩)):=
 ⟨r.hd,by have:=r.dp;rw[i_G];omega,by have:=r.un;rw[i_B];omega⟩
theorem Room.depth {k:Nat} {A:Around} (r:Room k A):A.depth < recursionLimit:=by have:=r.dp;omega
theorem Room.units {k:Nat} {A:Around} (r:Room k A):A.units+64 < cLine:=by have:=r.un;omega
theorem Room.units0 {k:Nat} {A:Around} (r:Room k A):A.units < cLine:=by have:=r.un;omega
def p_0:TA:=λ_ H Q=>Q [] H
def q_L (ta:TE) (tr:TA):TA:=λσ H Q=>ta σ H λx H1=>tr σ H1 λxs H2=>Q (x::xs) H2
section
variable {X:Cx} {e:Expr} {es:List Expr} {te:TE} {t:TA} {pos:Pos}
theorem a_d:PA X [] p_0:=λ_ _ _ _ H Q I h=>Calls.spliced_nil ⟨[],H,I,.nil,h⟩
theorem a_a (ha:PE X e te) (hr:PA X es t) (hs:starEach (e::es) X.env=(false,eval e X.env)::starEach es X.env:=by rfl):PA X (e::es) (q_L te t):=by
 intro pos pins s σ H Q I h;rw[hs];show wpAny _ _ (spliced ((false,eval e X.env)::backTo pos (starEach es X.env))) _ _ s;refine Calls.spliced_cons (thn (ha pins s σ H _ I h) λu c ⟨x,g,j,a,d⟩=> ?_);exact thn (hr pos pins c σ g _ j d) λus l ⟨xs,b,f,i,k⟩=>⟨x::xs,b,f,.cons a i,k⟩
def r_E (t:TA):TE:=λσ H Q=>t σ H λxs H1=>xs.length<=sizeLine/\∀p,H1 p=none->Q (.ref p) (upd H1 p (.tup xs))
def r_y (t:TA):TE:=λσ H Q=>t σ H λxs H1=>xs.length<=sizeLine/\∀p,H1 p=none->Q (.ref p) (upd H1 p (.lst xs))
theorem a_H {x1} (h:PA X es t):PE X (.Tuple es x1 pos) (r_E t):=by
 intro pins s σ H Q I g;refine wpAny_Tuple_spliced (thn (h pos pins s σ H _ I g) λus a ⟨xs,d,c,r,z,q⟩=>⟨by rw[<-r.length];exact z,?_⟩);have f:d a.heap.objs.size=none:=c.hok.fresh (r_6 _);refine⟨.ref a.heap.objs.size,upd d a.heap.objs.size (.tup xs),c.laid (t':=a.toks) (λb u e=>Heap.get?_push_of_some _ e) (r_6 _) ?_, rfl,q _ f⟩;exact⟨z,us,r,⟨_,Heap.get?_push_size _ rfl,rfl,_,rfl⟩⟩
theorem a_P (h:PA X es t):PE X (.List es pos) (r_y t):=by
 intro pins s σ H Q I g;refine wpAny_List_spliced (thn (h pos pins s σ H _ I g) λus a ⟨xs,d,c,r,z,q⟩=>⟨by rw[<-r.length];exact z,?_⟩);have f:d a.heap.objs.size=none:=c.hok.fresh (r_6 _);refine⟨.ref a.heap.objs.size,upd d a.heap.objs.size (.lst xs),c.laid (t':=a.toks) (λb u e=>Heap.get?_push_of_some _ e) (r_6 _) ?_, rfl,q _ f⟩;exact⟨z,us,0,r,Heap.get?_push_size _ rfl⟩
end
abbrev Sp:=List V->Hp->VK->XK->Prop
abbrev CXT:=List Env->Hp->Shared->XK->Value->Shared->Prop
structure Env0 (P:Program) (w:World) (K:PySem.W.Frag) (mg:Str->Option Value) (base:Heap) (A:Around) (outer:List Env) (s:Shared) (H:Hp):Prop where
 frames:A.frames=some outer
 mod:Mod K mg base
 bs:∀b o,base.get? b=some o->s.heap.get? b=some o/\H b=none
 bsz:base.objs.size<=s.heap.objs.size
 funs:s.heap.FunFrames base outer
 frf:∀b∈frs outer,H b=none
 hok:HOk P w H s.heap
 bare:AllBare s.gens
def CE (outer:List Env) (P:Program) (w:World) (H:Hp) (s:Shared) (Q:VK) (u:Value) (s':Shared):Prop:=
 ∃v H',s'.os=s.os/\AllBare s'.gens/\Un (frs outer) [] H H' s.heap s'.heap/\HOk P w H' s'.heap/\RelV v u/\Q v H'
def CR (CX:CXT) (outer:List Env) (P:Program) (w:World) (H:Hp) (s:Shared) (Q:VK) (E:XK) (r:Result) (s':Shared):Prop:=
 match r with
 | .ok (.ret u)=>CE outer P w H s Q u s'
 | .ok _=>False
 | .error e=>CX outer H s E e s'
structure FnOk (P:Program) (w:World) (K:PySem.W.Frag) (mg:Str->Option Value) (base:Heap) (CX:CXT) (k:Nat) (f:Addr) (fd:FuncData) (ps:List Str) (sp:Sp):Prop where
 len:∀vs H Q E,sp vs H Q E->vs.length=ps.length
 run:∀(A:Around) (outer:List Env) (s:Shared) (H:Hp) (args:Args) (us:List Value) (vs:List V) (Q:VK) (E:XK),Room k A->Env0 P w K mg base A outer s H->BindsTo s fd args (ps.zip us)->Vals vs us->sp vs H Q E->
  codeAny (model P w) A (.call (.ref f) args) (CR CX outer P w H s Q E) s
theorem FnOk.imp {P:Program} {w:World} {K:PySem.W.Frag} {mg:Str->Option Value} {base:Heap} {CX:CXT} {k:Nat} {f:Addr} {fd:FuncData} {ps:List Str} {sp sp':Sp} (F:FnOk P w K mg base CX k f fd ps sp)
 (h:∀vs H Q E,sp' vs H Q E->sp vs H Q E):FnOk P w K mg base CX k f fd ps sp':=
 ⟨λvs H Q E q=>F.len vs H Q E (h _ _ _ _ q),λA outer s H args us vs Q E d e a c b=>F.run A outer s H args us vs Q E d e a c (h _ _ _ _ b)⟩
theorem Env0.make {P:Program} {w:World} {K:PySem.W.Frag} {mg:Str->Option Value} {base:Heap} {A:Around} {outer:List Env} {s:Shared} {H:Hp} (e:Env0 P w K mg base A outer s H) (C:Addr) (us:List Value) (kw:List (Str×Value)):
 Env0 P w K mg base (A.under (.builtin "type.__call__" ⟨.ref C::us,kw⟩)) outer s H:=⟨by first | exact e.frames | (simpa[Around.under,Code.envs,Code.isFrame,pushEnvs] using e.frames),e.mod,e.bs,e.bsz,e.funs,e.frf,e.hok,e.bare⟩
section
variable {X:Cx} {pins:List (Addr×Obj)} {σ:St} {H:Hp} {s s':Shared}
theorem Inv.env0 (I:Inv X pins σ H s):Env0 X.prog X.w X.K X.mg X.base X.A X.stack s H:=
 ⟨I.ok.frames,I.ok.mod,I.bs,s_i I.ok.bsz I.sz,I.stack,I.stkFree,I.hok,I.bare⟩
theorem Inv.after {Q:VK} {u:Value} (I:Inv X pins σ H s) (h:CE X.stack X.prog X.w H s Q u s'):EP X pins σ Q u s':=by
 obtain⟨v,H',os,bare,un,hok,r,q⟩:=h;obtain⟨hh,g,d,t,os'⟩:=s';obtain rfl:os'=s.os:=os;exact⟨v,H',I.call (h':=hh) (g':=g) (d':=d) (t':=t) (ch:= []) un hok bare (λb z=>absurd z (by simp)),r,q⟩
end
def p_n (sp:Sp) (dvs:List V) (E:XK) (t:TA):TE:=λσ H Q=>t σ H λvs H1=>sp (vs++dvs) H1 Q E
def o_4 (C:Addr) (m:Str) (sp:Sp) (dvs:List V) (E:XK) (ta:TE) (t:TA):TE:=λσ H Q=>ta σ H λx H1=>∃a dx fs,x= .ref a/\H1 a=some (.ins C dx fs)/\fs.lookup m=none/\
 t σ H1 λvs H2=>sp (x::(vs++dvs)) H2 Q E
def q_y (C:Addr) (sp:Sp) (dvs:List V) (E:XK) (t:TA):TE:=λσ H Q=>t σ H λvs H1=>∀x dx,H1 x=none->H1 dx=none->dx≠x->
 sp (.ref x::(vs++dvs)) (upd (upd H1 dx (.own x)) x (.ins C dx [])) (λv H2=>v= .non/\Q (.ref x) H2) E
def Binds (K:PySem.W.Frag) (fd:FuncData) (ps:List Str) (ds:List Value):Prop:=
 ∀(s:Shared) (us:List Value),K.In s.heap->(us++ds).length=ps.length->BindsTo s fd ⟨us, []⟩ (ps.zip (us++ds))
theorem Binds.all {K:PySem.W.Frag} {fd:FuncData} {ps:List Str} (h:∀us:List Value,us.length=ps.length->bindArgs fd ⟨us, []⟩=pure (ps.zip us)):Binds K fd ps []:=λs us _ hl=>by
 rw[s_u] at hl ⊢;exact .of_eq (h us hl)
def c_A (CX:CXT) (X:Cx) (E:XK):Prop:=∀(pins:List (Addr×Obj)) (σ:St) (H:Hp) (s:Shared) (e:Value) (s':Shared),Inv X pins σ H s->CX X.stack H s E e s'->X.xe e s'
section
variable {X:Cx} {CX:CXT} {k:Nat} {f C:Addr} {fd:FuncData} {ps:List Str} {sp:Sp} {dvs:List V} {ds:List Value} {E:XK} {x m:Str} {p pos apos:Pos} {e o:Expr} {es:List Expr} {ta:TE} {t:TA}
theorem f_6 {pins:List (Addr×Obj)} {σ:St} {H:Hp} {s:Shared} {Q:VK} {us:List Value} {vs:List V} (F:FnOk X.prog X.w X.K X.mg X.base CX k f fd ps sp) (hr:Room k X.A) (hb:Binds X.K fd ps ds) (hd:Vals dvs ds) (hx:c_A CX X E)
 (I:Inv X pins σ H s) (r:Vals vs us) (h:sp (vs++dvs) H Q E):wpAny (model X.prog X.w) X.A (call (.ref f) us) (EP X pins σ Q) X.xe s:=by
 have b:Vals (vs++dvs) (us++ds):=r.append hd;have c:(us++ds).length=ps.length:=by rw[<-b.length];exact F.len _ _ _ _ h
 refine wpAny_call (codeAny_mono (F.run X.A X.stack s H ⟨us, []⟩ (us++ds) (vs++dvs) Q E hr I.env0 (hb s us I.kIn c) b h) λr s' a=> ?_);cases r with
 | error e=>exact hx pins σ H s e s' I a
 | ok fl=>
   cases fl with
   | ret u=>exact I.after a
   | next=>exact False.elim a
   | brk=>exact False.elim a
   | cont=>exact False.elim a
theorem a_k (F:FnOk X.prog X.w X.K X.mg X.base CX k f fd ps sp) (hr:Room k X.A) (hg:Gl X x) (hm:X.mg x=some (.ref f)) (hk:PySem.W.keepIn X.K (.ref f)=true) (hb:Binds X.K fd ps ds) (hd:Vals dvs ds) (hx:c_A CX X E)
 (ha:PA X (e::es) t) (hdb:(x == ("__debug__":Str))=false:=by decide) (he:starEach (e::es) X.env=(false,eval e X.env)::starEach es X.env:=by rfl) (hpl:(backTo pos (starEach es X.env)).any (·.1)=false:=by rfl):
 PE X (.Call (.Name x p) (e::es) [] pos) (p_n sp dvs E t):=by
 intro pins s σ H Q I h;refine wpAny_Call_Name_kw (c_Y I hg hm ?_ hdb);refine PySem.W.callWith_K (h₀:=X.base) I.ok.mod.kin hk (thn (ha pos pins s σ H _ I h) λus b ⟨vs,c,a,r,q⟩=>⟨a.kIn,?_⟩) he hpl;exact f_6 F hr hb hd hx a r q
theorem d_d (F:FnOk X.prog X.w X.K X.mg X.base CX k f fd ps sp) (hr:Room k X.A) (hg:Gl X x) (hm:X.mg x=some (.ref f)) (hk:PySem.W.keepIn X.K (.ref f)=true) (hb:Binds X.K fd ps ds) (hd:Vals dvs ds) (hx:c_A CX X E)
 (hdb:(x == ("__debug__":Str))=false:=by decide):PE X (.Call (.Name x p) [] [] pos) (p_n sp dvs E p_0):=by
 intro pins s σ H Q I h;refine wpAny_Call_Name_kw (c_Y I hg hm ?_ hdb);exact PySem.W.callWith_K0 I.kIn hk (f_6 (us:= []) F hr hb hd hx I .nil h)
theorem a_Q {pl:Sem Bool} (he:PE X o ta) (c:Cls X.K C) (hm:p_y X.K C m f) (F:FnOk X.prog X.w X.K X.mg X.base CX k f fd ps sp) (hr:Room k X.A) (hb:Binds X.K fd ps ds) (hd:Vals dvs ds) (hx:c_A CX X E) (ha:PA X (e::es) t)
 (hst:starEach (e::es) X.env=(false,eval e X.env)::starEach es X.env:=by rfl) (hpl:(backTo pos (starEach es X.env)).any (·.1)=false:=by rfl)
 (ht:eval (.Call (.Attribute o m apos) (e::es) [] pos) X.env=(do
   let ov<-eval o X.env
   standAt apos.atName
   let (f,first)<-holding [ov] (getMethod ov m pl)
   callWith pos f first (backTo pos (starEach (e::es) X.env)) (backToKw pos (keywordEach [] X.env))):=by rfl):
 PE X (.Call (.Attribute o m apos) (e::es) [] pos) (o_4 C m sp dvs E ta t):=by
 intro pins s σ H Q I h;refine PySem.W.methodCall_KW (pl:=pl) (thn (he pins s σ H _ I h) λu g ⟨x,i,d,rx,a,dx,fs,ex,ea,l,q⟩=> ?_) ht;subst ex;obtain rfl:u=Value.ref a:=rx;refine d_F d ea c hm l ?_;refine PySem.W.callWith_K (first:= [.ref a]) (h₀:=X.base) I.ok.mod.kin hm.kp (thn (ha pos pins g σ i _ d q) λus p ⟨vs,n,b,r,j⟩=>⟨b.kIn,?_⟩) hst hpl;exact f_6 (us:= .ref a::us) (vs:= .ref a::vs) F hr hb hd hx b (.cons rfl r) j
theorem b_A {pl:Sem Bool} (he:PE X o ta) (c:Cls X.K C) (hm:p_y X.K C m f) (F:FnOk X.prog X.w X.K X.mg X.base CX k f fd ps sp) (hr:Room k X.A) (hb:Binds X.K fd ps ds) (hd:Vals dvs ds) (hx:c_A CX X E)
 (ht:eval (.Call (.Attribute o m apos) [] [] pos) X.env=(do
   let ov<-eval o X.env
   standAt apos.atName
   let (f,first)<-holding [ov] (getMethod ov m pl)
   callWith pos f first (backTo pos (starEach [] X.env)) (backToKw pos (keywordEach [] X.env))):=by rfl):
 PE X (.Call (.Attribute o m apos) [] [] pos) (o_4 C m sp dvs E ta p_0):=by
 intro pins s σ H Q I h;refine PySem.W.methodCall_KW (pl:=pl) (thn (he pins s σ H _ I h) λu d ⟨x,e,b,rx,a,dx,fs,ex,ea,l,q⟩=> ?_) ht;subst ex;obtain rfl:u=Value.ref a:=rx;refine d_F b ea c hm l ?_;exact PySem.W.callWith_K0 (first:= [.ref a]) b.kIn hm.kp (f_6 (us:= [.ref a]) (vs:= [.ref a]) F hr hb hd hx b (.cons rfl .nil) q)
structure Mk (K:PySem.W.Frag) (C f:Addr):Prop where
 makes:PySem.W.makesIn K C=true
 init:PySem.W.findIn K (.ref C) "__init__"=some (some (.ref f))
 fn:PySem.W.isFn K (.ref f)=true
 kp:PySem.W.keepIn K (.ref C)=true
theorem l_W {pins:List (Addr×Obj)} {σ:St} {H:Hp} {s:Shared} {Q:VK} {us:List Value} {vs:List V} (M:Mk X.K C f) (F:FnOk X.prog X.w X.K X.mg X.base CX k f fd ps sp) (hr:Room (k+1) X.A) (hb:Binds X.K fd ps ds) (hd:Vals dvs ds)
 (hx:c_A CX X E) (I:Inv X pins σ H s) (r:Vals vs us)
 (h:∀x dx,H x=none->H dx=none->dx≠x->sp (.ref x::(vs++dvs)) (upd (upd H dx (.own x)) x (.ins C dx [])) (λv H2=>v= .non/\Q (.ref x) H2) E):
 wpAny (model X.prog X.w) X.A (call (.ref C) us) (EP X pins σ Q) X.xe s:=by
 have c:=h (s.heap.objs.size+1) s.heap.objs.size (I.hok.fresh (Nat.le_succ _)) (I.hok.fresh (r_6 _)) (s_l (Nat.lt_succ_self _));have b:=Inv.made (C:=C) I;have d:Vals (V.ref (s.heap.objs.size+1)::(vs++dvs)) (Value.ref (s.heap.objs.size+1)::(us++ds)):= .cons rfl (r.append hd)
 have i:(Value.ref (s.heap.objs.size+1)::us++ds).length=ps.length:=by
  have e:=d.length;rw[F.len _ _ _ _ c] at e;exact e.symm
 refine wpAny_call (l_T (f:=f) I.kIn M.makes M.init (beq_iff_eq.mp M.fn) (codeAny_mono (F.run _ X.stack _ _ ⟨Value.ref (s.heap.objs.size+1)::us, []⟩ (Value.ref (s.heap.objs.size+1)::(us++ds)) _ _ E (hr.make C us [])
  (b.env0.make C us []) (hb _ (Value.ref (s.heap.objs.size+1)::us) b.kIn i) d c) λr s' a=> ?_))
 cases r with
 | error e=>exact hx pins σ _ _ e s' b a
 | ok fl=>
   cases fl with
   | ret u=>
     obtain⟨v,H',j,rv,ev,g⟩:=b.after a;subst ev;exact⟨rv,⟨V.ref (s.heap.objs.size+1),H',j,rfl,g⟩⟩
   | next=>exact False.elim a
   | brk=>exact False.elim a
   | cont=>exact False.elim a
theorem f_T (M:Mk X.K C f) (F:FnOk X.prog X.w X.K X.mg X.base CX k f fd ps sp) (hr:Room (k+1) X.A) (hg:Gl X x) (hm:X.mg x=some (.ref C)) (hb:Binds X.K fd ps ds) (hd:Vals dvs ds) (hx:c_A CX X E)
 (ha:PA X (e::es) t) (hdb:(x == ("__debug__":Str))=false:=by decide) (he:starEach (e::es) X.env=(false,eval e X.env)::starEach es X.env:=by rfl) (hpl:(backTo pos (starEach es X.env)).any (·.1)=false:=by rfl):
 PE X (.Call (.Name x p) (e::es) [] pos) (q_y C sp dvs E t):=by
 intro pins s σ H Q I h;refine wpAny_Call_Name_kw (c_Y I hg hm ?_ hdb);refine PySem.W.callWith_K (h₀:=X.base) I.ok.mod.kin M.kp (thn (ha pos pins s σ H _ I h) λus b ⟨vs,c,a,r,q⟩=>⟨a.kIn,?_⟩) he hpl;exact l_W M F hr hb hd hx a r q
end
section
variable {X:Cx} {CX:CXT} {k:Nat} {f C:Addr} {fd:FuncData} {ps ks:List Str} {sp:Sp} {E:XK} {x m:Str} {p pos apos kpos:Pos} {e o:Expr} {es:List Expr} {kws:List Keyword} {te ta:TE} {t tk:TA} {nm:Option Str}
variable {g:List Value->List Value->List Value} {gV:List V->List V->List V}
end
structure a_s (N P:List Str) (sc:Scope):Prop where
 kind:sc.kind= .function
 co:sc.isCoroutine=false
 gen:sc.isGenerator=false
 nd:N.Nodup
 pre:N.take P.length=P
 par:∀x∈P,sc.names.lookup x=some .local\/sc.names.lookup x=some .cell
 nofree:∀y∈sc.names,y.2≠ .free
theorem f_Z {kindOf:Str->Option NameKind} {x:Str}:∀{binds:List (Str×Value)} {m:Str->Option Value},(∀v,(x,v)∉binds)->bindL kindOf binds m x=m x
 | [],_,_=>rfl
 | (n,v)::r,m,h=>by
   unfold bindL;rw[f_Z λw hw=>h w (r_0 _ hw)];split
   ·have:x≠n:=by rintro rfl;exact h v r_1
    simp[this]
   ·rfl
theorem g_C {kindOf:Str->Option NameKind} {x:Str}:∀{binds:List (Str×Value)} {m:Str->Option Value},(∀v,(x,v)∉binds)->bindC kindOf binds m x=m x
 | [],_,_=>rfl
 | (n,v)::r,m,h=>by
   unfold bindC;rw[g_C λw hw=>h w (r_0 _ hw)];split
   ·rfl
   ·have:x≠n:=by rintro rfl;exact h v r_1
    simp[this]
theorem f_5 {kindOf:Str->Option NameKind} {x:Str} {v:Value}:∀{P:List Str} {vs:List Value} {i:Nat} {m:Str->Option Value},P.Nodup->P[i]? =some x->vs[i]? =some v->kindOf x=some .local->
 bindL kindOf (P.zip vs) m x=some v
 | [],_,_,_,_,h,_,_=>by simp at h
 | _::_, [],_,_,_,_,h,_=>by simp at h
 | p::P,w::vs,0,m,nd,h1,h2,hk=>by
   simp at h1 h2;subst h1;subst h2;show bindL kindOf ((p,w)::P.zip vs) m p=_;unfold bindL;rw[f_Z λv a=>(s_r.mp nd).1 (List.of_mem_zip a).1,if_pos hk];simp
 | p::P,w::vs,i+1,m,nd,h1,h2,hk=>by
   show bindL kindOf ((p,w)::P.zip vs) m x=_;unfold bindL;exact f_5 (i:=i) (s_r.mp nd).2 (by simpa using h1) (by simpa using h2) hk
theorem f_9 {kindOf:Str->Option NameKind} {x:Str} {v:Value}:∀{P:List Str} {vs:List Value} {i:Nat} {m:Str->Option Value},P.Nodup->P[i]? =some x->vs[i]? =some v->kindOf x≠some .local->
 bindC kindOf (P.zip vs) m x=some v
 | [],_,_,_,_,h,_,_=>by simp at h
 | _::_, [],_,_,_,_,h,_=>by simp at h
 | p::P,w::vs,0,m,nd,h1,h2,hk=>by
   simp at h1 h2;subst h1;subst h2;show bindC kindOf ((p,w)::P.zip vs) m p=_;unfold bindC;rw[g_C λv a=>(s_r.mp nd).1 (List.of_mem_zip a).1,if_neg hk];simp
 | p::P,w::vs,i+1,m,nd,h1,h2,hk=>by
   show bindC kindOf ((p,w)::P.zip vs) m x=_;unfold bindC;exact f_9 (i:=i) (s_r.mp nd).2 (by simpa using h1) (by simpa using h2) hk
def start (N:List Str) (vs:List V):St:=vs.map some++List.replicate (N.length - vs.length) none
def i_R (CX:CXT) (P:Program) (w:World) (K:PySem.W.Frag) (mg:Str->Option Value) (base:Heap) (N:List Str) (qual:Str) (scope:Scope) (f:Addr) (cd:Value) (A:Around) (outer:List Env) (s:Shared) (H:Hp) (E:XK):Cx where
 prog:=P
 w:=w
 K:=K
 mg:=mg
 base:=base
 A:=A.deeper (envOfC qual scope s.heap.objs.size f cd)
 N:=N
 s₀:=s
 H₀:=H
 env:=envOfC qual scope s.heap.objs.size f cd
 outer:=outer
 stack:=envOfC qual scope s.heap.objs.size f cd::outer
 ex:= []
 calm:=true
 fn:=λ_=>true
 pn:= []
 xe:=λe s'=>wpAny (model P w) (A.deeper (envOfC qual scope s.heap.objs.size f cd)) (leaving (envOfC qual scope s.heap.objs.size f cd) e) (λ_ s''=>CX outer H s E e s'') (λe' s''=>CX outer H s E e' s'') s'
theorem h_1 {sc:Scope} {n:Nat} {x:Str} (h:sc.names.lookup x=some .cell):∃c,(cellsFrom n sc.names []).lookup x=some c:=by
 have q:=PySem.W.cellsFrom_some sc.names n [] (.inl h);exact Option.isSome_iff_exists.mp q
theorem j_N {CX:CXT} {P:Program} {w:World} {K:PySem.W.Frag} {mg:Str->Option Value} {base:Heap} {N ps:List Str} {qual:Str} {scope:Scope} {f:Addr} {cd:Value} {A:Around} {outer:List Env} {s s1:Shared} {H:Hp} {E:XK} {us:List Value} {vs:List V}
 (S:a_s N ps scope) (hd:A.handled=none) (e0:Env0 P w K mg base A outer s H) (hl:vs.length=ps.length) (r:Vals vs us)
 (x:InCallC s s.heap.objs.size (bindL (envOfC qual scope s.heap.objs.size f cd).kindOf (ps.zip us) λ_=>none) (cellsFrom (s.heap.objs.size+1) scope.names []) (bindC (envOfC qual scope s.heap.objs.size f cd).kindOf (ps.zip us) λ_=>none) s1):
 Inv (i_R CX P w K mg base N qual scope f cd A outer s H E) [] (start N vs) H s1:=by
 have C:ps.length<=N.length:=by have:=congrArg List.length S.pre;rw[s_j] at this;omega
 obtain⟨m,tk,rfl,t⟩:=x.done;have noA:∀b:Addr,b∉(i_R CX P w K mg base N qual scope f cd A outer s H E).ex:=λb z=>absurd (show b∈([]:List Addr) from z) (by simp)
 refine⟨⟨e0.mod,S.kind,rfl,rfl,r_6 _,λy z c m d=> ?_, λy g=> ?_, λy c _ h=> ?_, λ_=>hd,Around.frames_deeper e0.frames,.inr ⟨rfl,rfl⟩,λb z=>absurd z (noA b),e0.bs,e0.bsz,λb _ _=>noA b,λb z=>absurd z (noA b),e0.funs,e0.frf⟩,
  rfl,e0.bare,Un.kept t,⟨_,x.toInCall.ns,λi y v m d F=> ?_⟩,λy c h=>⟨_,x.cell y c h⟩,e0.hok.fresh (r_6 _),λy c h=> ?_, λp j=>absurd (show p∈([]:List (Addr×Obj)) from j) (by simp),e0.hok.kept t,?_⟩
 ·exact name_of_addr x.apart (PySem.mem_of_lookup m) (PySem.mem_of_lookup d)
 ·have g:scope.names.lookup y=some .cell\/scope.names.lookup y=some .free:=g
  rcases g with g | g
  ·exact h_1 g
  ·exact absurd rfl (S.nofree _ (PySem.mem_of_lookup g))
 ·exact Nat.le_of_lt (x.above y c (PySem.mem_of_lookup h))
 ·have l:i < vs.length:=by
   unfold start at d;by_cases l:i < vs.length
   ·exact l
   ·rw[List.getElem?_append_right (by simpa using l)] at d
    rw[List.getElem?_replicate] at d
    split at d <;> cases d
  have B:vs[i]? =some v:=by
   unfold start at d;rw[List.getElem?_append_left (by simpa using l),r_9] at d;cases e:vs[i]? with
   | none=>rw[e] at d;cases d
   | some a=>rw[e] at d;cases d;rfl
  obtain⟨u,o,rv⟩:=r.get B
  have j:ps[i]? =some y:=by
   rw[<-S.pre,List.getElem?_take_of_lt (by omega)];exact m
  have ndP:ps.Nodup:=by rw[<-S.pre];exact S.nd.sublist (List.take_sublist _ _)
  refine⟨u,rv,?_⟩;rcases S.par y (s_n j) with k | k
  ·exact .inl ⟨k,f_5 ndP j o k⟩
  ·obtain⟨c,e⟩:=h_1 (n:=s.heap.objs.size+1) k
   refine .inr ⟨.inl k,c,e,?_⟩;have q:=x.cell y c e;rw[f_9 ndP j o (by show scope.names.lookup y≠_;rw[k];decide)] at q;exact q
 ·exact e0.hok.fresh (Nat.le_of_lt (x.above y c (PySem.mem_of_lookup h)))
 ·unfold start
  show _=N.length;rw[r_Z,r_X,List.length_replicate];omega
theorem p_E {CX:CXT} {P:Program} {w:World} {K:PySem.W.Frag} {mg:Str->Option Value} {base:Heap} {k:Nat} {f:Addr} {name qual:Str} {params:Arguments} {body:List Stmt} {scope:Scope} {dV kV doc pm cdv ct oc:Value} {an od:Option Addr}
 {osl:Array (Option Value)} {N ps:List Str} {sp:Sp} (lk:K.lookup f=some ⟨oc,od,.func (PySem.W.fnOf name qual params body scope dV kV doc pm an cdv ct),osl⟩) (hcd:PySem.W.codeIn K cdv qual=true) (S:a_s N ps scope)
 (len:∀vs H Q E,sp vs H Q E->vs.length=ps.length)
 (hbody:∀(A:Around) (outer:List Env) (s:Shared) (H:Hp) (vs:List V) (Q:VK) (E:XK),Room k (A.deeper (envOfC qual scope s.heap.objs.size f cdv))→sp vs H Q E→
   ∃t,PSs (i_R CX P w K mg base N qual scope f cdv A outer s H E) body t/\t { nx:=λ_ H'=>Q .non H',rt:=Q } (start N vs) H):
 FnOk P w K mg base CX (k+1) f (PySem.W.fnOf name qual params body scope dV kV doc pm an cdv ct) ps sp:=by
 refine⟨len,λA outer s H args us vs Q E h c m r g=> ?_⟩;have p:=len _ _ _ _ g;have i:K.In s.heap:=c.mod.kin.keeps λb o e=>(c.bs b o e).1;have lim:s.heap.NoLimit:=c.mod.nolimit.keeps λb o e=>(c.bs b o e).1
 have d:∀y∈ps.zip us,scope.names.lookup y.1=some .local\/(scope.names.lookup y.1=some .cell/\((cellsFrom (s.heap.objs.size+1) scope.names []).lookup y.1).isSome=true):=λ⟨n,v⟩ C=>by
  rcases S.par n (List.of_mem_zip C).1 with q | q
  ·exact .inl q
  ·exact .inr ⟨q,PySem.W.cellsFrom_some _ _ _ (.inl q)⟩
 refine codeAny_call_function h.depth (i _ _ lk) rfl S.co S.gen rfl (PySem.W.codeRec_of i hcd) (m _ _ _ _ ?_);refine wpAny_newFunctionEnv_cells S.kind d λenv z j x=> ?_;subst z;refine⟨lim.keeps x.toInCall.keep,codeAny_func ?_⟩;obtain⟨t,l,B⟩:=hbody A outer s H vs Q E (h.deeper _) g;have I:Inv (i_R CX P w K mg base N qual scope f cdv A outer s H E) [] (start N vs) H j:=j_N S h.hd c p r x;refine wpAny_mono (l [] j (start N vs) H _ I B) (λfl s' a=> ?_) λe s' a=>a
 have fin:∀{σ':St} {H':Hp} {v:V} {u:Value},Inv (i_R CX P w K mg base N qual scope f cdv A outer s H E) [] σ' H' s'->RelV v u->Q v H'->CE outer P w H s Q u s':=
  λ{σ' H' v u} J rv q=>⟨v,H',J.os,J.bare,J.base,J.hok,rv,q⟩
 cases fl with
 | ret u=>
   obtain⟨v,σ',H',J,rv,q⟩:=a;exact fin J rv q
 | next=>
   obtain⟨σ',H',J,q⟩:=a;exact fin (v:=V.non) (u:=Value.none) J rfl q
 | brk=>
   obtain⟨_,_,_,q⟩:=a;exact False.elim q
 | cont=>
   obtain⟨_,_,_,q⟩:=a;exact False.elim q
section
variable {X:Cx} {x:Str} {p pos:Pos} {e:Expr} {es:List Expr} {t:TA} {id T:String} {r:List V->Hp->VK->Prop}
def tCB (r:List V->Hp->VK->Prop) (t:TA):TE:=λσ H Q=>t σ H λvs H1=>r vs H1 Q
theorem a_t (hc:d_a X (.builtin id) r) (hg:Gl X x) (hm:X.mg x=none) (hv:bootBuiltins x=some (.builtin id)) (ha:PA X (e::es) t) (hn:x≠"__name__":=by decide) (hdb:(x == ("__debug__":Str))=false:=by decide)
 (he:starEach (e::es) X.env=(false,eval e X.env)::starEach es X.env:=by rfl) (hpl:(backTo pos (starEach es X.env)).any (·.1)=false:=by rfl):PE X (.Call (.Name x p) (e::es) [] pos) (tCB r t):=by
 intro pins s σ H Q I h;refine wpAny_Call_Name_kw (e_9 I hg hm hv ?_ hn hdb);exact PyProof.Rows.callWith_builtin1 (thn (ha pos pins s σ H _ I h) λus c ⟨vs,f,d,a,b⟩=>hc pins c σ f vs us Q d a b) he hpl
theorem b_B (hc:d_a X (.type T) r) (hg:Gl X x) (hm:X.mg x=none) (hv:bootBuiltins x=some (.type T)) (ha:PA X (e::es) t) (hn:x≠"__name__":=by decide) (hdb:(x == ("__debug__":Str))=false:=by decide)
 (he:starEach (e::es) X.env=(false,eval e X.env)::starEach es X.env:=by rfl) (hpl:(backTo pos (starEach es X.env)).any (·.1)=false:=by rfl):PE X (.Call (.Name x p) (e::es) [] pos) (tCB r t):=by
 intro pins s σ H Q I h;refine wpAny_Call_Name_kw (e_9 I hg hm hv ?_ hn hdb);exact PyProof.Rows.callWith_type1 (thn (ha pos pins s σ H _ I h) λus c ⟨vs,f,d,a,b⟩=>hc pins c σ f vs us Q d a b) he hpl
end
end L2
namespace HT
open PySem PyProof.Rows
section
open PySem.SeqAt
open PySem.AutoSeq1 (wpAny_loadPart')
open PySem.MeetsSeq PySem.MeetsSeq2 PySem.MeetsSeq3
end
section
variable {prog:Program} {w:World} {A:Around} {E:Value->Shared->Prop} {s:Shared}
def sIx (n d:Nat):Option Int->Nat
 | none=>d
 | some v=>if v < 0 then (v+(n:Int)).toNat else min v.toNat n
theorem sIx_none (n d:Nat):sIx n d none=d:=rfl
theorem sIx_nat (n d k:Nat):sIx n d (some (k:Int))=min k n:=by
 show (if (k:Int) < 0 then ((k:Int)+(n:Int)).toNat else min (k:Int).toNat n)=min k n;rw[if_neg (by omega),Int.toNat_natCast]
end
end HT
namespace L2
open PySem PySem.Spec PyProof.Rows
abbrev TO:=St->Hp->(Option Int->Hp->Prop)->Prop
def PO (X:Cx) (e:Option Expr) (t:TO):Prop:=
 ∀(pins:List (Addr×Obj)) (s:Shared) (σ:St) (H:Hp) (Q:Option Int->Hp->Prop),Inv X pins σ H s->t σ H Q->
  wpAny (model X.prog X.w) X.A (evalPart e X.env) (λu s'=>∃o H',Inv X pins σ H' s'/\IsPart u o/\Q o H') X.xe s
def n_1:TO:=λ_ H Q=>Q none H
def q_g (t:TE):TO:=λσ H Q=>t σ H λx H1=>∃i,x= .int i/\Q (some i) H1
theorem i_i {ns:List Int}:∀{us:List Value},Vals (ns.map V.int) us->IntsAre us ns:=by
 induction ns with
 | nil=>intro us r;rw[List.map_nil] at r;cases r;exact .nil
 | cons n ns ih=>
   intro us r;rw[s_c] at r;cases r with
   | cons r1 r2=>
     obtain⟨t,e⟩:=r1;subst e;exact .cons n t (ih r2)
section
variable {X:Cx} {e:Expr} {te:TE} {lo hi:Option Expr} {tl th:TO} {pos p2:Pos}
theorem b_6:PO X none n_1:=by
 intro pins s σ H Q I h;rw[evalPart_none];exact wpAny_pure ⟨none,H,I,.none,h⟩
theorem b_F (h:PE X e te):PO X (some e) (q_g te):=by
 intro pins s σ H Q I hw;rw[evalPart_some];refine thn (h pins s σ H _ I hw) λu s1 ⟨x,H1,I1,r1,q1⟩=> ?_;obtain⟨i,rfl,q⟩:=q1;obtain⟨t,rfl⟩:=r1;exact⟨some i,H1,I1,.int i t,q⟩
def SlR (X:Cx) (r:V->Option Int->Option Int->Hp->VK->Prop):Prop:=
 ∀(pins:List (Addr×Obj)) (s:Shared) (σ:St) (H:Hp) (x:V) (v vl vu:Value) (lo hi:Option Int) (sl:Addr) (Q:VK),Inv X pins σ H s->RelV x v->s.heap.IsSliceOf sl vl vu .none->IsPart vl lo->IsPart vu hi->r x lo hi H Q->
  ∃T id,typeLookup (.type T) "__getitem__"=pure (some (.builtin id))/\s.TypeIs v T/\wpAny (model X.prog X.w) X.A (getItem v (.ref sl)) (EP X pins σ Q) X.xe s
def tSl (r:V->Option Int->Option Int->Hp->VK->Prop) (te:TE) (tl th:TO):TE:=λσ H Q=>te σ H λx H1=>tl σ H1 λl H2=>th σ H2 λu H3=>r x l u H3 Q
theorem b_p {r:V->Option Int->Option Int->Hp->VK->Prop} (hr:SlR X r) (he:PE X e te) (hl:PO X lo tl) (hu:PO X hi th):PE X (.Subscript e (.Slice lo hi none p2) pos) (tSl r te tl th):=by
 intro pins s σ H Q I h;refine Subscript_ (thn (he pins s σ H _ I h) λv g ⟨x,p,z,d,m⟩=> ?_);refine wpAny_Slice (thn (hl pins g σ p _ z m) λvl i ⟨l,f,o,pl,C⟩=>thn (hu pins i σ f _ o C) λvu a ⟨u,c,n,pu,k⟩=> ?_);rw[evalPart_none];refine wpAny_pure ?_;have B:Inv X pins σ c { a with heap:=a.heap.push { cls:= .type "slice",data:= .fields #[vl,vu,.none] } }:=n.kept (t':=a.toks) λb ob q=>Heap.get?_push_of_some _ q;obtain⟨T,id,t,j,y⟩:=hr pins { a with heap:=a.heap.push { cls:= .type "slice",data:= .fields #[vl,vu,.none] } } σ c x v vl vu l u a.heap.objs.size Q B d (Heap.IsSliceOf.new ..) pl pu k;show wpAny (model X.prog X.w) X.A (subscriptTail e (.Slice lo hi none p2) v (.ref a.heap.objs.size)) (EP X pins σ Q) X.xe { a with heap:=a.heap.push { cls:= .type "slice",data:= .fields #[vl,vu,.none] } };exact tail_any (ops:= [.ref a.heap.objs.size,v]) j t y (by with_unfolding_all rfl)
def g_Q (xs:List V) (lo hi:Option Int):List V:=(xs.drop (HT.sIx xs.length 0 lo)).take (HT.sIx xs.length xs.length hi - HT.sIx xs.length 0 lo)
theorem h_C (xs:List V) (lo hi:Option Int):(g_Q xs lo hi).length<=xs.length:=by
 unfold g_Q;rw[s_j,List.length_drop];omega
end
def ixN (n:Nat) (i:Int):Option Nat:=if 0<=i then (if i < n then some i.toNat else none) else if -(n:Int)<=i then some (i+n).toNat else none
def atI {α:Type} (xs:List α) (i:Int):Option α:=(ixN xs.length i).bind λj=>xs[j]?
theorem k_v {n:Nat} {i:Int} {j:Nat} (h:ixN n i=some j):seqIndex? i n=some j/\j < n/\-(n:Int)<=i/\i < n:=by
 unfold ixN at h;by_cases b:0<=i
 ·rw[if_pos b] at h
  by_cases a:i < n
  ·rw[if_pos a] at h
   have e:i.toNat=j:=r_4 h;exact⟨by rw[seqIndex_of b a,e],by omega,by omega,a⟩
  ·rw[if_neg a] at h;cases h
 ·rw[if_neg b] at h
  by_cases a: -(n:Int)<=i
  ·rw[if_pos a] at h
   have e:(i+n).toNat=j:=r_4 h;exact⟨by rw[seqIndex_neg (by omega) a,e],by omega,a,by omega⟩
  ·rw[if_neg a] at h;cases h
theorem g_5 {α:Type} {xs:List α} {i:Int} {v:α} (h:atI xs i=some v):∃j,seqIndex? i xs.length=some j/\xs[j]? =some v/\j < xs.length/\-(xs.length:Int)<=i/\i < xs.length:=by
 unfold atI at h;cases e:ixN xs.length i with
 | none=>rw[e] at h;cases h
 | some j=>
   rw[e] at h;obtain⟨h1,h2,h3,h4⟩:=k_v e;exact⟨j,h1,h,h2,h3,h4⟩
theorem a_e {α:Type} {xs:List α} {j:Nat} {v:α} (h:xs[j]? =some v):atI xs (j:Int)=some v:=by
 have hj:j < xs.length:=(s_b.mp h).1
 have e:ixN xs.length (j:Int)=some j:=by
  unfold ixN;rw[if_pos (by omega),if_pos (by omega)];simp
 unfold atI;rw[e];exact h
theorem k_Z {α:Type} (xs:List α) (v:α):atI (xs++ [v]) (-1)=some v:=by
 have hl:(xs++ [v]).length=xs.length+1:=by simp
 have e:ixN (xs++ [v]).length (-1)=some xs.length:=by
  unfold ixN;rw[hl,if_neg (by decide),if_pos (by omega)];congr 1;omega
 unfold atI;rw[e];show (xs++ [v])[xs.length]? =some v;simp
def g_1 (b:Expr):Prop:=∀o i,subscripted b false o i=operate [o,i] (getItem o i)
def IxR (X:Cx) (r:R2):Prop:=
 ∀(value slice:Expr) (pins:List (Addr×Obj)) (s:Shared) (σ:St) (H:Hp) (x y:V) (v u:Value) (Q:VK),Inv X pins σ H s->RelV x v->RelV y u->r x y H Q->
  subscripted slice false v u=operate [v,u] (getItem v u)->wpAny (model X.prog X.w) X.A (subscriptTail value slice v u) (EP X pins σ Q) X.xe s
def MtR (X:Cx) (id:String) (r:V->List V->Hp->VK->Prop):Prop:=
 ∀(pins:List (Addr×Obj)) (s:Shared) (σ:St) (H:Hp) (x:V) (xs:List V) (v:Value) (us:List Value) (Q:VK),Inv X pins σ H s->RelV x v->Vals xs us->r x xs H Q->
  wpAny (model X.prog X.w) X.A (call (.builtin id) (v::us)) (EP X pins σ Q) X.xe s
section
variable {X:Cx} {a b:Expr} {ta tb:TE} {pos:Pos}
theorem MtR.or {id:String} {r r':V->List V->Hp->VK->Prop} (h:MtR X id r) (h':MtR X id r'):MtR X id (λx xs H Q=>r x xs H Q\/r' x xs H Q):=by
 intro pins s σ H x xs v us Q I rx rs q;rcases q with q | q
 ·exact h pins s σ H x xs v us Q I rx rs q
 ·exact h' pins s σ H x xs v us Q I rx rs q
theorem a_r {r:R2} (hr:IxR X r) (ha:PE X a ta) (hb:PE X b tb) (hs:g_1 b):PE X (.Subscript a b pos) (tOp r ta tb):=by
 intro pins s σ H Q I h;exact Subscript_ (q_K ha hb I h λv u s2 x y H2 I2 rx ry q=>hr a b pins s2 σ H2 x y v u Q I2 rx ry q (hs _ _))
def q_5 (K:PySem.W.Frag):R2:=λx y H Q=>∃p xs i v,x= .ref p/\y= .int i/\SqL K H p xs/\atI xs i=some v/\Q v H
def r_c (K:PySem.W.Frag):R2:=λx y H Q=>∃p xs i v,x= .ref p/\y= .int i/\SqT K H p xs/\atI xs i=some v/\Q v H
def r_o:R2:=λx y H Q=>∃z i c,x= .str z/\y= .int i/\z.length<=sizeLine/\atI z.cps.toList i=some c/\Q (.str ⟨#[c]⟩) H
theorem n_v:IxR X (q_5 X.K):=by
 intro value slice pins s σ H x y v u Q I rx ry h c;obtain⟨p,xs,i,z,rfl,rfl,g,k,q⟩:=h;cases rx;obtain⟨t,rfl⟩:=ry;obtain⟨its,r,pl,o⟩:=I.list g;obtain⟨j,a,l,A,e,m⟩:=g_5 k;obtain⟨w,ew,rw'⟩:=r.get l;have f:=r.length;have n:=e_j;have fin:EP X pins σ Q w s:=⟨z,H,I,rw',q⟩;by_cases d:0<=i
 ·have b:i.toNat=j:=by
   rw[seqIndex_of d m] at a;exact r_4 a
  exact item_listR pl.isList d (by omega) (by rw[b];simpa using ew) fin c
 ·have b:(i+(its.toArray.size:Int)).toNat=j:=by
   rw[seqIndex_neg (by omega) e] at a;rw[r_7,<-f];exact r_4 a
  exact subscriptTail_builtinR (x:=w) pl.isList.typeIs slot_list_getitem.lookup
   (wpAny_getItem_list_neg (Q:=λr s'=>r=w/\EP X pins σ Q r s') pl.isList (by omega) (by rw[r_7] <;> omega) (by omega) (by rw[b];simpa using ew) ⟨rfl,fin⟩) c
theorem o_N:IxR X (r_c X.K):=by
 intro value slice pins s σ H x y v u Q I rx ry h b;obtain⟨p,xs,i,z,rfl,rfl,d,e,q⟩:=h;cases rx;obtain⟨t,rfl⟩:=ry;obtain⟨its,r,pl,l⟩:=I.tuple d;obtain⟨j,a,f,m,g,n⟩:=g_5 e;obtain⟨w,ew,rw'⟩:=r.get f;have c:=r.length;have k:=e_j;have fin:EP X pins σ Q w s:=⟨z,H,I,rw',q⟩
 exact subscriptTail_builtinR (x:=w) pl.typeIs slot_tuple_getitem.lookup
  (getItem_tuple (j:=j) (Q:=λr s'=>r=w/\EP X pins σ Q r s') pl (by omega) (by omega) (by rw[r_7,<-c];exact a) (by simpa using ew) ⟨rfl,fin⟩) b
theorem i_q (its:List Value) (n j:Nat) (u:Value):Obj.mapSeq (·.setIfInBounds j u) { cls:= .type "list",data:= .seq its.toArray n }={ cls:= .type "list",data:= .seq (its.set j u).toArray n }:=by
 simp[Obj.mapSeq]
theorem Inv.lst {pins:List (Addr×Obj)} {σ:St} {H:Hp} {s:Shared} {p:Addr} {xs:List V} (I:Inv X pins σ H s) (h:H p=some (.lst xs)):
 ∃(its:List Value) (n:Nat),Vals xs its/\s.heap.get? p=some { cls:= .type "list",data:= .seq its.toArray n }/\xs.length<=sizeLine:=by
 obtain⟨z,its,n,r,e⟩:=I.hok p _ h;exact⟨its,n,r,e,z⟩
theorem Inv.lstUpd {pins:List (Addr×Obj)} {σ:St} {H:Hp} {s:Shared} {p:Addr} {xs ys:List V} {its its':List Value} {n n':Nat} {f:Obj->Obj} (I:Inv X pins σ H s) (h:H p=some (.lst xs))
 (ho:s.heap.get? p=some { cls:= .type "list",data:= .seq its.toArray n }) (hf:f { cls:= .type "list",data:= .seq its.toArray n }={ cls:= .type "list",data:= .seq its'.toArray n' }) (r:Vals ys its') (hz:ys.length<=sizeLine) (t:Nat):
 Inv X pins σ (upd H p (.lst ys)) { s with heap:=s.heap.update p f,toks:=t }:=by
 have e:(s.heap.update p f).get? p=some { cls:= .type "list",data:= .seq its'.toArray n' }:=by
  rw[Heap.get?_update_self f ho (by rw[hf] <;> rfl),hf]
 refine I.write (x:=p) (e:=p) (by rw[h];trivial) (.inl rfl) (λb u a q=>(Heap.get?_update_other _ _ (Ne.symm a)).trans q) ⟨_,e⟩ ?_;exact⟨hz,its',n',r,e⟩
def q_N:V->V->V->Hp->(Hp->Prop)->Prop:=λo i v H Q=>∃p xs k j,o= .ref p/\i= .int k/\H p=some (.lst xs)/\ixN xs.length k=some j/\Q (upd H p (.lst (xs.set j v)))
theorem h_L:r_h X q_N:=by
 intro pins s σ H o i v ov iv u Q I ro ri rv h;obtain⟨p,xs,k,j,rfl,rfl,f,m,q⟩:=h;cases ro;obtain⟨t,rfl⟩:=ri;obtain⟨its,n,r,d,w⟩:=I.lst f;obtain⟨a,x,l,e⟩:=k_v m;have b:=r.length;have y:=e_j
 have I':Inv X pins σ (upd H p (.lst (xs.set j v))) { s with heap:=s.heap.update p (Obj.mapSeq (·.setIfInBounds j u)) }:=
  I.lstUpd f d (i_q its n j u) (r.set rv j) (by rw[List.length_set];exact w) s.toks
 by_cases g:0<=k
 ·have c:k.toNat=j:=by
   rw[seqIndex_of g e] at a;exact r_4 a
  exact PySem.W.ki_setAt d g (by omega) (by rw[r_7,<-b];exact e) (by rw[c];exact⟨_,I',q⟩)
 ·have c:(k+(its.toArray.size:Int)).toNat=j:=by
   rw[seqIndex_neg (by omega) l] at a;rw[r_7,<-b];exact r_4 a
  exact PySem.W.ki_setBack d (by omega) (by rw[r_7,<-b];exact l) (by omega) (by rw[c];exact⟨_,I',q⟩)
theorem g_o (lo hi:Option Int) (n:Nat):(sliceBounds lo hi none n).1=((HT.sIx n 0 lo:Nat):Int)/\(sliceBounds lo hi none n).2.1=((HT.sIx n n hi:Nat):Int)/\(sliceBounds lo hi none n).2.2=1:=by
 refine⟨?_, ?_, rfl⟩
 ·cases lo with
  | none=>simp[sliceBounds,HT.sIx]
  | some i=>
    simp only[sliceBounds,HT.sIx,Option.getD_none,show (1:Int) > 0 by decide,if_true];by_cases h:i < 0
    ·simp only[h,if_true] <;> omega
    ·simp only[h,if_false] <;> omega
 ·cases hi with
  | none=>simp[sliceBounds,HT.sIx]
  | some i=>
    simp only[sliceBounds,HT.sIx,Option.getD_none,show (1:Int) > 0 by decide,if_true];by_cases h:i < 0
    ·simp only[h,if_true] <;> omega
    ·simp only[h,if_false] <;> omega
theorem f_o (its:List Value) (lo hi:Option Int):slicePick its.toArray lo hi none=((its.drop (HT.sIx its.length 0 lo)).take (HT.sIx its.length its.length hi - HT.sIx its.length 0 lo)).toArray:=by
 obtain⟨h1,h2,h3⟩:=g_o lo hi its.toArray.size;unfold slicePick;rw[h1,h2,h3]
 simp only[sliceRange_one,pick_run,r_7] <;> rfl
def r_b (K:PySem.W.Frag):V->Option Int->Option Int->Hp->VK->Prop:=λx lo hi H Q=>∃a xs,x= .ref a/\SqL K H a xs/\∀p,H p=none->Q (.ref p) (upd H p (.lst (g_Q xs lo hi)))
theorem n_M:SlR X (r_b X.K):=by
 intro pins s σ H x v vl vu lo d sl Q I rx f pl pu h;obtain⟨a,xs,rfl,g,q⟩:=h;cases rx;obtain⟨its,r,e,i⟩:=I.list g;have c:=r.length;refine⟨"list",_,slot_list_getitem.lookup,e.isList.typeIs,?_⟩
 refine wpAny_getItem_list_slice e.isList f pl pu .none (by simp) ?_ (by rw[r_7] <;> omega)
 rw[f_o,<-c];refine⟨.ref s.heap.objs.size,_,I.laid (t':=s.toks) (o:= .lst (g_Q xs lo d)) (λb ob q=>Heap.get?_push_of_some _ q) (r_6 _) ?_, rfl,q _ (I.hok.fresh (r_6 _))⟩;exact⟨s_i (h_C xs lo d) i,_,0,(r.drop (HT.sIx xs.length 0 lo)).take (HT.sIx xs.length xs.length d - HT.sIx xs.length 0 lo),Heap.get?_push_size _ rfl⟩
def g_D:V->Bool
 | .non=>true
 | .bl _=>true
 | .int _=>true
 | .str _=>true
 | _=>false
def eqV:V->V->Bool
 | .non,.non=>true
 | .bl a,.bl b=>a == b
 | .bl a,.int b=>(if a then 1 else 0) == b
 | .int a,.bl b=>a == (if b then 1 else 0)
 | .int a,.int b=>a == b
 | .str a,.str b=>a == b
 | _,_=>false
theorem m_h {A:Around} {s:Shared} {y x:V} {u v:Value} (ry:RelV y u) (rx:RelV x v) (fy:g_D y=true) (fx:g_D x=true):SeqAt.EqAt A s u v (eqV y x):=by
 cases y with
 | non=>
   cases ry;cases x with
   | non=>cases rx;exact SeqAt.EqAt.same _
   | bl b=>cases rx;exact SeqAt.EqAt.none_bool b
   | int b=>obtain⟨t,rfl⟩:=rx;exact SeqAt.EqAt.none_int b t
   | str b=>obtain⟨t,rfl⟩:=rx;exact SeqAt.EqAt.none_str b t
   | _=>exact absurd (show false=true from fx) s_e
 | bl a=>
   cases ry;cases x with
   | non=>cases rx;exact SeqAt.EqAt.bool_none a
   | bl b=>cases rx;exact SeqAt.EqAt.bool_bool a b
   | int b=>obtain⟨t,rfl⟩:=rx;exact SeqAt.EqAt.bool_int a b t
   | str b=>obtain⟨t,rfl⟩:=rx;exact SeqAt.EqAt.bool_str a b t
   | _=>exact absurd (show false=true from fx) s_e
 | int a=>
   obtain⟨t',rfl⟩:=ry;cases x with
   | non=>cases rx;exact SeqAt.EqAt.int_none a t'
   | bl b=>cases rx;exact SeqAt.EqAt.int_bool a t' b
   | int b=>obtain⟨t,rfl⟩:=rx;exact SeqAt.EqAt.int_int a t' b t
   | str b=>obtain⟨t,rfl⟩:=rx;exact SeqAt.EqAt.int_str a t' b t
   | _=>exact absurd (show false=true from fx) s_e
 | str a=>
   obtain⟨t',rfl⟩:=ry;cases x with
   | non=>cases rx;exact SeqAt.EqAt.str_none a t'
   | bl b=>cases rx;exact SeqAt.EqAt.str_bool a t' b
   | int b=>obtain⟨t,rfl⟩:=rx;exact SeqAt.EqAt.str_int a t' b t
   | str b=>obtain⟨t,rfl⟩:=rx;exact SeqAt.EqAt.str_str a t' b t
   | _=>exact absurd (show false=true from fx) s_e
 | _=>exact absurd (show false=true from fy) s_e
def eqU (x:V) (u:Value):Bool:=match u with
 | .none=>eqV .non x
 | .bool b=>eqV (.bl b) x
 | .int i _=>eqV (.int i) x
 | .str z _=>eqV (.str z) x
 | _=>false
theorem m_n {x y:V} {u:Value} (r:RelV y u) (f:g_D y=true):eqU x u=eqV y x:=by
 cases y with
 | non=>cases r;rfl
 | bl b=>cases r;rfl
 | int i=>obtain⟨t,rfl⟩:=r;rfl
 | str z=>obtain⟨t,rfl⟩:=r;rfl
 | _=>exact absurd (show false=true from f) s_e
theorem e_M {x:V}:∀{xs:List V} {us:List Value},Vals xs us->xs.all g_D=true->us.any (eqU x)=xs.any λy=>eqV y x
 | _,_,.nil,_=>rfl
 | y::xs,u::us,.cons r t,f=>by
   rw[List.all_cons,Bool.and_eq_true] at f;rw[List.any_cons,List.any_cons,m_n r f.1,e_M t f.2]
theorem d_l {A:Around} {s:Shared} {x:V} {v:Value} (rx:RelV x v) (fx:g_D x=true):∀{xs:List V} {us:List Value},Vals xs us->xs.all g_D=true->∀u∈us,SeqAt.EqAt A s u v (eqU x u)
 | _,_,.nil,_=>λu a=>by cases a
 | y::xs,u::us,.cons r t,f=>fun u' a=>by
   rw[List.all_cons,Bool.and_eq_true] at f;rcases r_8.mp a with rfl | a
   ·rw[m_n r f.1];exact m_h r rx f.1 fx
   ·exact d_l rx fx t f.2 u' a
def inV (x:V) (xs:List V):Bool:=xs.any λy=>eqV y x
def rIn (K:PySem.W.Frag) (neg:Bool):R2:=λx y H Q=>∃p xs,y= .ref p/\(SqL K H p xs\/SqT K H p xs)/\g_D x=true/\xs.all g_D=true/\Q (.bl (if neg then !inV x xs else inV x xs)) H
theorem d_e:OpR X (compareOp .In) (rIn X.K false):=by
 intro pins s σ H x y v u Q I rx ry h;obtain⟨p,xs,rfl,a,fx,fs,q⟩:=h;cases ry;rcases a with a | a
 ·obtain⟨its,r,pl,c⟩:=I.list a
  refine SeqAt.in_listAt (eqU x) pl.isList (λw b=>d_l rx fx r fs w (by simpa using b)) ⟨.bl _,H,I,rfl,?_⟩;rw[show its.toArray.any (eqU x)=its.any (eqU x) by simp,e_M r fs];exact q
 ·obtain⟨its,r,pl,c⟩:=I.tuple a
  refine SeqAt.in_tupleAt (eqU x) pl (λw b=>d_l rx fx r fs w (by simpa using b)) ⟨.bl _,H,I,rfl,?_⟩;rw[show its.toArray.any (eqU x)=its.any (eqU x) by simp,e_M r fs];exact q
theorem d_O:OpR X (compareOp .NotIn) (rIn X.K true):=by
 intro pins s σ H x y v u Q I rx ry h;obtain⟨p,xs,rfl,a,fx,fs,q⟩:=h;cases ry;rcases a with a | a
 ·obtain⟨its,r,pl,c⟩:=I.list a
  refine SeqAt.notIn_listAt (eqU x) pl.isList (λw b=>d_l rx fx r fs w (by simpa using b)) ⟨.bl _,H,I,rfl,?_⟩;rw[show its.toArray.any (eqU x)=its.any (eqU x) by simp,e_M r fs];exact q
 ·obtain⟨its,r,pl,c⟩:=I.tuple a
  refine SeqAt.notIn_tupleAt (eqU x) pl (λw b=>d_l rx fx r fs w (by simpa using b)) ⟨.bl _,H,I,rfl,?_⟩;rw[show its.toArray.any (eqU x)=its.any (eqU x) by simp,e_M r fs];exact q
theorem g_B:d_a X (.builtin "len") (λxs H Q=>∃p ys,xs= [.ref p]/\(SqL X.K H p ys\/SqT X.K H p ys)/\Q (.int ys.length) H):=by
 intro pins s σ H xs us Q I r h;obtain⟨p,ys,rfl,b,q⟩:=h;obtain⟨u,rfl,rx⟩:=i_r r;cases rx;have d:=e_j;rcases b with b | b
 ·obtain⟨its,r',pl,c⟩:=I.list b
  have a:=r'.length
  exact Calls.call_len_list pl.isList (by simp only[r_7] <;> omega) ⟨.int ys.length,H,I.tok _,⟨s.toks+1,by rw[r_7,a]⟩,q⟩
 ·obtain⟨its,r',pl,c⟩:=I.tuple b
  have a:=r'.length
  exact len_tuple pl (by simp only[r_7] <;> omega) ⟨.int ys.length,H,I.tok _,⟨s.toks+1,by rw[r_7,a]⟩,q⟩
theorem g_J:d_a X (.builtin "len") (λxs H Q=>∃z,xs= [.str z]/\z.length<=sizeLine/\Q (.int z.length) H):=by
 intro pins s σ H xs us Q I r h;obtain⟨z,rfl,hz,q⟩:=h;obtain⟨u,rfl,t,rfl⟩:=i_r r;have hn:=e_j;exact len_str (by omega) ⟨.int z.length,H,I.tok _,⟨_,rfl⟩,q⟩
theorem g_w:d_a X (.type "list") (λxs H Q=>∃p ys,xs= [.ref p]/\(SqL X.K H p ys\/SqT X.K H p ys)/\∀l,H l=none->Q (.ref l) (upd H l (.lst ys))):=by
 intro pins s σ H xs us Q I r h;obtain⟨p,ys,rfl,c,q⟩:=h;obtain⟨u,rfl,rx⟩:=i_r r;cases rx
 have fin:∀(its:List Value),Vals ys its->ys.length<=sizeLine->∀(a:Heap) (c':Nat),(∀b o',s.heap.get? b=some o'->a.get? b=some o')->
  a.get? s.heap.objs.size=some { cls:= .type "list",dict:=none,data:= .seq its.toArray c',slots:= #[] }->EP X pins σ Q (.ref s.heap.objs.size) { s with heap:=a }:=λits r' d a c' kp e=>
  ⟨.ref s.heap.objs.size,_,I.laid (t':=s.toks) kp (r_6 _) (show ObjOk X.prog X.w _ a _ (.lst ys) from ⟨d,its,c',r',e⟩),rfl,q _ (I.hok.fresh (r_6 _))⟩
 rcases c with c | c
 ·obtain⟨its,r',pl,d⟩:=I.list c
  have f:=r'.length;obtain⟨o,j,i,n,g⟩:=pl.isList
  exact call_list_seq p (.inl rfl) j i g (λa c' kp e=>fin its r' d a c' kp e) (by simp only[r_7] <;> omega)
 ·obtain⟨its,r',pl,d⟩:=I.tuple c
  have f:=r'.length;obtain⟨o,j,i,n,g⟩:=pl
  exact call_list_seq p (.inr rfl) j i g (λa c' kp e=>fin its r' d a c' kp e) (by simp only[r_7] <;> omega)
def tyV (K:PySem.W.Frag) (T:String) (x:V) (H:Hp):Prop:=match x with
 | .str _=>T="str"
 | .int _=>T="int"
 | .ref p=>(T="list"∧∃xs,SqL K H p xs)∨(T="tuple"∧∃o,K.lookup p=some o∧o.cls= .type "tuple"∧o.dict=none)∨
    (T="dict"/\((∃kvs,H p=some (.dK kvs))\/∃kvs,H p=some (.dT kvs)))\/(T="set"/\∃S n,H p=some (.set S n))
 | _=>False
theorem k_m {pins:List (Addr×Obj)} {σ:St} {H:Hp} {s:Shared} {T:String} {x:V} {v:Value} (I:Inv X pins σ H s) (r:RelV x v) (ty:tyV X.K T x H):
 s.TypeIs v T/\∀a,v= .ref a->∃ob,s.heap.get? a=some ob/\ob.dict=none:=by
 cases x with
 | str z=>
   obtain⟨t,rfl⟩:=r;cases (show T="str" from ty);exact⟨typeIs_str s z t,λ_ e=>nomatch e⟩
 | int i=>
   obtain⟨t,rfl⟩:=r;cases (show T="int" from ty);exact⟨typeIs_int s i t,λ_ e=>nomatch e⟩
 | ref p=>
   cases r;rcases ty with⟨rfl,xs,h⟩ | ⟨rfl,o,b,g,d⟩ | ⟨rfl,b⟩ | ⟨rfl,S,n,b⟩
   ·obtain⟨its,_,pl,_⟩:=I.list h
    refine⟨pl.isList.typeIs,λa e=> ?_⟩;cases e;obtain⟨o,n,e,c,d,_⟩:=pl;exact⟨o,e,d⟩
   ·refine⟨⟨o,I.kIn p o b,g⟩,λa e=> ?_⟩
    cases e;exact⟨o,I.kIn _ o b,d⟩
   ·have z:∃o,s.heap.get? p=some o∧o.ExactDict:=by
     rcases b with⟨kvs,b⟩ | ⟨kvs,b⟩
     ·obtain⟨_,_,_,_,o,_,_,e,ex,_⟩:=I.hok p _ b
      exact⟨o,e,ex⟩
     ·obtain⟨_,_,_,_,o,_,_,e,ex,_⟩:=I.hok p _ b
      exact⟨o,e,ex⟩
    obtain⟨o,e,ex⟩:=z;refine⟨⟨o,e,ex.1⟩,λa f=> ?_⟩;cases f;exact⟨o,e,ex.2.1⟩
   ·obtain⟨o,_,_,_,e,ex,_⟩:=I.hok p _ b
    refine⟨⟨o,e,ex.1⟩,λa f=> ?_⟩;cases f;exact⟨o,e,ex.2.1⟩
 | _=>exact False.elim ty
def r_m (K:PySem.W.Frag) (T:String) (r:V->List V->Hp->VK->Prop) (to:TE):TE:=λσ H Q=>to σ H λx H1=>tyV K T x H1/\r x [] H1 Q
def tBM (K:PySem.W.Frag) (T:String) (r:V->List V->Hp->VK->Prop) (to:TE) (t:TA):TE:=λσ H Q=>to σ H λx H1=>tyV K T x H1/\t σ H1 λxs H2=>r x xs H2 Q
variable {o e:Expr} {es:List Expr} {to:TE} {t:TA} {name:Str} {apos cpos:Pos} {T id:String} {r:V->List V->Hp->VK->Prop}
theorem e_v (pa:PlainAttrs T) (slot:Slot T name id) (hty:typeOf (.builtin id)=pure (.type "method_descriptor")) (hm:MtR X id r) (ho:PE X o to)
 (hbase:attributeBase o name X.env (eval o X.env)=eval o X.env:=by rfl) (hline:(apos.endLine == cpos.line)=true:=by rfl):PE X (.Call (.Attribute o name apos) [] [] cpos) (r_m X.K T r to):=by
 intro pins s σ H Q I h;refine wpAny_Call_method0_late hbase hline (thn (ho pins s σ H _ I h) λv d ⟨x,e,b,a,ty,c⟩=> ?_);obtain⟨g,f⟩:=k_m b a ty;exact⟨T,id,pa,slot,hty,g,f,Calls.callWith_builtin rfl (PySem.evalArgs_none (hm pins d σ e x [] v [] Q b a .nil c))⟩
theorem b_x (pa:PlainAttrs T) (slot:Slot T name id) (hty:typeOf (.builtin id)=pure (.type "method_descriptor")) (hm:MtR X id r) (ho:PE X o to) (ha:PA X (e::es) t)
 (hbase:attributeBase o name X.env (eval o X.env)=eval o X.env:=by rfl)
 (hfew:((backTo cpos (starEach (e::es) X.env)).all (fun x=> !x.1)&&(backToKw cpos (keywordEach [] X.env)).all (fun x=>x.1.isSome)
   &&decide ((e::es).length+([]:List Keyword).length+(if ([]:List Keyword).isEmpty then 0 else 1) < 30))=true:=by rfl)
 (hline:(apos.endLine == cpos.line)=true:=by rfl) (hs:starEach (e::es) X.env=(false,eval e X.env)::starEach es X.env:=by rfl) (hplain:(backTo cpos (starEach es X.env)).any (·.1)=false:=by rfl):
 PE X (.Call (.Attribute o name apos) (e::es) [] cpos) (tBM X.K T r to t):=by
 intro pins s σ H Q I h;refine wpAny_Call_method_late hbase hfew hline rfl (thn (ho pins s σ H _ I h) λv f ⟨x,k,b,a,ty,i⟩=> ?_);obtain⟨p,l⟩:=k_m b a ty;refine⟨T,id,pa,slot,hty,p,l,?_⟩;have c:=ha cpos pins f σ k _ b i;rw[hs] at c ⊢
 refine Calls.callWith_builtin (by show (false||(backTo cpos (starEach es X.env)).any (·.1))=false;rw[hplain] <;> rfl) (Calls.evalArgs_plain ?_)
 exact thn c λus g ⟨vs,d,j,m,n⟩=>hm pins g σ d x vs v us Q j a m n
end
def MtM (X:Cx) (id:String) (r:V->List V->Hp->VK->Prop):Prop:=
 ∀(pins:List (Addr×Obj)) (s:Shared) (σ:St) (H:Hp) (x:V) (xs:List V) (v:Value) (us:List Value) (Q:VK),Inv X pins σ H s->RelV x v->Vals xs us->r x xs H Q->
  wpAny (model X.prog X.w) X.A (call (.builtin id) (v::us)) (EP X pins σ Q) X.xe s
theorem Vals.one {x:V} {us:List Value} (h:Vals [x] us):∃u,us= [u]/\RelV x u:=by
 cases h with
 | cons r t=>
   cases t;exact⟨_,rfl,r⟩
theorem Vals.two {x y:V} {us:List Value} (h:Vals [x,y] us):∃u v,us= [u,v]/\RelV x u/\RelV y v:=by
 cases h with
 | cons r t=>
   obtain⟨u,rfl,q⟩:=Vals.one t;exact⟨_,_,rfl,r,q⟩
theorem Vals.zero:∀{us:List Value},Vals [] us->us= []
 | _,.nil=>rfl
theorem Vals.dropLast {xs:List V} {us:List Value} (h:Vals xs us):Vals xs.dropLast us.dropLast:=by
 induction h with
 | nil=>exact .nil
 | cons r t ih=>
   cases t with
   | nil=>exact .nil
   | cons q t'=>exact .cons r ih
theorem Vals.eraseIdx:∀{xs:List V} {us:List Value} (i:Nat),Vals xs us->Vals (xs.eraseIdx i) (us.eraseIdx i)
 | _,_,_,.nil=> .nil
 | _,_,0,.cons _ t=>t
 | _,_,i+1,.cons r t=> .cons r (Vals.eraseIdx i t)
theorem Vals.rep {xs:List V} {us:List Value} (h:Vals xs us):∀k:Nat,Vals (List.replicate k xs).flatten (List.replicate k us).flatten
 | 0=> .nil
 | k+1=>by
   rw[List.replicate_succ,List.replicate_succ,s_q,s_q];exact Vals.append h (Vals.rep h k)
theorem i_n {α:Type} (l:List α):l.eraseIdx (l.length - 1)=l.dropLast:=by
 induction l with
 | nil=>rfl
 | cons a r ih=>
   cases r with
   | nil=>rfl
   | cons b r=>
     have e:(a::b::r).length - 1=((b::r).length - 1)+1:=by
      have d:(a::b::r).length=r.length+2:=rfl;have c:(b::r).length=r.length+1:=rfl;omega
     rw[e,List.eraseIdx_cons_succ,ih]
     all_goals rfl
theorem e_I {α:Type}:∀(l:List α) (i:Nat),(l.eraseIdx i).length<=l.length
 | [],_=>r_6 _
 | _::_,0=>Nat.le_succ _
 | _::r,i+1=>Nat.succ_le_succ (e_I r i)
theorem f_4 (its:List Value):∀(k:Nat) (acc:List Value),
 List.foldl (λx1 x2=>x1++x2) acc.toArray (List.replicate k its.toArray)=(acc++(List.replicate k its).flatten).toArray
 | 0,acc=>by simp
 | k+1,acc=>by
   have e:acc.toArray++its.toArray=(acc++its).toArray:=by simp
   have a:(acc++its)++(List.replicate k its).flatten=acc++(List.replicate (k+1) its).flatten:=by
    rw[List.replicate_succ,s_q,List.append_assoc]
   rw[<-a,<-f_4 its k (acc++its),<-e,List.replicate_succ,List.foldl_cons]
section
variable {X:Cx} {pins:List (Addr×Obj)} {σ:St} {H:Hp} {s:Shared} {l b:Addr} {xs ys zs:List V}
theorem Inv.lset {its its':List Value} {n:Nat} {f:Array Value->Array Value} {t':Nat} (I:Inv X pins σ H s) (hH:H l=some (.lst xs))
 (e:s.heap.get? l=some { cls:= .type "list",data:= .seq its.toArray n }) (hf:f its.toArray=its'.toArray) (hv:Vals ys its') (hz:ys.length<=sizeLine):
 Inv X pins σ (upd H l (.lst ys)) { s with heap:=s.heap.update l (Obj.mapSeq f),toks:=t' }:=by
 have q:=PySem.IsL.update e f;rw[hf] at q;refine I.write (x:=l) (e:=l) (by rw[hH];exact trivial) (.inl rfl) (λb' u b a=>(Heap.get?_update_other s.heap (Obj.mapSeq f) (Ne.symm b)).trans a) ⟨_,q⟩ ?_;exact⟨hz,its',_,hv,q⟩
theorem Inv.lnew {its:List Value} {t':Nat} (I:Inv X pins σ H s) (hv:Vals ys its) (hz:ys.length<=sizeLine):
 Inv X pins σ (upd H s.heap.objs.size (.lst ys)) { s with heap:=s.heap.push { cls:= .type "list",data:= .seq its.toArray },toks:=t' }:=
 I.laid (λ_ _ q=>Heap.get?_push_of_some _ q) (r_6 _) ⟨hz,its,0,hv,Heap.get?_push_size _ rfl⟩
theorem Inv.fresh (I:Inv X pins σ H s):H s.heap.objs.size=none:=I.hok.fresh (r_6 _)
theorem Inv.lstM (I:Inv X pins σ H s) (hH:H l=some (.lst xs)):xs.length<=sizeLine/\∃(its:List Value) (n:Nat),Vals xs its/\xs.length=its.length/\s.heap.get? l=some { cls:= .type "list",data:= .seq its.toArray n }:=by
 obtain⟨z,its,n,r,e⟩:=I.hok l _ hH;exact⟨z,its,n,r,r.length,e⟩
theorem f_n {n:Nat} (h:n<=sizeLine):Builtin.List.listTooLong n=false:=by
 unfold Builtin.List.listTooLong;exact s_E (by omega)
end
section
variable {X:Cx}
def n_n:V->List V->Hp->VK->Prop:=λx vs H Q=>∃l xs y,x= .ref l/\vs= [y]/\H l=some (.lst xs)/\xs.length < sizeLine/\Q .non (upd H l (.lst (xs++ [y])))
theorem a_O:MtM X "list.append" n_n:=by
 intro pins s σ H x vs v us Q I rx rv h;obtain⟨l,xs,y,rfl,rfl,a,c,q⟩:=h;cases rx;obtain⟨u,rfl,ru⟩:=rv.one;obtain⟨z,its,n,r,b,e⟩:=I.lstM a;refine call_meets F.slot_list_append ⟨_,e,rfl⟩ F.entry_list_append (F.args_list_append_2 _ _) (PySem.list_append l its.toArray n u (by rw[r_7];omega)) ⟨e,?_⟩;refine⟨.non,_,I.lset (its':=its++ [u]) a e (by simp) (r.append (.cons ru .nil)) ?_, rfl,q⟩;rw[r_Z,s_v];omega
def o_h:V->List V->Hp->VK->Prop:=λx vs H Q=>∃l b xs zs,x= .ref l/\vs= [.ref b]/\H l=some (.lst xs)/\H b=some (.lst zs)/\xs.length+zs.length<=sizeLine/\Q .non (upd H l (.lst (xs++zs)))
theorem d_h:MtM X "list.extend" o_h:=by
 intro pins s σ H x vs v us Q I rx rv h;obtain⟨l,b,xs,zs,rfl,rfl,d,g,t,q⟩:=h;cases rx;obtain⟨u,rfl,ru⟩:=rv.one;cases ru;obtain⟨z,its,n,r,o,e⟩:=I.lstM d;obtain⟨p,a,i,j,m,k⟩:=I.lstM g;have f:its.toArray.size+a.toArray.size<=sizeLine:=by rw[r_7,r_7];omega
 have c:¬ (!its.toArray.isEmpty&&Builtin.List.listTooLong (its.toArray.size+a.toArray.size))=true:=by
  rw[f_n f,Bool.and_false];exact s_e
 refine call_meets F.slot_list_extend ⟨_,e,rfl⟩ F.entry_list_extend (F.args_list_extend_2 _ _)
  (AutoSeq1.list_extend_list_list_0 l its.toArray n b a.toArray i c (by rw[r_7];omega) (by omega)) ⟨e,k,?_⟩
 refine⟨.non,_,I.lset (its':=its++a) d e (by simp) (r.append j) ?_, rfl,q⟩;rw[r_Z];omega
def r_W:V->List V->Hp->VK->Prop:=λx vs H Q=>∃l xs y,x= .ref l/\vs= []/\H l=some (.lst xs)/\xs[xs.length - 1]? =some y/\Q y (upd H l (.lst xs.dropLast))
theorem f_3:MtM X "list.pop" r_W:=by
 intro pins s σ H x vs v us Q I rx rv h;obtain⟨l,xs,y,rfl,rfl,a,g,q⟩:=h;cases rx;have b:=rv.zero;subst b;obtain⟨z,its,n,r,d,e⟩:=I.lstM a;obtain⟨u,f,ru⟩:=r.get g
 have c:its.toArray[its.toArray.size - 1]? =some u:=by
  show its.toArray[its.length - 1]? =some u;rw[<-Array.getElem?_toList,<-d];exact f
 refine call_meets F.slot_list_pop ⟨_,e,rfl⟩ F.entry_list_pop (F.args_list_pop_1 _) (MeetsSeq.list_pop_last l its.toArray n u c (by rw[r_7];omega)) ⟨e,?_⟩;refine⟨y,_,I.lset (its':=its.dropLast) a e ?_ r.dropLast ?_, ru,q⟩
 ·show its.toArray.eraseIdxIfInBounds (its.toArray.size - 1)=its.dropLast.toArray
  rw[r_7,List.eraseIdxIfInBounds_toArray,i_n]
 ·rw[List.length_dropLast]
  omega
def p_K:V->List V->Hp->VK->Prop:=λx vs H Q=>∃l xs i k y,x= .ref l/\vs= [.int i]/\H l=some (.lst xs)/\-(2 ^ 63)<=i/\i < 2 ^ 63/\seqIndex? i xs.length=some k/\xs[k]? =some y/\Q y (upd H l (.lst (xs.eraseIdx k)))
theorem i_c:MtM X "list.pop" p_K:=by
 intro pins s σ H x vs v us Q I rx rv h;obtain⟨l,xs,i,k,y,rfl,rfl,a,b,f,g,j,q⟩:=h;cases rx;obtain⟨u,rfl,ru⟩:=rv.one;obtain⟨t,rfl⟩:=ru;obtain⟨z,its,n,r,c,e⟩:=I.lstM a;obtain⟨w,d,rw'⟩:=r.get j
 refine call_meets F.slot_list_pop ⟨_,e,rfl⟩ F.entry_list_pop (F.args_list_pop_2 _ _)
  (MeetsSeq.list_pop_at l its.toArray n i t k w (fitsIndex_both b f) (by rw[r_7,<-c];exact g) (by rw[<-Array.getElem?_toList];exact d) (by rw[r_7];omega)) ⟨e,?_⟩
 refine⟨y,_,I.lset (its':=its.eraseIdx k) a e ?_ (r.eraseIdx k) ?_, rw',q⟩
 ·show its.toArray.eraseIdxIfInBounds k=(its.eraseIdx k).toArray
  rw[List.eraseIdxIfInBounds_toArray]
 ·have:=e_I xs k
  omega
def r_A:R2:=λx y H Q=>∃l b xs zs,x= .ref l/\y= .ref b/\H l=some (.lst xs)/\H b=some (.lst zs)/\xs.length+zs.length<=sizeLine/\∀p,H p=none->Q (.ref p) (upd H p (.lst (xs++zs)))
theorem c_T:OpR X (binaryOp .Add) r_A:=by
 intro pins s σ H x y v u Q I rx ry h;obtain⟨l,b,xs,zs,rfl,rfl,c,d,o,q⟩:=h;cases rx;cases ry;obtain⟨z,its,n,r,j,e⟩:=I.lstM c;obtain⟨m,a,k,f,i,g⟩:=I.lstM d;refine PySem.P.add_list e g ?_ (by rw[r_7,r_7];omega);have ea:its.toArray++a.toArray=(its++a).toArray:=by simp
 rw[ea];exact⟨.ref _,_,I.lnew (t':=s.toks) (r.append f) (by rw[r_Z];omega),rfl,q _ I.fresh⟩
def r_F:R2:=λx y H Q=>∃l k xs,x= .ref l/\y= .int k/\H l=some (.lst xs)/\-(2 ^ 63)<=k/\k < 2 ^ 63/\xs.length * k.toNat<=sizeLine/\
 ∀p,H p=none->Q (.ref p) (upd H p (.lst (List.replicate k.toNat xs).flatten))
theorem m_S {α:Type} (xs:List α) (k:Nat):(List.replicate k xs).flatten.length=k * xs.length:=by
 induction k with
 | zero=>simp
 | succ k ih=>rw[List.replicate_succ,s_q,r_Z,ih,Nat.succ_mul,Nat.add_comm]
theorem o_w:OpR X (binaryOp .Mult) r_F:=by
 intro pins s σ H x y v u Q I rx ry h;obtain⟨l,k,xs,rfl,rfl,p,C,A,o,q⟩:=h;cases rx;obtain⟨t,rfl⟩:=ry;obtain⟨z,its,n,r,w,e⟩:=I.lstM p;have f:its.toArray.size * k.toNat<=sizeLine:=by rw[r_7,<-w];exact o
 have i:¬ its.toArray.size * k.toNat > (2 ^ 63 - 1) / 8:=by
  have:(sizeLine:Nat)<=(2 ^ 63 - 1) / 8:=by decide
  omega
 have j:¬ (!Builtin.List.listFitsIndex k)=true:=by
  rw[fitsIndex_both C A];exact s_e
 have b:¬ Builtin.List.listTooLong (its.toArray.size * k.toNat)=true:=by
  rw[f_n f];exact s_e
 have c:List.foldl (λd g=>d++g) #[] (List.replicate (if its.toArray.isEmpty=true then 0 else k.toNat) its.toArray)=(List.replicate k.toNat its).flatten.toArray:=by
  have B:∀m:Nat,List.foldl (λd g=>d++g) #[] (List.replicate m its.toArray)=(List.replicate m its).flatten.toArray:=λm=>by
   have:=f_4 its m [];rw[List.nil_append] at this;exact this
  rw[B];cases its with
  | nil=>simp
  | cons a r'=>rw[if_neg (by simp)]
 refine wpAny_binaryOp_repeat_ref (T:="list") (U:="int") (by decide) ⟨_,e,rfl⟩ (λs'=>typeIs_int s' k t) noFill_list_mul F.fills_int_mul F.slot_int_rmul repeat_list F.slot_int_index.lookup
  (call_meets F.slot_int_rmul (typeIs_int s k t) F.entry_int_rmul (F.args_int_rmul_2 _ _) (int___rmul___int_list k t l its.toArray n)
    ⟨e,rfl,⟨_,e,rfl⟩,call_meets F.slot_list_mul ⟨_,e,rfl⟩ F.entry_list_mul (F.args_list_mul_2 _ _) (AutoListH.list___mul___list_int_3 l its.toArray n k t j i b) ⟨e,?_⟩⟩)
 rw[c];exact⟨.ref _,_,I.lnew (t':=s.toks) (r.rep k.toNat) (by rw[m_S,Nat.mul_comm];exact o),rfl,q _ I.fresh⟩
end
section
variable {prog:Program} {w:World} {A:Around} {E:Value->Shared->Prop} {s:Shared}
end
section
variable {X:Cx}
end
section
variable {κ:Type} [DecidableEq κ]
def d_K (kvs:List (κ×V)) (k:κ):Option V:=(kvs.find? λkv=>decide (kv.1=k)).map (·.2)
def d_q (kvs:List (κ×V)) (k:κ) (v:V):List (κ×V):=
 if (kvs.any λkv=>decide (kv.1=k))=true then kvs.map (λkv=>if kv.1=k then (kv.1,v) else kv) else kvs++ [(k,v)]
def d_I (kvs:List (κ×V)) (k:κ):List (κ×V):=kvs.filter λkv=>decide (kv.1≠k)
theorem b_Y {p:κ×V} {r:List (κ×V)} {k:κ} (e:p.1=k):d_K (p::r) k=some p.2:=by simp[d_K,List.find?_cons,e]
theorem b_t {p:κ×V} {r:List (κ×V)} {k:κ} (e:¬ p.1=k):d_K (p::r) k=d_K r k:=by simp[d_K,List.find?_cons,e]
theorem d_8 (k:κ):∀kvs:List (κ×V),(kvs.any λkv=>decide (kv.1=k))=(d_K kvs k).isSome
 | []=>rfl
 | p::r=>by
   rw[List.any_cons];by_cases e:p.1=k
   ·simp only[b_Y e,s_D e,Bool.true_or,Option.isSome_some]
   ·rw[b_t e,s_E e,Bool.false_or];exact d_8 k r
theorem c_6 (kvs:List (κ×V)) (k:κ) (v:V):(d_q kvs k v).length<=kvs.length+1:=by
 unfold d_q;split
 ·rw[r_X];omega
 ·rw[r_Z,r_3,s_x];omega
theorem d_X {kvs:List (κ×V)} {k:κ} (v:V) (h:d_K kvs k=none):d_q kvs k v=kvs++ [(k,v)]:=by
 unfold d_q;rw[d_8,h];exact if_neg (by decide)
theorem RelO.isSome_eq {o:Option V} {u:Option Value} (r:RelO o u):o.isSome=u.isSome:=by
 cases o with
 | none=>cases u with
   | none=>rfl
   | some _=>exact (show False from r).elim
 | some _=>cases u with
   | none=>exact (show False from r).elim
   | some _=>rfl
theorem RelO.getD {o:Option V} {u:Option Value} {d:V} {d':Value} (r:RelO o u) (rd:RelV d d'):RelV (o.getD d) (u.getD d'):=by
 cases o with
 | none=>cases u with
   | none=>exact rd
   | some _=>exact (show False from r).elim
 | some _=>cases u with
   | none=>exact (show False from r).elim
   | some _=>exact r
theorem KV.val {kvs:List (κ×V)} {vs:List (κ×Value)} (r:KV kvs vs) (k:κ):RelO (d_K kvs k) (valueAt vs k):=by
 unfold KV at r;induction r with
 | nil=>exact True.intro
 | @cons p q ps qs h t ih=>
   obtain⟨a,c⟩:=h;by_cases e:p.1=k
   ·have e':q.1=k:=a.symm.trans e
    have b:valueAt (q::qs) k=some q.2:=by simp[valueAt,List.find?_cons,e']
    rw[b_Y e,b];exact c
   ·have e':¬ q.1=k:=λz=>e (a.trans z)
    have b:valueAt (q::qs) k=valueAt qs k:=by simp[valueAt,List.find?_cons,e']
    rw[b_t e,b];exact ih
theorem KV.any {kvs:List (κ×V)} {vs:List (κ×Value)} (r:KV kvs vs) (k:κ):(kvs.any λkv=>decide (kv.1=k))=vs.any λkv=>decide (kv.1=k):=by
 unfold KV at r;induction r with
 | nil=>rfl
 | cons h t ih=>rw[List.any_cons,List.any_cons,ih,h.1]
theorem KV.repl {kvs:List (κ×V)} {vs:List (κ×Value)} (r:KV kvs vs) (k:κ) {y:V} {u:Value} (ry:RelV y u):
 KV (kvs.map λkv=>if kv.1=k then (kv.1,y) else kv) (vs.map λkv=>if kv.1=k then (kv.1,u) else kv):=by
 unfold KV at r ⊢;induction r with
 | nil=>exact .nil
 | @cons p q ps qs h t ih=>
   rw[s_c,s_c];refine .cons ?_ ih;obtain⟨a,b⟩:=h;by_cases e:p.1=k
   ·rw[if_pos e,if_pos (a.symm.trans e)];exact⟨a,ry⟩
   ·rw[if_neg e,if_neg (λz=>e (a.trans z))];exact⟨a,b⟩
theorem KV.put {kvs:List (κ×V)} {vs:List (κ×Value)} (r:KV kvs vs) (k:κ) {y:V} {u:Value} (ry:RelV y u):KV (d_q kvs k y) (stored vs k u):=by
 unfold d_q stored;rw[r.any k];by_cases e:(vs.any λkv=>decide (kv.1=k))=true
 ·rw[if_pos e,if_pos e];exact r.repl k ry
 ·rw[if_neg e,if_neg e];exact Paired.snoc r ⟨rfl,ry⟩
theorem KV.drop {kvs:List (κ×V)} {vs:List (κ×Value)} (r:KV kvs vs) (k:κ):KV (d_I kvs k) (without vs k):=by
 unfold KV at r ⊢;unfold d_I without;induction r with
 | nil=>exact .nil
 | @cons p q ps qs h t ih=>
   obtain⟨c,d⟩:=h;rw[s_m,s_m];by_cases e:p.1=k
   ·have a:¬ decide (p.1≠k)=true:=by simp[e]
    have b:¬ decide (q.1≠k)=true:=by simp[c.symm.trans e]
    rw[if_neg a,if_neg b];exact ih
   ·have e':¬ q.1=k:=λz=>e (c.trans z)
    have a:decide (p.1≠k)=true:=by simp[e]
    have b:decide (q.1≠k)=true:=by simp[e']
    rw[if_pos a,if_pos b];exact .cons ⟨c,d⟩ ih
theorem KV.length {kvs:List (κ×V)} {vs:List (κ×Value)} (r:KV kvs vs):kvs.length=vs.length:=Paired.length r
theorem h_9 (kvs:List (κ×V)) (k:κ):(d_I kvs k).length<=kvs.length:=s_y _ _
end
theorem f_M {P:Program} {w:World} {k:Key} {u:Value} (r:RelV (kV k) u):(a_Y P w).is k u=true:=by
 cases k with
 | inl i=>obtain⟨t,e⟩:=(show ∃t,u=Value.int i t from r);subst e;exact h_c P w i t
 | inr x=>obtain⟨t,e⟩:=(show ∃t,u=Value.str x t from r);subst e;exact h_E P w x t
theorem g_q {P:Program} {w:World}:∀{ks:List Key} {us:List Value},Vals (ks.map kV) us->ItemsAre (a_Y P w) ks us
 | [],_,r=>by rw[List.map_nil] at r;cases r;exact .nil
 | k::ks,_,r=>by
   rw[s_c] at r;cases r with
   | cons h t=>exact .cons (f_M h) (g_q t)
abbrev KT (H:Hp):List (List Key×V)->List (List Key×Addr×Value)->Prop:=Paired λp q=>p.1=q.1/\H q.2.1=some (.tup (p.1.map kV))/\RelV p.2 q.2.2
theorem KT.val {H:Hp} {kvs:List (List Key×V)} {xs:List (List Key×Addr×Value)} (r:KT H kvs xs) (k:List Key):RelO (d_K kvs k) ((atKey xs k).map (·.2)):=by
 induction r with
 | nil=>exact True.intro
 | @cons p q ps qs h t ih=>
   obtain⟨a,_,c⟩:=h;by_cases e:p.1=k
   ·have e':q.1=k:=a.symm.trans e
    have b:atKey (q::qs) k=some q.2:=by simp[atKey,List.find?_cons,e']
    rw[b_Y e,b];exact c
   ·have e':¬ q.1=k:=λz=>e (a.trans z)
    have b:atKey (q::qs) k=atKey qs k:=by simp[atKey,List.find?_cons,e']
    rw[b_t e,b];exact ih
theorem KT.repl {H:Hp} {kvs:List (List Key×V)} {xs:List (List Key×Addr×Value)} (r:KT H kvs xs) (k:List Key) {y:V} {u:Value} (ry:RelV y u):
 KT H (kvs.map λkv=>if kv.1=k then (kv.1,y) else kv) (xs.map (putAt k u)):=by
 induction r with
 | nil=>exact .nil
 | @cons p q ps qs h t ih=>
   rw[s_c,s_c];refine .cons ?_ ih;obtain⟨a,b,c⟩:=h;unfold putAt;by_cases e:p.1=k
   ·rw[if_pos e,if_pos (a.symm.trans e)];exact⟨a,b,ry⟩
   ·rw[if_neg e,if_neg (λz=>e (a.trans z))];exact⟨a,b,c⟩
theorem KT.put {H:Hp} {kvs:List (List Key×V)} {xs:List (List Key×Addr×Value)} (r:KT H kvs xs) (k:List Key) {b:Addr} {y:V} {u:Value} (hb:H b=some (.tup (k.map kV))) (ry:RelV y u):
 KT H (d_q kvs k y) (storedH xs k b u):=by
 have e:(kvs.any λkv=>decide (kv.1=k))=(atKey xs k).isSome:=by
  rw[d_8,(r.val k).isSome_eq,Option.isSome_map]
 unfold d_q storedH;rw[e];by_cases q:(atKey xs k).isSome=true
 ·rw[if_pos q,if_pos q];exact r.repl k ry
 ·rw[if_neg q,if_neg q];exact Paired.snoc r ⟨rfl,hb,ry⟩
theorem KT.keeps {H H':Hp} {kvs:List (List Key×V)} {xs:List (List Key×Addr×Value)} (r:KT H kvs xs) (ht:∀b ys,H b=some (.tup ys)->H' b=some (.tup ys)):KT H' kvs xs:=
 Paired.mapP r λ_ _ z=>⟨z.1,ht _ _ z.2.1,z.2.2⟩
section
variable {P:Program} {w:World} {H:Hp} {h:Heap} {a:Addr}
theorem o_P {u:HO} (ok:HOk P w H h) (e:Rd H a u):ObjOk P w H h a u:=e.ok ok
theorem g_z {kvs:List (Key×V)} (ok:HOk P w H h) (e:Rd H a (.dK kvs)):kvs.length<=sizeLine/\(a == sysModules)=false/\∃vs,KV kvs vs/\h.DictOf (a_Y P w) a vs:=
 show ObjOk P w H h a (.dK kvs) from o_P ok e
theorem i_L {kvs:List (Key×V)} (ok:HOk P w H h) (e:H a=some (.dK kvs)):kvs.length<=sizeLine/\(a == sysModules)=false/\∃vs,KV kvs vs/\h.DictOf (a_Y P w) a vs:=g_z ok (.inl e)
theorem f_i {ks:List Key} (ok:HOk P w H h) (e:H a=some (.tup (ks.map kV))):(tupleKind (a_Y P w)).is h ks a:=by
 obtain⟨_,its,r,o,h1,h2,n,h3⟩:=(show ObjOk P w H h a (.tup (ks.map kV)) from ok a _ e);exact⟨o,its.toArray,n,h1,h2,h3,by simpa using g_q r⟩
theorem h_D {kvs:List (List Key×V)} (ok:HOk P w H h) (e:Rd H a (.dT kvs)):kvs.length<=sizeLine/\(a == sysModules)=false/\
 ∃xs,KT H kvs xs/\h.DictOfH (tupleKind (a_Y P w)) a xs:=by
 obtain⟨z,y,xs,r,o,es,ep,i,d,f,c,g⟩:=(show ObjOk P w H h a (.dT kvs) from o_P ok e);refine⟨z,y,xs,r,o,es,ep,i,d,f,c,λx b=> ?_, g⟩
 have all:∀{l:List (List Key×V)} {m:List (List Key×Addr×Value)},KT H l m->∀x∈m,(tupleKind (a_Y P w)).is h x.1 x.2.1:=by
  intro l m q;induction q with
  | nil=>intro x b;exact nomatch b
  | @cons p q ps qs hq t ih=>
    intro x b;rcases r_8.mp b with e | b
    ·subst e
     exact f_i ok (by rw[<-hq.1];exact hq.2.1)
    ·exact ih x b
 exact all r x b
theorem q_p {kvs:List (List Key×V)} (ok:HOk P w H h) (e:H a=some (.dT kvs)):kvs.length<=sizeLine/\(a == sysModules)=false/\
 ∃xs,KT H kvs xs/\h.DictOfH (tupleKind (a_Y P w)) a xs:=h_D ok (.inl e)
end
def DGet (H:Hp) (a:Addr) (y:V) (r:Option V):Prop:=
 (∃kvs k,Rd H a (.dK kvs)/\y=kV k/\r=d_K kvs k)\/∃kvs k b,Rd H a (.dT kvs)/\y= .ref b/\H b=some (.tup (k.map kV))/\r=d_K kvs k
def DPut (H:Hp) (a:Addr) (y v:V) (H':Hp):Prop:=
 (∃kvs k,H a=some (.dK kvs)/\y=kV k/\kvs.length < sizeLine/\H'=upd H a (.dK (d_q kvs k v)))\/
 ∃kvs k b,H a=some (.dT kvs)/\y= .ref b/\H b=some (.tup (k.map kV))/\kvs.length < sizeLine/\H'=upd H a (.dT (d_q kvs k v))
theorem DGet.k {H:Hp} {a:Addr} {kvs:List (Key×V)} {k:Key} (e:H a=some (.dK kvs)):DGet H a (kV k) (d_K kvs k):= .inl ⟨kvs,k,.inl e,rfl,rfl⟩
theorem DPut.k {H:Hp} {a:Addr} {kvs:List (Key×V)} {k:Key} {v:V} (e:H a=some (.dK kvs)) (hl:kvs.length < sizeLine):DPut H a (kV k) v (upd H a (.dK (d_q kvs k v))):= .inl ⟨kvs,k,e,rfl,hl,rfl⟩
section
variable {X:Cx} {pins:List (Addr×Obj)} {σ:St} {H:Hp} {s:Shared} {a:Addr} {y v:V} {u r:Value} {o:Option V} {A:Around} {E:Value->Shared->Prop}
theorem Inv.big (I:Inv X pins σ H s):sysModules < s.heap.objs.size:=by
 have h:mainGlobals < s.heap.objs.size:=(I.mod.glob.keeps I.bk).lt;exact Nat.lt_trans (by decide) h
theorem k_M {Q:Value->Shared->Prop} (hu:A.units+1 < cLine) (I:Inv X pins σ H s) (g:DGet H a y (some v)) (ry:RelV y u) (h:∀w' s',Inv X pins σ H s'->RelV v w'->Q w' s'):
 wpAny (model X.prog X.w) A (getItem (.ref a) u) Q E s:=by
 rcases g with⟨kvs,k,e,ey,l⟩ | ⟨kvs,k,b,e,ey,eb,l⟩
 ·subst ey
  obtain⟨z,f,vs,rel,dd⟩:=g_z I.hok e;obtain⟨w',c,rw'⟩:=RelO.some_of (v:=v) (o:=valueAt vs k) (by rw[l];exact rel.val k);exact wpAny_getItem_of (f_M ry) dd.mapOf c (h w' _ (I.tok _) rw')
 ·subst ey
  cases (show u=Value.ref b from ry);obtain⟨z,f,xs,rel,dd⟩:=h_D I.hok e;obtain⟨w',c,rw'⟩:=RelO.some_of (v:=v) (o:=(atKey xs k).map (·.2)) (by rw[l];exact rel.val k);obtain⟨p,i,d⟩:=Option.map_eq_some_iff.mp c;refine wpAny_getItem_heap (tupleKind_room_in1 hu) (f_i I.hok eb) dd i ?_;rw[d];exact h w' _ (I.tok _) rw'
theorem r_R {Q:Value->Shared->Prop} (hu:A.units+1 < cLine) (I:Inv X pins σ H s) (g:DGet H a y o) (ry:RelV y u) (h:∀s',Inv X pins σ H s'->Q (.bool o.isSome) s'):
 wpAny (model X.prog X.w) A (compareOp .In u (.ref a)) Q E s:=by
 rcases g with⟨kvs,k,e,ey,l⟩ | ⟨kvs,k,b,e,ey,eb,l⟩
 ·subst ey
  obtain⟨z,c,vs,rel,dd⟩:=g_z I.hok e;refine wpAny_in_of (f_M ry) c dd.mapOf ?_;rw[<-(rel.val k).isSome_eq,<-l];exact h _ (I.tok _)
 ·subst ey
  cases (show u=Value.ref b from ry);obtain⟨z,c,xs,rel,dd⟩:=h_D I.hok e;refine wpAny_in_heap (tupleKind_room_in1 hu) (f_i I.hok eb) c dd ?_;have q:=(rel.val k).isSome_eq;rw[Option.isSome_map] at q;rw[<-q,<-l];exact h _ (I.tok _)
theorem n_I {Q:Value->Shared->Prop} (hu:A.units+1 < cLine) (I:Inv X pins σ H s) (g:DGet H a y o) (ry:RelV y u) (h:∀s',Inv X pins σ H s'->Q (.bool (!o.isSome)) s'):
 wpAny (model X.prog X.w) A (compareOp .NotIn u (.ref a)) Q E s:=by
 rcases g with⟨kvs,k,e,ey,l⟩ | ⟨kvs,k,b,e,ey,eb,l⟩
 ·subst ey
  obtain⟨z,c,vs,rel,dd⟩:=g_z I.hok e;refine wpAny_notIn_of (f_M ry) c dd.mapOf ?_;rw[<-(rel.val k).isSome_eq,<-l];exact h _ (I.tok _)
 ·subst ey
  cases (show u=Value.ref b from ry);obtain⟨z,c,xs,rel,dd⟩:=h_D I.hok e;refine wpAny_notIn_heap (tupleKind_room_in1 hu) (f_i I.hok eb) c dd ?_;have q:=(rel.val k).isSome_eq;rw[Option.isSome_map] at q;rw[<-q,<-l];exact h _ (I.tok _)
theorem e_B {h':Heap} {t':Nat} {ob:HO} (I:Inv X pins σ H s) (mu:Mut (H a)) (hs:Heap.SameBut a s.heap h') (he:∃q,h'.get? a=some q) (new:ObjOk X.prog X.w (upd H a ob) h' a ob):
 Inv X pins σ (upd H a ob) { s with heap:=h',toks:=t' }:=
 I.write (x:=a) (e:=a) mu (.inl rfl) (λb q hb z=>(hs.2 b hb).trans z) he new
theorem g_i {P:Program} {w:World} {H':Hp} {h':Heap} {kvs:List (Key×V)} {vs:List (Key×Value)} (z:kvs.length<=sizeLine) (hd:(a == sysModules)=false) (rel:KV kvs vs) (dd:h'.DictOf (a_Y P w) a vs):
 ObjOk P w H' h' a (.dK kvs):=⟨z,hd,vs,rel,dd⟩
theorem k_y {H':Hp} {Q:Unit->Shared->Prop} (hu:A.units+1 < cLine) (I:Inv X pins σ H s) (g:DPut H a y v H') (ry:RelV y u) (rv:RelV v r) (h:∀s',Inv X pins σ H' s'->Q () s'):
 wpAny (model X.prog X.w) A (setItem (.ref a) u r) Q E s:=by
 rcases g with⟨kvs,k,e,ey,l,eH⟩ | ⟨kvs,k,b,e,ey,eb,l,eH⟩
 ·subst ey eH
  obtain⟨z,f,vs,rel,dd⟩:=i_L I.hok e;have m:vs.length<=sizeLine:=by rw[<-rel.length];exact z
  have j:(d_q kvs k v).length<=sizeLine:=by have:=c_6 kvs k v;omega
  refine wpAny_setItem_pairs (hsz:=m) (f_M ry) dd λn dd' i=>h _ ?_;have p:∃q,n.get? a=some q:=let ⟨q,_,_,d,_⟩:=dd';⟨q,d⟩;exact e_B I (by rw[e];exact True.intro) i p (g_i j f (rel.put k rv) dd')
 ·subst ey eH
  cases (show u=Value.ref b from ry);obtain⟨z,f,xs,rel,dd⟩:=q_p I.hok e;have m:xs.length<=sizeLine:=by rw[<-Paired.length rel];exact z
  have j:(d_q kvs k v).length<=sizeLine:=by have:=c_6 kvs k v;omega
  refine wpAny_setItem_heap (hsz:=m) (tupleKind_room_in1 hu) (f_i I.hok eb) dd λn dd' i=>h _ ?_;obtain⟨q,es,ep,d,t,x,o,_,B⟩:=dd';refine e_B I (by rw[e];exact True.intro) i ⟨q,d⟩ ⟨j,f,_,(rel.put k eb rv).keeps λc ys ec=> ?_, q,es,ep,d,t,x,o,B⟩;rw[a_i (f_I ec e (λz=>nomatch z))];exact ec
end
section
variable {X:Cx} {pins:List (Addr×Obj)} {σ:St} {H:Hp} {s:Shared} {a:Addr} {kvs:List (Key×V)} {k:Key} {u:Value} {A:Around} {E:Value->Shared->Prop}
theorem o_y {Q:Unit->Shared->Prop} (I:Inv X pins σ H s) (e:H a=some (.dK kvs)) (ry:RelV (kV k) u) (l:(d_K kvs k).isSome=true) (h:∀s',Inv X pins σ (upd H a (.dK (d_I kvs k))) s'->Q () s'):
 wpAny (model X.prog X.w) A (delItem (.ref a) u) Q E s:=by
 obtain⟨z,c,vs,rel,dd⟩:=i_L I.hok e
 refine wpAny_delItem_slot dd.typeIs (by decide) PySem.F.slot_dict_delitem
  (call_meetsIn PySem.F.slot_dict_delitem dd.typeIs PySem.F.entry_dict_delitem (PySem.F.args_dict_delitem_2 _ _) (meets_dict_delitem_pairs (a_Y X.prog X.w) a (f_M ry)) ⟨vs,dd,by rw[<-rel.length];exact z,by rw[<-(rel.val k).isSome_eq];exact l,λf dd' b=>h _ ?_⟩)
 have d:∃q,f.get? a=some q:=let ⟨q,_,_,hq,_⟩:=dd';⟨q,hq⟩;exact e_B I (by rw[e];exact True.intro) b d (g_i (s_i (h_9 kvs k) z) c (rel.drop k) dd')
theorem q_Z {v:V} {more:List Value} {Q:Value->Shared->Prop} (I:Inv X pins σ H s) (e:H a=some (.dK kvs)) (ry:RelV (kV k) u) (l:d_K kvs k=some v) (hm:more= []\/∃x,more= [x])
 (h:∀w' s',Inv X pins σ (upd H a (.dK (d_I kvs k))) s'->RelV v w'->Q w' s'):wpAny (model X.prog X.w) A (call (.builtin "dict.pop") (.ref a::u::more)) Q E s:=by
 obtain⟨z,b,vs,rel,dd⟩:=i_L I.hok e;obtain⟨w',f,rw'⟩:=RelO.some_of (v:=v) (o:=valueAt vs k) (by rw[<-l];exact rel.val k)
 have d:(keyPart u).isSome=true:=by
  cases k with
  | inl i=>obtain⟨t,q⟩:=(show ∃t,u=Value.int i t from ry);subst q;rfl
  | inr x=>obtain⟨t,q⟩:=(show ∃t,u=Value.str x t from ry);subst q;rfl
 have m:argsOk "dict.pop" ⟨.ref a::u::more, []⟩:=by
  rcases hm with q | ⟨x,q⟩
  ·subst q;exact PySem.F.args_dict_pop_2 _ _
  ·subst q;exact PySem.F.args_dict_pop_3 _ _ _
 refine call_meetsIn PySem.F.slot_dict_pop dd.typeIs PySem.F.entry_dict_pop m (meets_dict_pop_there (a_Y X.prog X.w) a (f_M ry) more hm d)
  ⟨vs,w',dd,by rw[<-rel.length];exact z,f,λj dd' c=>h w' _ ?_ rw'⟩
 have g:∃q,j.get? a=some q:=let ⟨q,_,_,hq,_⟩:=dd';⟨q,hq⟩;exact e_B I (by rw[e];exact True.intro) c g (g_i (s_i (h_9 kvs k) z) b (rel.drop k) dd')
theorem q_k {Q:Value->Shared->Prop} (I:Inv X pins σ H s) (e:Rd H a (.dK kvs)) (h:∀t s',Inv X pins σ H s'->Q (.int kvs.length t) s'):wpAny (model X.prog X.w) A (call (.builtin "len") [.ref a]) Q E s:=by
 obtain⟨z,hd,vs,rel,dd⟩:=g_z I.hok e;refine call_len_dict hd dd (by rw[<-rel.length];rw[sizeLine_eq] at z;omega) ?_;rw[<-rel.length];exact h _ _ (I.tok _)
end
def r_a (i:Expr):Prop:=∀ov iv,subscripted i false ov iv=operate [ov,iv] (getItem ov iv)
theorem m_8 {prog:Program} {w:World} {A:Around} {E:Value->Shared->Prop} {s:Shared} {env:Env} {value slice:Expr} {pos:Pos} {T id:String} {Q:Value->Shared->Prop}
 (hl:typeLookup (.type T) "__getitem__"=pure (some (.builtin id))) (hs:r_a slice)
 (h:wpAny (model prog w) A (eval value env) (λo s₁=>wpAny (model prog w) A (eval slice env) (λi s₂=>s₂.TypeIs o T/\wpAny (model prog w) A (getItem o i) Q E s₂) E s₁) E s):
 wpAny (model prog w) A (eval (.Subscript value slice pos) env) Q E s:=by
 refine Subscript_ (wpAny_mono h (λo s₁ h₁=>wpAny_mono h₁ (λi s₂ h₂=> ?_) λ_ _ x=>x) λ_ _ x=>x);obtain⟨a,h₂⟩:=h₂;unfold subscriptTail;refine wpAny_bind ?_;rw[getitemInPython_of_ne a.not_modules];refine wpAny_bind (wpAny_specialOf a hl ?_)
 have fin:wpAny (model prog w) A (subscripted slice false o i) (λr s₃=>wpAny (model prog w) A (letTemporaryGo value o r >>= λ_=>pure r) Q E s₃) E s₂:=by
  rw[hs o i];exact wpAny_operating (wpAny_mono h₂ (λr s₃ h₃=>wpAny_bind (wpAny_letTemporaryGo (wpAny_pure h₃))) λ_ _ x=>x)
 first
  | exact wpAny_pure (wpAny_bind fin)
  | exact wpAny_bind (wpAny_pure (wpAny_bind fin))
  | exact wpAny_bind fin
theorem g_7 {X:Cx} {pins:List (Addr×Obj)} {σ:St} {H:Hp} {s:Shared} {a:Addr} {y:V} {o:Option V} (I:Inv X pins σ H s) (g:DGet H a y o):s.TypeIs (.ref a) "dict":=by
 rcases g with⟨kvs,k,e,_,_⟩ | ⟨kvs,k,b,e,_,_,_⟩
 ·obtain⟨_,_,vs,_,dd⟩:=g_z I.hok e
  exact dd.typeIs
 ·obtain⟨_,_,xs,_,dd⟩:=h_D I.hok e
  exact dd.typeIs
def q_Q (td ty:TE):TE:=λσ H Q=>td σ H λx H1=>ty σ H1 λy H2=>∃a v,x= .ref a/\DGet H2 a y (some v)/\Q v H2
def r_x (ty td:TE):TE:=λσ H Q=>ty σ H λy H1=>td σ H1 λx H2=>∃a o,x= .ref a/\DGet H2 a y o/\Q (.bl o.isSome) H2
def n_x (ty td:TE):TE:=λσ H Q=>ty σ H λy H1=>td σ H1 λx H2=>∃a o,x= .ref a/\DGet H2 a y o/\Q (.bl (!o.isSome)) H2
def q_u (td ty tv:TE):TS:=λD σ H=>tv σ H λv H1=>td σ H1 λx H2=>ty σ H2 λy H3=>∃a H4,x= .ref a/\DPut H3 a y v H4/\D.nx σ H4
section
variable {X:Cx} {o i e value:Expr} {pos pos' tpos:Pos} {td ty tv:TE}
theorem b_n (hu:X.A.units+1 < cLine) (ho:PE X o td) (hi:PE X i ty) (hs:r_a i):PE X (.Subscript o i pos) (q_Q td ty):=by
 intro pins s σ H Q I h;refine m_8 PySem.F.slot_dict_getitem.lookup hs (thn (ho pins s σ H _ I h) λu d ⟨x,j,k,rx,e⟩=>thn (hi pins d σ j _ k e) λiv m ⟨y,c,b,ry,a,v,ex,g,l⟩=> ?_);subst ex;obtain rfl:u=Value.ref a:=rx;exact⟨g_7 b g,k_M hu b g ry λw' n f rw'=>⟨v,c,f,rw',l⟩⟩
theorem m_f (hu:X.A.units+1 < cLine) (hi:PE X i ty) (ho:PE X o td):PC X .In i o (r_x ty td):=by
 intro pins s σ H Q I h;refine thn (hi pins s σ H _ I h) λiv s1 ⟨y,H1,I1,ry,q1⟩=>thn (ho pins s1 σ H1 _ I1 q1) λu s2 ⟨x,H2,I2,rx,a,ov,ex,g,q2⟩=> ?_;subst ex;obtain rfl:u=Value.ref a:=rx;exact r_R hu I2 g ry λs3 I3=>⟨.bl ov.isSome,H2,I3,rfl,q2⟩
theorem d_s (hu:X.A.units+1 < cLine) (hi:PE X i ty) (ho:PE X o td):PC X .NotIn i o (n_x ty td):=by
 intro pins s σ H Q I h;refine thn (hi pins s σ H _ I h) λiv c ⟨y,j,k,ry,d⟩=>thn (ho pins c σ j _ k d) λu m ⟨x,b,f,rx,a,ov,ex,g,l⟩=> ?_;subst ex;obtain rfl:u=Value.ref a:=rx;exact n_I hu f g ry λn e=>⟨.bl (!ov.isSome),b,e,rfl,l⟩
theorem e_g (hu:X.A.units+1 < cLine) (ho:PE X o td) (hi:PE X i ty) (hv:PE X value tv) (hs:swapsWith value (some (.Subscript o i pos')) pos.line X.env=pure false):
 PS X (.Assign [.Subscript o i pos'] value pos) (q_u td ty tv):=by
 intro pins s σ H D I h;refine wpAny_Assign_Subscript (thn (hv pins s σ H _ I h) λr c ⟨v,m,n,rv,j⟩=>thn (ho pins c σ m _ n j) λu d ⟨x,b,l,rx,q⟩=>thn (hi pins d σ b _ l q) λiv w ⟨y,t,k,ry,a,f,ex,g,e⟩=> ?_) hs;subst ex;obtain rfl:u=Value.ref a:=rx;exact k_y hu k g ry rv λz p=>⟨σ,f,p,e⟩
end
theorem h_5 {P:Program} {w:World} {H:Hp} (h:Heap) (hb:sysModules < h.objs.size):ObjOk P w H (h.push { cls:= .type "dict",data:= .dict #[] }) h.objs.size (.dK []):=
 ⟨s_p _,beq_eq_false_iff_ne.mpr (Ne.symm (s_l hb)), [],.nil,Heap.DictOf.new h⟩
def o_L:TE:=λ_ H Q=>∀p,H p=none->Q (.ref p) (upd H p (.dK []))
section
variable {X:Cx} {pos:Pos}
theorem h_U:PE X (.Dict [] [] pos) o_L:=λpins s σ H Q I h=>
 wpAny_Dict_empty ⟨.ref s.heap.objs.size,_,I.laid (a:=s.heap.objs.size) (o:= .dK []) (t':=s.toks) (λ_ _ q=>Heap.get?_push_of_some _ q) (r_6 _) (h_5 s.heap I.big),rfl,h _ (I.hok.fresh (r_6 _))⟩
end
def j_6:List (TE×TE)->St->Hp->(List (V×V)->Hp->Prop)->Prop
 | [],_,H,Q=>Q [] H
 | (tk,tv)::r,σ,H,Q=>tk σ H λx H1=>tv σ H1 λy H2=>j_6 r σ H2 λps H3=>Q ((x,y)::ps) H3
abbrev VV:List (V×V)->List (Value×Value)->Prop:=Paired λp q=>RelV p.1 q.1/\RelV p.2 q.2
def PPs (X:Cx) (pos:Pos) (keys:List (Option Expr)) (values:List Expr) (trs:List (TE×TE)):Prop:=
 ∀(pins:List (Addr×Obj)) (s:Shared) (σ:St) (H:Hp) (Q:List (V×V)->Hp->Prop),Inv X pins σ H s->j_6 trs σ H Q->
  wpAny (model X.prog X.w) X.A (evalPairs (pairTrees keys values X.env pos)) (λvs s'=>∃ps H',Inv X pins σ H' s'/\VV ps vs/\Q ps H') X.xe s
theorem n_y {X:Cx} {pos:Pos}:PPs X pos [] [] []:=λpins s σ H Q I h=>pairTrees_nil_walk ⟨[],H,I,.nil,h⟩
theorem f_H {X:Cx} {pos:Pos} {k v:Expr} {ks:List (Option Expr)} {vs:List Expr} {tk tv:TE} {trs:List (TE×TE)} (hk:PE X k tk) (hv:PE X v tv) (hr:PPs X pos ks vs trs):
 PPs X pos (some k::ks) (v::vs) ((tk,tv)::trs):=λpins s σ H Q I h=>
 pairTrees_cons_walk (thn (hk pins s σ H _ I h) λu b ⟨x,j,l,rx,f⟩=>thn (hv pins b σ j _ l f) λo c ⟨y,a,i,ry,m⟩=>
  thn (hr pins c σ a _ i m) λws n ⟨ps,d,g,rel,e⟩=>⟨(x,y)::ps,d,g,.cons ⟨rx,ry⟩ rel,e⟩)
def e_k (kvs more:List (Key×V)):List (Key×V):=more.foldl (λacc kv=>d_q acc kv.1 kv.2) kvs
theorem KV.merge:∀{more:List (Key×V)} {rs:List (Key×Value)} {kvs:List (Key×V)} {vs:List (Key×Value)},KV more rs->KV kvs vs->KV (e_k kvs more) (merged vs rs):=by
 intro more rs kvs vs r;unfold KV at r;induction r generalizing kvs vs with
 | nil=>intro q;exact q
 | @cons p q ps qs h t ih=>
   intro a
   have e:KV (d_q kvs p.1 p.2) (stored vs q.1 q.2):=by
    have:=a.put p.1 h.2;rw[<-h.1];exact this
   exact ih e
theorem d_c:∀(more kvs:List (Key×V)),(e_k kvs more).length<=kvs.length+more.length
 | [],kvs=>by show kvs.length<=kvs.length+0;omega
 | p::r,kvs=>by
   have h1:=d_c r (d_q kvs p.1 p.2);have h2:=c_6 kvs p.1 p.2;show (e_k (d_q kvs p.1 p.2) r).length<=_;rw[r_3];omega
theorem f_e {P:Program} {w:World}:∀{kvs:List (Key×V)} {ws:List (Value×Value)},VV (kvs.map λkv=>(kV kv.1,kv.2)) ws->∃rs,Carries (a_Y P w) ws rs/\KV kvs rs
 | [],_,r=>by rw[List.map_nil] at r;cases r;exact⟨[],True.intro,.nil⟩
 | p::kvs,_,r=>by
   rw[s_c] at r;cases r with
   | @cons a b as bs h t=>
     obtain⟨rs,c,q⟩:=f_e (P:=P) (w:=w) t;obtain⟨e,d⟩:=b;exact⟨(p.1,d)::rs,⟨f_M h.1,rfl,c⟩,.cons ⟨rfl,h.2⟩ q⟩
def q_l (trs:List (TE×TE)):TE:=λσ H Q=>∀p,H p=none->j_6 trs σ (upd H p (.dK [])) λps H2=>H2 p=some (.dK [])/\∃kvs:List (Key×V),ps=kvs.map (λkv=>(kV kv.1,kv.2))/\kvs.length<=15/\Q (.ref p) (upd H2 p (.dK (e_k [] kvs)))
theorem m_O {X:Cx} {pos:Pos} {keys:List (Option Expr)} {values:List Expr} {trs:List (TE×TE)} (h:PPs X pos keys values trs) (hall:keys.all (·.isSome)=true) (hl:keys.length=values.length) (h0:keys≠ [])
 (h15:keys.length<=15):PE X (.Dict keys values pos) (q_l trs):=by
 intro pins s σ H Q I q;have j:=I.hok.fresh (r_6 s.heap.objs.size);have k:=I.laid (a:=s.heap.objs.size) (o:= .dK []) (h':=s.heap.push { cls:= .type "dict",data:= .dict #[] }) (t':=s.toks) (λ_ _ q=>Heap.get?_push_of_some _ q) (r_6 _) (h_5 s.heap I.big);refine wpAny_Dict_walk (knd:=a_Y X.prog X.w) hall hl h0 h15 (thn (h pins _ σ _ _ k (q _ j)) λws t ⟨ps,r,b,rel,e,kvs,ep,lk,m⟩=> ?_);subst ep;obtain⟨rs,c,rk⟩:=f_e (P:=X.prog) (w:=X.w) rel;obtain⟨z,d,p,g,dd⟩:=i_L b.hok e;cases g;refine⟨rs,c,dd,λh' dd' f=>⟨.ref s.heap.objs.size,_,?_, rfl,m⟩⟩
 have l:(e_k [] kvs).length<=sizeLine:=by
  have n:=d_c kvs [];rw[s_x] at n;rw[sizeLine_eq];omega
 have i:∃q,h'.get? s.heap.objs.size=some q:=let ⟨q,_,_,hq,_⟩:=dd';⟨q,hq⟩;exact e_B b (by rw[e];exact True.intro) f i (g_i l d (rk.merge .nil) dd')
structure M1 (X:Cx) (o:Expr) (m:Str) (apos:Pos) (e:Expr) (cpos:Pos):Prop where
 base:attributeBase o m X.env (eval o X.env)=eval o X.env
 few:((backTo cpos (starEach [e] X.env)).all (λx=> !x.1)&&(backToKw cpos (keywordEach [] X.env)).all (λx=>x.1.isSome)
  &&decide (([e]:List Expr).length+([]:List Keyword).length+(if ([]:List Keyword).isEmpty then 0 else 1) < 30))=true
 line:(apos.endLine == cpos.line)=true
 trees:backTo cpos (starEach [e] X.env)= [(false,eval e X.env)]
structure M2 (X:Cx) (o:Expr) (m:Str) (apos:Pos) (e f:Expr) (cpos:Pos):Prop where
 base:attributeBase o m X.env (eval o X.env)=eval o X.env
 few:((backTo cpos (starEach [e,f] X.env)).all (λx=> !x.1)&&(backToKw cpos (keywordEach [] X.env)).all (λx=>x.1.isSome)
  &&decide (([e,f]:List Expr).length+([]:List Keyword).length+(if ([]:List Keyword).isEmpty then 0 else 1) < 30))=true
 line:(apos.endLine == cpos.line)=true
 trees:backTo cpos (starEach [e,f] X.env)= [(false,eval e X.env),(false,eval f X.env)]
def IsD (H:Hp) (a:Addr):Prop:=(∃kvs,Rd H a (.dK kvs))\/∃kvs,Rd H a (.dT kvs)
theorem m_c {X:Cx} {pins:List (Addr×Obj)} {σ:St} {H:Hp} {s:Shared} {a:Addr} (I:Inv X pins σ H s) (d:IsD H a):
 s.TypeIs (.ref a) "dict"/\(∀b,Value.ref a= .ref b->∃ob,s.heap.get? b=some ob/\ob.dict=none)/\(a == sysModules)=false:=by
 rcases d with⟨kvs,e⟩ | ⟨kvs,e⟩
 ·obtain⟨_,f,vs,_,dd⟩:=g_z I.hok e
  refine⟨dd.typeIs,λb q=> ?_, f⟩;cases q;obtain⟨ob,_,_,c,g,_⟩:=dd;exact⟨ob,c,g.2.1⟩
 ·obtain⟨_,f,xs,_,dd⟩:=h_D I.hok e
  refine⟨dd.typeIs,λb q=> ?_, f⟩;cases q;obtain⟨ob,_,_,c,g,_⟩:=dd;exact⟨ob,c,g.2.1⟩
section
variable {X:Cx} {pins:List (Addr×Obj)} {σ:St} {H:Hp} {s:Shared} {a:Addr} {y d:V} {u r:Value} {o:Option V} {A:Around} {E:Value->Shared->Prop}
theorem o_Z {Q:Value->Shared->Prop} (hu:A.units+1 < cLine) (I:Inv X pins σ H s) (g:DGet H a y o) (ry:RelV y u) (rd:RelV d r) (h:∀w' s',Inv X pins σ H s'->RelV (o.getD d) w'->Q w' s'):
 wpAny (model X.prog X.w) A (call (.builtin "dict.get") [.ref a,u,r]) Q E s:=by
 rcases g with⟨kvs,k,e,ey,l⟩ | ⟨kvs,k,b,e,ey,eb,l⟩
 ·subst ey
  obtain⟨z,c,vs,rel,dd⟩:=g_z I.hok e;refine call_meetsIn PySem.F.slot_dict_get dd.typeIs PySem.F.entry_dict_get (PySem.F.args_dict_get_3 _ _ _) (meets_dict_get_default (a_Y X.prog X.w) a (f_M ry) c r) ⟨_,dd.mapOf,h _ _ (I.tok _) ?_⟩;rw[l];exact (rel.val k).getD rd
 ·subst ey
  cases (show u=Value.ref b from ry);obtain⟨z,c,xs,rel,dd⟩:=h_D I.hok e;refine call_meetsIn PySem.F.slot_dict_get dd.typeIs PySem.F.entry_dict_get (PySem.F.args_dict_get_3 _ _ _) (meetsH_dict_get_default (tupleKind (a_Y X.prog X.w)) a b c r) ⟨tupleKind_room_in1 hu,k,xs,f_i I.hok eb,dd,h _ _ (I.tok _) ?_⟩;rw[l];exact (rel.val k).getD rd
end
def p_O (td ty tx:TE):TE:=λσ H Q=>td σ H λx H1=>∃a,x= .ref a/\IsD H1 a/\ty σ H1 λy H2=>tx σ H2 λz H3=>∃o,DGet H3 a y o/\Q (o.getD z) H3
def o_A (td ty:TE):TE:=λσ H Q=>td σ H λx H1=>∃a,x= .ref a/\IsD H1 a/\ty σ H1 λy H2=>∃kvs k v,H2 a=some (.dK kvs)/\y=kV k/\d_K kvs k=some v/\Q v (upd H2 a (.dK (d_I kvs k)))
section
variable {X:Cx} {o e f:Expr} {apos cpos:Pos} {td ty tx:TE}
theorem l_x (hu:X.A.units+1 < cLine) (ho:PE X o td) (he:PE X e ty) (hf:PE X f tx) (m:M2 X o "get" apos e f cpos):PE X (.Call (.Attribute o "get" apos) [e,f] [] cpos) (p_O td ty tx):=by
 intro pins s σ H Q I h;refine wpAny_Call_method m.base m.few m.line PySem.F.plainAttrs_dict PySem.F.slot_dict_get PySem.F.type_dict_get (thn (ho pins s σ H _ I h) λu j ⟨x,t,b,rx,a,ex,d,p⟩=> ?_);subst ex;obtain rfl:u=Value.ref a:=rx;obtain⟨w,c,_⟩:=m_c b d;refine⟨w,c,?_⟩;rw[m.trees]
 refine Calls.callWith_builtin rfl (Calls.evalArgs_plain (Calls.spliced_cons (thn (he pins j σ t _ b p) λiv k ⟨y,i,r,ry,B⟩=>
  Calls.spliced_cons (thn (hf pins k σ i _ r B) λfv C ⟨z,l,q,rz,ov,g,n⟩=>Calls.spliced_nil ?_))))
 exact o_Z hu q g ry rz λw' E v rw'=>⟨_,l,v,rw',n⟩
theorem h_2 (ho:PE X o td) (he:PE X e ty) (m:M1 X o "pop" apos e cpos):PE X (.Call (.Attribute o "pop" apos) [e] [] cpos) (o_A td ty):=by
 intro pins s σ H Q I h;refine wpAny_Call_method m.base m.few m.line PySem.F.plainAttrs_dict PySem.F.slot_dict_pop PySem.F.type_dict_pop (thn (ho pins s σ H _ I h) λu f ⟨x,n,b,rx,a,ex,d,g⟩=> ?_);subst ex;obtain rfl:u=Value.ref a:=rx;obtain⟨p,c,_⟩:=m_c b d;refine⟨p,c,?_⟩;rw[m.trees];refine Calls.callWith_builtin rfl (Calls.evalArgs_plain (Calls.spliced_cons (thn (he pins f σ n _ b g) λiv t ⟨y,r,j,ry,kvs,k,v,ea,ey,l,q⟩=>Calls.spliced_nil ?_)));subst ey;exact q_Z j ea ry l (.inl rfl) λw' w i rw'=>⟨v,_,i,rw',q⟩
end
section
variable {X:Cx} {pins:List (Addr×Obj)} {σ:St} {H:Hp} {s:Shared} {a:Addr} {kvs:List (Key×V)} {A:Around} {E:Value->Shared->Prop}
end
section
variable {X:Cx} {pins:List (Addr×Obj)} {σ:St} {H:Hp} {s:Shared} {a:Addr} {y:V} {u:Value} {A:Around} {E:Value->Shared->Prop}
end
end L2
namespace Att
open PySem PySem.W PySem.Calls PyProof.Rows
theorem e_L {P:Params} {h:Heap}:∀(ns:List Int) (vs:List Value),WellAll P h vs (ns.map WData.int)->IntsAre vs ns:=by
 intro ns;induction ns with
 | nil=>
   intro vs w;rw[List.map_nil] at w;cases w;exact .nil
 | cons n ns ih=>
   intro vs w;rw[s_c] at w;cases w with
   | cons a b=>
     cases a;exact .cons _ _ (ih _ b)
theorem k_n {l:OpenLaw} {n:Nat} (hn:l.most=some n) {P:Params} {h:Heap} {args:List WData} {vals:List Value}
 (hpre:l.row.toRowW.claim.pre args=true) (hwl:WellAll P h vals args):
 ∃a vs ns,vals= [Value.ref a]/\args= [WData.list (ns.map WData.int)]/\h.get? a=some { cls:= .type "list",data:= .seq vs.toArray }/\IntsAre vs ns/\ns.length<=n:=by
 have i:WShape.hasAll [] args [.list .int]=true:=(pre_splitW hpre).1;have g:l.pre.holds [] { args:=args }=true:=(pre_splitW hpre).2;obtain⟨d,r,rfl,s,k⟩:=hasAllW_cons i;obtain rfl:=hasAllW_nil k;obtain⟨xs,rfl,p⟩:=hasW_list s;obtain⟨ns,rfl⟩:=items_int p
 have e:ns.length<=n:=by
  unfold OpenLaw.pre at g
  have b:(WTm.not (.lt (.lit (.int (n:Int))) (.len (.arg 0)))).holds [] { args:= [.list (ns.map .int)] }=true:=by
   have b:=(holds_andW g).1;rw[hn] at b;exact b
  have c:=condW_of b (w_not (w_lt w_lit (w_len_list (w_arg rfl))));rw[r_X] at c;refine Nat.le_of_not_lt λq=> ?_;have q':(n:Int) < ((ns.length:Nat):Int):=by omega
  first
   | (rw[s_D q'] at c;exact absurd c (by decide))
   | (simp at c;omega)
 cases hwl with
 | cons m j=>
   cases j;cases m with
   | list o f=>exact⟨_,_,ns,rfl,rfl,o,e_L ns _ f,e⟩
theorem j_n (l:OpenLaw) (args:List WData):l.row.toRowW.claim.post args (.bool true) args=true:=
 postW_of (r:=l.row.toRowW) (X:=(true == true))
  (show WShape.has [] (.bool true) .bool=true by first | rfl | decide | simp[WShape.has,WShape.arms,WShape.armsAll])
  (show (WTm.eq .res (.lit (.bool true))).value [] { args:=args,res:=some (.bool true),after:=args }=some (.bool (true == true)) from w_eq_bool (w_res rfl) w_lit) rfl
theorem attach_call {l:OpenLaw} {n:Nat} {q:Program} {loose:List Str} {XP:(Str->Option Value)->Heap->Prop} {YP:World->Heap->Prop} {d:DefRec}
 (hn:l.most=some n) (hdf:d.params.defaults= [])
 (call:∀(w:World) (s₀ s₁:Shared) (mg mb:Str→Option Value) (fa:Addr) (o:Obj) (pm cd doc:Value) (a:Addr) (vs:List Value) (ns:List Int),
   Ground q loose [] XP w s₀ mg mb s₁.heap->YP w s₁.heap->
   s₁.heap.get? fa=some o->o.data= .func (docDef d.name d.params d.body d.scope pm cd doc)->s₁.heap.CodeRec cd d.name->mg d.name=some (.ref fa)->
   s₁.heap.get? a=some { cls:= .type "list",data:= .seq vs.toArray }->IntsAre vs ns->ns.length<=n->s₁.gens= #[]->
   codeAny (model l.prog w) callerA (.call (.ref fa) ⟨[.ref a], []⟩) (λr s'=>r= .ok (.ret (.bool true))/\OldK s₁.heap s'.heap/\s'.os=s₁.os/\AllBare s'.gens) s₁):
 WalkO q loose XP YP l.row.toRowW d [] (λf vs=>PySem.call f vs):=by
 intro w s₀ s₁ mg mb G Y fa o pm cd doc dV kV x m h i j v args vals as e p z g A;obtain rfl:dV= .none:=Dflts.none i hdf;obtain rfl:kV= .none:=Dflts.noKw i;obtain⟨a,vs,ns,rfl,rfl,c,hints,b⟩:=k_n hn e g;refine enter_call (codeAny_mono (call w s₀ s₁ mg mb fa o pm cd doc a vs ns G Y x (fd_plain m) h j c hints b v) λr s' s=> ?_);obtain⟨rfl,t,y,k⟩:=s;exact⟨.inl ⟨.bool true,.bool true, [],rfl,λ_=>rfl,.bool true,j_n l _,λ_=>⟨List.Pairwise.nil,λ_ u=>(nomatch u)⟩⟩,t,y,k⟩
section
variable {prog:Program} {w:World} {A:Around} {E:Value->Shared->Prop} {s:Shared} {K:Frag}
end
end Att
namespace L2
open PySem PySem.Spec PyProof.Rows
theorem g_L:∀{vs:List Value} {ns:List Int},IntsAre vs ns->Vals (ns.map V.int) vs
 | _,_,.nil=> .nil
 | _,_,.cons n t h=> .cons ⟨t,rfl⟩ (g_L h)
def q_i (H:Hp):Prop:=∀b,H b=none\/∃o xs,H b=some (.frz o (.lst xs))
theorem l_Y {P:Program} {w:World} {K:PySem.W.Frag} {mg mb:Str->Option Value} {CX:CXT} {k:Nat} {fa a:Addr} {fd:FuncData} {x:Str} {sp:Sp} {s₁:Shared} {vs:List Value} {ns:List Int}
 (KX:K.In s₁.heap) (hns:s₁.heap.Ns mainGlobals mg) (hb:s₁.heap.Ns builtinsNs mb) (hbb:∀x:Str,x≠"__name__"->mb x=bootBuiltins x) (hlim:s₁.heap.NoLimit) (hg:s₁.gens= #[])
 (ha:s₁.heap.get? a=some { cls:= .type "list",data:= .seq vs.toArray }) (hi:IntsAre vs ns) (hl:ns.length<=sizeLine) (hr:Room k callerA)
 (F:∀base:Heap,K.In base->base.Ns mainGlobals mg->FnOk P w K mg base CX k fa fd [x] sp) (hbind:∀(s:Shared) (u:Value),BindsTo s fd ⟨[u], []⟩ [(x,u)])
 (hsp:∀H:Hp,q_i H->SqL K H a (ns.map V.int)->sp [.ref a] H (λv _=>v= .bl true) λ_ _ _=>False)
 (hCX:∀H e s',CX [] H s₁ (λ_ _ _=>False) e s'->False):
 codeAny (model P w) callerA (.call (.ref fa) ⟨[.ref a], []⟩) (λr s'=>r= .ok (.ret (.bool true))/\OldK s₁.heap s'.heap/\s'.os=s₁.os/\AllBare s'.gens) s₁:=by
 have rv:=g_L hi;have lenV:=hi.length
 -- from an abstract heap in which nothing but the script may be tracked
 have core:∀H:Hp,q_i H->SqL K H a (ns.map V.int)->HOk P w H s₁.heap->(∀b,H b≠none->b=a)->(H a≠none->K.lookup a=none)->
  codeAny (model P w) callerA (.call (.ref fa) ⟨[.ref a], []⟩) (λr s'=>r= .ok (.ret (.bool true))/\OldK s₁.heap s'.heap/\s'.os=s₁.os/\AllBare s'.gens) s₁:=by
  intro H j t c p E;have base_of:∀{b:Addr} {o:Obj},s₁.heap.get? b=some o->H b=none->(l_H s₁.heap H).get? b=some o:=λe n=>l_X e n
  have noA:∀{b:Addr} {o:Obj} {es:Array DictEntry} {ep:Nat},s₁.heap.get? b=some o->o.data= .dict es ep->H b=none:=λ{b o es ep} e d=>by
   cases q:H b with
   | none=>rfl
   | some u=>
     have e':b=a:=p b (by rw[q];simp);subst e';rw[ha] at e;cases e;have d':Data.seq vs.toArray _=Data.dict es ep:=d;cases d'
  have nsK:∀{b:Addr} {m:Str->Option Value},s₁.heap.Ns b m->(l_H s₁.heap H).Ns b m:=λ{b m} ⟨o,es,ep,e,d,r⟩=>⟨o,es,ep,base_of e (noA e d),d,r⟩
  have f:K.In (l_H s₁.heap H):=λb o e=>base_of (KX b o e) (by
   cases q:H b with
   | none=>rfl
   | some u=>
     have e':b=a:=p b (by rw[q];simp);subst e';rw[E (by rw[q];simp)] at e;cases e)
  have C:Mod K mg (l_H s₁.heap H):=⟨f,nsK hns,⟨mb,nsK hb,hbb⟩,let ⟨mc,h1,h2⟩:=hlim;⟨mc,nsK h1,h2⟩⟩;have y:Env0 P w K mg (l_H s₁.heap H) callerA [] s₁ H:=⟨rfl,C,λb o e=>n_c e,Nat.le_of_eq (k_O _ _),trivial,λb hb=>absurd (show b∈([]:List Addr) from hb) (by simp),c,.of_eq hg⟩;refine codeAny_mono ((F _ f (nsK hns)).run callerA [] s₁ H ⟨[.ref a], []⟩ [.ref a] [.ref a] _ _ hr y (hbind s₁ (.ref a)) (.cons rfl .nil) (hsp H j t)) λr s' h=> ?_;cases r with
  | error e=>exact (hCX H e s' h).elim
  | ok fl=>
    cases fl with
    | next=>exact False.elim h
    | brk=>exact False.elim h
    | cont=>exact False.elim h
    | ret u=>
      obtain⟨v,H',os,bare,un,i,r',q⟩:=h;have q':v= .bl true:=q;subst q';obtain rfl:u=Value.bool true:=r';refine⟨rfl,OldK.of_keep λb o e=> ?_, os,bare⟩;cases q:H b with
      | none=>exact un.keep b o e q (by intro z;exact absurd (show b∈([]:List Addr) from z) (by simp)) (by simp)
      | some u=>
        rcases j b with z | ⟨ob,xs,z⟩
        ·rw[q] at z;cases z
        ·have A:=un.frzs b ob _ z
         obtain⟨l,_⟩:=c b _ z;obtain⟨B,_⟩:=i b _ A;rw[e] at l;cases l;exact B
 cases g:K.lookup a with
 | some o=>
   -- the script is one of the module's own objects
   have e:=KX a o g;rw[ha] at e;cases e;refine core (λ_=>none) (λ_=> .inl rfl) (.inr ⟨_,vs.toArray,_,g,rfl,rfl,rfl,by rw[r_7,lenV];exact hl,by simpa using rv⟩) (λb u z=>by have z':(none:Option HO)=some u:=z;cases z') (λb z=>absurd rfl z) λz=>absurd rfl z
 | none=>
   refine core (λb=>if b=a then some (.frz { cls:= .type "list",data:= .seq vs.toArray } (.lst (ns.map V.int))) else none) (λb=> ?_) (.inl (.inr ⟨{ cls:= .type "list",data:= .seq vs.toArray },if_pos rfl⟩)) (λb u z=> ?_) (λb z=> ?_) λ_=>g
   ·by_cases hb:b=a
    ·exact .inr ⟨_,_,if_pos hb⟩
    ·exact .inl (if_neg hb)
   ·by_cases hb:b=a
    ·have z':=(if_pos hb).symm.trans z
     cases z';subst hb;exact⟨ha,by rw[r_X];exact hl,vs,_,rv,ha⟩
    ·have z':=(if_neg hb).symm.trans z
     cases z'
   ·by_cases hb:b=a
    ·exact hb
    ·exact absurd (if_neg hb) z
abbrev KOf {K:PySem.W.Frag} {h:Heap} (_:K.In h):PySem.W.Frag:=K
theorem n_H {l:PySem.W.OpenLaw} {n k:Nat} {q:Program} {loose:List Str} {XP:(Str->Option Value)->Heap->Prop} {YP:World->Heap->Prop} {d:DefRec} {K:Params->PySem.W.Frag} {CX:World->CXT} {sp:World->Sp} {x:Str}
 (hn:l.most=some n) (hn2:n<=sizeLine) (hdf:d.params.defaults= []) (hr:Room k callerA)
 (hY:∀(w:World) (h:Heap),YP w h->(K w.params).In h)
 (F:∀(w:World) (mg:Str→Option Value) (fa:Addr) (h:Heap),(K w.params).In h→h.Ns mainGlobals mg→mg d.name=some (.ref fa)→
   ∃fd:FuncData,(∀(s:Shared) (u:Value),BindsTo s fd ⟨[u], []⟩ [(x,u)])/\
    ∀base:Heap,(K w.params).In base->base.Ns mainGlobals mg->FnOk l.prog w (K w.params) mg base (CX w) k fa fd [x] (sp w))
 (hsp:∀(w:World) (H:Hp) (a:Addr) (ns:List Int),ns.length<=n->q_i H->SqL (K w.params) H a (ns.map V.int)->sp w [.ref a] H (λv _=>v= .bl true) λ_ _ _=>False)
 (hCX:∀(w:World) (H:Hp) (s:Shared) (e:Value) (s':Shared),CX w [] H s (λ_ _ _=>False) e s'->False):
 PySem.W.WalkO q loose XP YP l.row.toRowW d [] (λf vs=>PySem.call f vs):=by
 refine Att.attach_call hn hdf λw s₀ s₁ mg mb fa o pm cd doc a vs ns G Y C B A m i hints c z=> ?_;have j:=hY w _ Y;obtain⟨fd,r,y⟩:=F w mg fa _ j G.T.g m;exact l_Y j G.T.g G.T.b G.T.builtins G.T.nolimit z i hints (s_i c hn2) hr y r (λH p t=>hsp w H a ns c p t) λH e s'=>hCX w H s₁ e s'
end L2
namespace L2
open PySem PySem.Spec PyProof.Rows
def a_4 (s:Stmt) (j:Nat):Stmt:=match s with
 | .ClassDef _ _ _ body _ _ _ _ _ _ _=>body.getD j (.Pass ⟨0,0,0,0⟩)
 | _=> .Pass ⟨0,0,0,0⟩
def e_y (s:Stmt):Arguments:=match s with
 | .FunctionDef _ a _ _ _ _ _ _ _ _=>a
 | _=>{ posonlyargs:= [],args:= [],vararg:=none,kwonlyargs:= [],kw_defaults:= [],kwarg:=none,defaults:= [] }
def c_5 (s:Stmt):List Stmt:=match s with
 | .FunctionDef _ _ b _ _ _ _ _ _ _=>b
 | _=> []
def a_n (s:Stmt):Scope:=match s with
 | .FunctionDef _ _ _ _ _ _ sc _ _ _=>sc
 | _=>{ kind:= .function,names:= [],isGenerator:=false,isCoroutine:=false }
abbrev CX0:CXT:=λ_ _ _ _ _ _=>False
abbrev E0:XK:=λ_ _ _=>False
theorem a_u {X:Cx}:c_A CX0 X E0:=λ_ _ _ _ _ _ _ h=>h.elim
structure Fun (K:PySem.W.Frag) (x qual:Str) (st:Stmt) (f:Addr) (fd:FuncData):Prop where
 ex:∃(oc:Value) (od:Option Addr) (kV doc pm:Value) (an:Option Addr) (cdv ct:Value) (osl:Array (Option Value)),
  fd=PySem.W.fnOf x qual (e_y st) (c_5 st) (a_n st) .none kV doc pm an cdv ct/\K.lookup f=some ⟨oc,od,.func fd,osl⟩/\PySem.W.codeIn K cdv qual=true
 kp:PySem.W.keepIn K (.ref f)=true
section
variable {P:Program} {w:World} {K:PySem.W.Frag} {mg:Str->Option Value} {base:Heap}
theorem Fun.ok {x qual:Str} {st:Stmt} {f:Addr} {fd:FuncData} {N ps:List Str} {k:Nat} {sp:Sp} (F:Fun K x qual st f fd) (S:a_s N ps (a_n st)) (len:∀vs H Q E,sp vs H Q E->vs.length=ps.length)
 (hbody:∀(cdv:Value) (A:Around) (outer:List Env) (s:Shared) (H:Hp) (vs:List V) (Q:VK) (E:XK),Room k (A.deeper (envOfC qual (a_n st) s.heap.objs.size f cdv))→sp vs H Q E→
   ∃t,PSs (i_R CX0 P w K mg base N qual (a_n st) f cdv A outer s H E).nox (c_5 st) t/\t { nx:=λ_ H'=>Q .non H',rt:=Q } (start N vs) H):FnOk P w K mg base CX0 (k+1) f fd ps sp:=by
 obtain⟨oc,od,kV,doc,pm,an,cdv,ct,osl,rfl,lk,a⟩:=F.ex;refine p_E lk a S len λA outer s H vs Q E c b=> ?_;obtain⟨t,h,q⟩:=hbody cdv A outer s H vs Q E c b;exact⟨t,h.nox,q⟩
theorem Fun.binds {x qual:Str} {st:Stmt} {f:Addr} {fd:FuncData} {ps:List Str} (F:Fun K x qual st f fd)
 (h:∀(kV doc pm:Value) (an:Option Addr) (cdv ct:Value) (us:List Value),us.length=ps.length->bindArgs (PySem.W.fnOf x qual (e_y st) (c_5 st) (a_n st) .none kV doc pm an cdv ct) ⟨us, []⟩=pure (ps.zip us)):Binds K fd ps []:=by
 obtain⟨oc,od,kV,doc,pm,an,cdv,ct,osl,rfl,lk,a⟩:=F.ex;exact .all (h kV doc pm an cdv ct)
theorem a_A {x qual:Str} {st:Stmt} {f:Addr} {oc:Value} {od an:Option Addr} {osl:Array (Option Value)} {kV doc pm cdv ct:Value} (l:K.lookup f=some ⟨oc,od,.func (PySem.W.fnOf x qual (e_y st) (c_5 st) (a_n st) .none kV doc pm an cdv ct),osl⟩)
 (c:PySem.W.codeIn K cdv qual=true) (k:PySem.W.keepIn K (.ref f)=true):Fun K x qual st f (PySem.W.fnOf x qual (e_y st) (c_5 st) (a_n st) .none kV doc pm an cdv ct):=⟨⟨oc,od,kV,doc,pm,an,cdv,ct,osl,rfl,l,c⟩,k⟩
end
theorem e_V {A:Around} {k:Nat} (hr:Room k A):A.units+1 < cLine:=s_C (Nat.add_le_add_left (by decide:1<=64) _) hr.units
theorem a_F {n:Nat} (h:n<=1000):n < sizeLine:=s_C h (by decide)
section
variable {X:Cx}
theorem pv (i:Nat) {x:Str} {pos:Pos} (hN:X.N[i]? =some x:=by rfl) (hv:Vis X.env.scope x:=by first | exact Or.inl rfl | exact Or.inr (Or.inl rfl) | exact Or.inr (Or.inr rfl)) (hd:(x == ("__debug__":Str))=false:=by decide)
 (hcd:(x == ("__classdict__":Str))=false:=by decide):PE X (.Name x pos) (q_9 i):=o_Y hN hv hd hcd
theorem f_8:d_a X (.builtin "len") (λxs H Q=>∃a kvs,xs= [V.ref a]/\H a=some (.dK kvs)/\Q (.int kvs.length) H):=by
 intro pins s σ H xs us Q I r h;obtain⟨a,kvs,rfl,ha,q⟩:=h;obtain⟨u,rfl,ru⟩:=i_r r;cases ru;exact q_k I (.inl ha) λt s' I'=>⟨.int kvs.length,H,I',⟨t,rfl⟩,q⟩
end
theorem i_W {A B:Prop} (h:B):if false=true then A else B:=by
 rw[if_neg s_e];exact h
theorem k_S {A B:Prop} (h:A):if true=true then A else B:=by
 rw[if_pos rfl];exact h
theorem a_x {c A B:Prop} [Decidable c] (h1:c->A) (h2:¬ c->B):if c then A else B:=by
 by_cases h:c
 ·rw[if_pos h]
  exact h1 h
 ·rw[if_neg h]
  exact h2 h
theorem p_t {c A B:Prop} [Decidable c] (hc:c) (h:B):if (!decide c)=true then A else B:=by
 rw[s_D hc];exact i_W h
def Same (H H':Hp):Prop:=∀b o,H b=some o->H' b=some o
theorem Same.refl (H:Hp):Same H H:=λ_ _ h=>h
theorem Same.trans {H H1 H2:Hp} (a:Same H H1) (b:Same H1 H2):Same H H2:=λc o h=>b c o (a c o h)
theorem Same.free {H H':Hp} (e:Same H H') {l:Addr} (h:H' l=Option.none):H l=Option.none:=by
 cases q:H l with
 | none=>rfl
 | some o=>
   rw[e l o q] at h;cases h
theorem Same.seq {K:PySem.W.Frag} {H H':Hp} {a:Addr} {xs:List V} (e:Same H H') (h:SqL K H a xs):SqL K H' a xs:=by
 rcases h with (h | ⟨o,h⟩) | h
 ·exact .inl (.inl (e _ _ h))
 ·exact .inl (.inr ⟨o,e _ _ h⟩)
 ·exact .inr h
section
variable {κ:Type} [DecidableEq κ]
end
end L2
namespace K1
open PySem L2
def r_G (K:PySem.W.Frag):List V->Hp->VK->Prop:=λxs H Q=>∃p ys,xs= [.ref p]/\(SqL K H p ys\/SqT K H p ys)/\Q (.int ys.length) H
theorem a_B {X:Cx} (K:PySem.W.Frag) (hK:X.K=K:=by rfl):d_a X (.builtin "len") (r_G K):=by subst hK;exact g_B
theorem a_j {X:Cx} (K:PySem.W.Frag) (hK:X.K=K:=by rfl):IxR X (r_c K):=by subst hK;exact o_N
theorem a_G {X:Cx} (K:PySem.W.Frag) (hK:X.K=K:=by rfl):IxR X (q_5 K):=by subst hK;exact n_v
theorem a_T {X:Cx} {tg l:Expr} {tl:TE} (K:PySem.W.Frag) (hl:PE X l tl) (hK:X.K=K:=by rfl):PI X tg l (o_5 K tl):=by subst hK;exact m_L hl
theorem b_K {X:Cx} (K:PySem.W.Frag) (hK:X.K=K:=by rfl):SlR X (r_b K):=by subst hK;exact n_M
def top (i:Nat):Stmt:=PySem.Challenge.pw_twoorders_k05_whole_broken_off.main.body.getD i (.Pass ⟨0,0,0,0⟩)
abbrev sCW:Stmt:=top 10
abbrev n_F:Stmt:=top 11
abbrev q_b:Stmt:=top 12
abbrev j_x:Stmt:=top 38
abbrev sAt:Stmt:=top 39
abbrev o_q:Stmt:=top 40
abbrev k_q:Stmt:=top 41
abbrev k_f:Stmt:=top 42
abbrev q_Y:Stmt:=top 43
abbrev j_1:Stmt:=top 48
abbrev f_A:Stmt:=top 49
abbrev n_J:Stmt:=top 52
abbrev g_U:Stmt:=top 53
abbrev h_k:Stmt:=top 54
abbrev h_e:Stmt:=top 55
abbrev i_Z:Stmt:=top 56
abbrev q_G:Stmt:=top 67
abbrev e_n:Stmt:=top 44
abbrev c_W:Stmt:=top 45
abbrev e_l:Stmt:=top 46
abbrev f_y:Stmt:=top 47
abbrev e_J:Stmt:=top 60
abbrev h_z:Stmt:=top 61
abbrev f_K:Stmt:=top 62
abbrev c_1:Stmt:=top 63
abbrev m_Q:Stmt:=top 64
abbrev d_B:Stmt:=top 65
abbrev e_u:Stmt:=top 66
abbrev c_i:Stmt:=top 57
abbrev h_d:Stmt:=top 58
abbrev h_A:Stmt:=top 59
abbrev f_l:Stmt:=top 14
abbrev h_r:Stmt:=top 15
abbrev n_t:Stmt:=top 16
abbrev f_J:Stmt:=top 17
abbrev m_0:Stmt:=top 18
abbrev n_b:Stmt:=top 19
abbrev f_x:Stmt:=top 29
abbrev j_H:Stmt:=top 30
abbrev k_e:Stmt:=top 31
abbrev k_R:Stmt:=top 32
abbrev q_z:Stmt:=top 33
abbrev p_2:Stmt:=top 34
abbrev dDo:Stmt:=top 35
abbrev q_a:Stmt:=top 36
abbrev c_w:Stmt:=top 50
abbrev d_D:Stmt:=top 51
abbrev sC:Stmt:=top 23
abbrev n_w:Stmt:=a_4 sC 0
abbrev n_2:Stmt:=a_4 sC 1
abbrev q_O:Stmt:=a_4 sC 2
abbrev n_h:Stmt:=a_4 sC 3
abbrev k_D:Stmt:=a_4 sC 4
abbrev n_Y:Stmt:=a_4 sC 5
abbrev sBA:Stmt:=a_4 sC 6
abbrev sRA:Stmt:=a_4 sC 7
abbrev j_z:Stmt:=a_4 sC 8
abbrev n_A:Stmt:=a_4 sC 9
abbrev sSC:Stmt:=top 25
abbrev n_O:Stmt:=a_4 sSC 0
abbrev i_Y:Stmt:=a_4 sSC 1
abbrev j_9:Stmt:=a_4 sSC 2
abbrev p_9:Stmt:=a_4 sSC 3
abbrev i_7:Stmt:=a_4 sSC 4
abbrev n_l:Stmt:=a_4 sSC 5
abbrev k_r:Stmt:=a_4 sSC 6
abbrev j_q:Stmt:=a_4 sSC 7
abbrev q_D:Stmt:=a_4 sSC 8
abbrev h_y:Stmt:=a_4 sSC 9
abbrev o_p:Stmt:=a_4 sSC 10
end K1
namespace PySem.SeqAt
open AutoSeq1 (wpAny_loadPart')
open MeetsSeq MeetsSeq2 MeetsSeq3 SeqRoads2
theorem f_q (l:Addr) (items:Array Value) (n:Nat) (x:Value) (e:Value->Bool) (j:Nat) (hj:j < items.size) (hit:e items[j]=true) (k:Nat) (hs1:items.size<=sizeLine):
 ∀i:Nat,j - i=k->i<=j->(∀m (hm:m < items.size),i<=m->m < j->e items[m]=false)->Meets (Builtin.«list.remove.loop» ⟨[.ref l,x,rawInt i], []⟩)
  (λA R s=>s.heap.get? l=some { cls:= .type "list",dict:=none,data:= .seq items n,slots:= #[] }/\(∀y,y∈items->EqAt A.in1 s y x (e y))/\R (.ok (.ret .none)) { s with heap:=s.heap.update l (Obj.mapSeq λxs=>xs.eraseIdxIfInBounds j) }):=by
 induction k with
 | zero=>
   intro i z q c prog w A R s h;obtain⟨t,g,d,tk,os⟩:=s;obtain⟨a,f,h⟩:=h;have o:i=j:=by omega
   subst o;wp_walk using wpAny_loadPart' a;have p:items[((i:Nat):Int).toNat]? =some items[i]:=by simp[hj]
   rw[p];refine wpAny_bind (f _ (Array.getElem_mem hj) prog w _ _ ?_);rw[hit];have r:(items.eraseIdxIfInBounds i).size<=sizeLine+1:=s_i (size_erased items _) (Nat.le_succ_of_le hs1);wp_walk using (wpAny_updateSeq a rfl (hz:=hs1) (_hz':=r)),wpAny_loadPart' a;simpa using h
 | succ k ih=>
   intro i z q c prog w A R s h;obtain⟨t,g,d,tk,os⟩:=s;obtain⟨a,f,h⟩:=h;have b:i < items.size:=by omega
   wp_walk using wpAny_loadPart' a;have p:items[((i:Nat):Int).toNat]? =some items[i]:=by simp[b]
   have u:((i:Int)+1)=((i+1:Nat):Int):=by push_cast;rfl
   rw[p];refine wpAny_bind (f _ (Array.getElem_mem b) prog w _ _ ?_);rw[c i b (r_6 _) (by omega)];wp_walk;rw[u]
   exact⟨plainId_quiet plain_remove_loop _,codeAny_builtin entry_remove_loop (by
    rw[Around.under_plainId plain_remove_loop _];exact ih (i+1) (by omega) (by omega) (λm hm B v=>c m hm (by omega) v) prog w A R _ ⟨a,f,h⟩)⟩
theorem list_removeAt (l:Addr) (items:Array Value) (n:Nat) (x:Value) (e:Value->Bool) (j:Nat) (hj:j < items.size)
 (hit:e items[j]=true) (hno:∀m (hm:m < items.size),m < j->e items[m]=false) (hs1:items.size<=sizeLine):
 Meets (Builtin.«list.remove» ⟨[.ref l,x], []⟩)
  (λA R s=>s.heap.get? l=some { cls:= .type "list",dict:=none,data:= .seq items n,slots:= #[] }/\(∀y,y∈items->EqAt A.in1 s y x (e y))/\R (.ok (.ret .none)) { s with heap:=s.heap.update l (Obj.mapSeq λxs=>xs.eraseIdxIfInBounds j) }):=by
 intro prog w A R s h;obtain⟨f,g,d,tk,os⟩:=s;obtain⟨a,b,h⟩:=h;wp_walk using wpAny_loadPart' a
 exact⟨plainId_quiet plain_remove_loop _,codeAny_builtin entry_remove_loop (by
  rw[Around.under_plainId plain_remove_loop _];exact f_q l items n x e j hj hit _ hs1 0 rfl (s_p _) (λm hm _ c=>hno m hm c) prog w A R _ ⟨a,b,h⟩)⟩
theorem list_extend_tupleAt (l:Addr) (items:Array Value) (n:Nat) (b:Addr) (items2:Array Value) (n2:Nat) (dd:Option Addr) (sl:Array (Option Value)) (hs0:¬(!items.isEmpty&&Builtin.List.listTooLong (items.size+items2.size))=true) (hs1:items.size<=sizeLine) (hs2:items.size+items2.size<=sizeLine+1):
 Meets (Builtin.«list.extend» ⟨[.ref l,.ref b], []⟩) (λ_ R s=>s.heap.get? l=some { cls:= .type "list",dict:=none,data:= .seq items n,slots:= #[] }/\s.heap.get? b=some { cls:= .type "tuple",dict:=dd,data:= .seq items2 n2,slots:=sl }/\R (.ok (.ret Value.none)) { s with heap:=s.heap.update l (Obj.mapSeq λx=>x++items2),toks:=s.toks }):=
 .of_wp λprog w A R s h=>by
  obtain⟨i,g,d,tk,os⟩:=s;obtain⟨a,e,h⟩:=h;have o:=AutoSeq1.idx_int;have m:=AutoSeq1.sub_tuple_tuple;have f:=AutoSeq1.sub_list_list;have j:=AutoSeq1.sub_tuple_list;have k:=AutoSeq1.sub_list_tuple;have c:(items++items2).size<=sizeLine+1:=by rw[Array.size_append];exact hs2
  wp_walk using (wpAny_updateSeq a rfl (hz:=hs1) (_hz':=c)),wpAny_loadPart' a,wpAny_loadPart' e;exact⟨_,rfl,h⟩
end PySem.SeqAt
namespace L2
open PySem PySem.Spec PyProof.Rows
def ltV:V->V->Bool
 | .int a,.int b=>decide (a < b)
 | .str a,.str b=>decide (a.cps.toList < b.cps.toList)
 | _,_=>false
def b_j:V->V->Bool
 | .int _,.int _=>true
 | .str _,.str _=>true
 | _,_=>false
def d_Q:List V->List V->Prop
 | x::xs,y::ys=>b_j x y=true/\d_Q xs ys
 | _,_=>True
def b_c:List V->List V->Bool
 | [], []=>false
 | [],_::_=>true
 | _::_, []=>false
 | x::xs,y::ys=>if x=y then b_c xs ys else ltV x y
theorem b_h (x y:V) (xs ys:List V):b_c (x::xs) (y::ys)=if x=y then b_c xs ys else ltV x y:=rfl
theorem d_C {A:Around} {s:Shared} {x y:V} {u v:Value} (rx:RelV x u) (ry:RelV y v) (h:b_j x y=true):SeqAt.EqAt A s u v (decide (x=y)):=by
 cases x with
 | int a=>
   cases y with
   | int b=>
     obtain⟨t,rfl⟩:=rx;obtain⟨t',rfl⟩:=ry;rw[h_q];exact SeqAt.EqAt.int_int a t b t'
   | _=>cases h
 | str a=>
   cases y with
   | str b=>
     have e:=m_h (A:=A) (s:=s) rx ry rfl rfl;rw[g_X];exact e
   | _=>cases h
 | _=>cases y <;> cases h
theorem i_h {prog:Program} {w:World} {A:Around} {E:Value->Shared->Prop} {s:Shared} {x y:V} {u v:Value} {Q:Value->Shared->Prop} (rx:RelV x u) (ry:RelV y v) (h:b_j x y=true) (q:Q (.bool (ltV x y)) s):
 wpAny (model prog w) A (compareOp .Lt u v) Q E s:=by
 cases x with
 | int a=>
   cases y with
   | int b=>
     obtain⟨t,rfl⟩:=rx;obtain⟨t',rfl⟩:=ry;exact lt_int q
   | _=>cases h
 | str a=>
   cases y with
   | str b=>
     obtain⟨t,rfl⟩:=rx;obtain⟨t',rfl⟩:=ry;exact lt_str q
   | _=>cases h
 | _=>cases y <;> cases h
section
open PySem.SeqAt
open PySem.AutoSeq1 (wpAny_loadPart')
open PySem.MeetsSeq PySem.MeetsSeq2 PySem.MeetsSeq3
theorem i_u (l b:Addr) (items items2:Array Value) (n n2:Nat) (dd dd2:Option Addr) (sl sl2:Array (Option Value)) (xs ys:List V) (hi:Vals xs items.toList) (hj:Vals ys items2.toList) (ha:d_Q xs ys):
 Meets (Builtin.«tuple.__lt__» ⟨[.ref l,.ref b], []⟩)
  (fun _ R s=>s.heap.get? l=some { cls:= .type "tuple",dict:=dd,data:= .seq items n,slots:=sl }∧s.heap.get? b=some { cls:= .type "tuple",dict:=dd2,data:= .seq items2 n2,slots:=sl2 }∧
    R (.ok (.ret (.bool (b_c xs ys)))) s):=
 .of_wp λprog w A R s h=>by
  obtain⟨o,g,d,tk,os⟩:=s;obtain⟨z,v,h⟩:=h;have G:=AutoSeq1.sub_tuple_tuple;have I:items.size=xs.length:=by rw[hi.length];simp
  have H:items2.size=ys.length:=by rw[hj.length];simp
  wp_walk using wpAny_loadPart' z,wpAny_loadPart' v,wpAny_forIn_list _ (λe_r b s'=>b.1=none/\s'=⟨o,g,d,tk,os⟩/\∃(vs ws:List Value) (xs' ys':List V),e_r=vs.zip ws/\
   Vals xs' vs/\Vals ys' ws/\d_Q xs' ys'/\xs'.length+items2.size=ys'.length+items.size/\R (.ok (.ret (.bool (b_c xs' ys')))) ⟨o,g,d,tk,os⟩) _
  case turn=>
   rintro⟨y,x⟩ e_r b s' ⟨m,rfl,vs,ws,xs',ys',c,k,i,j,a,f⟩;cases k with
   | nil=>rw[List.zip_nil_left] at c;cases c
   | @cons xa ua xr ur ra hvi'=>
     cases i with
     | nil=>rw[List.zip_nil_right] at c;cases c
     | @cons ya va yr vr rc hwi'=>
       rw[List.zip_cons_cons] at c;injection c with r p
       injection r with C B
       subst C B;rw[b_h] at f;simp only[r_3] at a;refine wpAny_bind (d_C ra rc j.1 prog w _ _ ?_);by_cases e:xa=ya
       ·rw[if_pos e] at f
        rw[s_D e];wp_walk;exact⟨rfl,rfl,_,_,_,_,p,hvi',hwi',j.2,by omega,f⟩
       ·rw[if_neg e] at f
        rw[s_E e];have t:∀(E:Value->Shared->Prop) (Q:Value->Shared->Prop),Q (.bool (ltV xa ya)) ⟨o,g,d,tk,os⟩->wpAny (model prog w) A.in1 (richCompare .Lt _ _) Q E ⟨o,g,d,tk,os⟩:=λE Q q=>i_h (A:=A.in1) ra rc j.1 q;wp_walk using t;exact⟨_,rfl,by simpa using f⟩
  case fin=>
   rintro⟨J,F⟩ s' ⟨m,rfl,vs,ws,xs',ys',c,k,i,j,a,f⟩;simp only at m;subst m
   have u:b_c xs' ys'=decide (items.size < items2.size):=by
    cases k with
    | nil=>
      cases i with
      | nil=>
        simp only[s_x] at a;show false=_;exact (s_E (by omega)).symm
      | cons rc hw=>
        simp only[s_x,r_3] at a;show true=_;exact (s_D (by omega)).symm
    | cons ra u=>
      cases i with
      | nil=>
        simp only[s_x,r_3] at a;show false=_;exact (s_E (by omega)).symm
      | cons rc hw=>
        rw[List.zip_cons_cons] at c;cases c
   rw[u] at f;wp_walk;exact⟨_,rfl,by simpa[Builtin.Tuple.tupleCompareSizes] using f⟩
  case h=>
   exact⟨rfl,rfl,items.toList,items2.toList,xs,ys,rfl,hi,hj,ha,by omega,h⟩
end
section
variable {X:Cx}
theorem n_6 {prog:Program} {w:World} {A:Around} {E:Value->Shared->Prop} {s:Shared} {l b:Addr} {items items2:Array Value} {xs ys:List V} {Q:Value->Shared->Prop} (hl:IsTup s.heap l items) (hb:IsTup s.heap b items2) (hi:Vals xs items.toList) (hj:Vals ys items2.toList)
 (ha:d_Q xs ys) (hu:A.units < cLine) (h:Q (.bool (b_c xs ys)) s):wpAny (model prog w) A (compareOp .Lt (.ref l) (.ref b)) Q E s:=by
 obtain⟨⟨cls,dd,data,sl⟩,f,g,n,i⟩:=id hl;obtain⟨⟨k,j,data2,e⟩,d,c,m,a⟩:=id hb;simp only at g i c a;subst g i c a
 exact richCompare_meets_room (op:= .Lt) ⟨_,f,rfl⟩ ⟨_,d,rfl⟩ PySem.F.slot_tuple_lt PySem.F.entry_tuple_lt (PySem.F.args_tuple_lt_2 _ _) (i_u l b items items2 n m dd j sl e xs ys hi hj ha)
  ⟨f,d,show Value.bool (b_c xs ys)≠Value.notImplemented/\Q (.bool (b_c xs ys)) s from ⟨(λx=>nomatch x),h⟩⟩ hu
def r_H (K:PySem.W.Frag):R2:=λx y H Q=>∃a b xs ys,x= .ref a/\y= .ref b/\SqT K H a xs/\SqT K H b ys/\d_Q xs ys/\Q (.bl (b_c xs ys)) H
theorem i_8 (hu:X.A.units < cLine):OpR X (compareOp .Lt) (r_H X.K):=by
 intro pins s σ H x y v u Q I rx ry h;obtain⟨a,b,xs,ys,rfl,rfl,ha,hb,hal,q⟩:=h;cases rx;cases ry;obtain⟨its,r,p,_⟩:=I.tuple ha;obtain⟨its2,r2,p2,_⟩:=I.tuple hb;exact n_6 p p2 (by simpa using r) (by simpa using r2) hal hu (a_M I q rfl)
def n_u (f:V->V->Bool):R2:=λx y H Q=>b_j x y=true/\Q (.bl (f x y)) H
theorem o_6:OpR X (compareOp .Gt) (n_u λx y=>ltV y x):=by
 intro pins s σ H x y v u Q I rx ry h;obtain⟨c,q⟩:=h;cases x with
 | int a=>
   cases y with
   | int b=>obtain⟨t,rfl⟩:=rx;obtain⟨t',rfl⟩:=ry;exact gt_int (a_M I q rfl)
   | _=>cases c
 | str a=>
   cases y with
   | str b=>obtain⟨t,rfl⟩:=rx;obtain⟨t',rfl⟩:=ry;exact PySem.P.gt_str (a_M I q rfl)
   | _=>cases c
 | _=>cases y <;> cases c
theorem p_o:OpR X (compareOp .GtE) (n_u λx y=> !ltV x y):=by
 intro pins s σ H x y v u Q I rx ry h;obtain⟨c,q⟩:=h;cases x with
 | int a=>
   cases y with
   | int b=>obtain⟨t,rfl⟩:=rx;obtain⟨t',rfl⟩:=ry;exact ge_int (a_M I q (by show (!decide (a < b))=decide (b<=a);by_cases z:a < b <;> simp[z] <;> omega))
   | _=>cases c
 | str a=>
   cases y with
   | str b=>obtain⟨t,rfl⟩:=rx;obtain⟨t',rfl⟩:=ry;exact PySem.P.ge_str (a_M I q rfl)
   | _=>cases c
 | _=>cases y <;> cases c
theorem m_i:OpR X (compareOp .LtE) (n_u λx y=> !ltV y x):=by
 intro pins s σ H x y v u Q I rx ry h;obtain⟨c,q⟩:=h;cases x with
 | int a=>
   cases y with
   | int b=>obtain⟨t,rfl⟩:=rx;obtain⟨t',rfl⟩:=ry;exact le_int (a_M I q (by show (!decide (b < a))=decide (a<=b);by_cases z:b < a <;> simp[z] <;> omega))
   | _=>cases c
 | str a=>
   cases y with
   | str b=>obtain⟨t,rfl⟩:=rx;obtain⟨t',rfl⟩:=ry;exact PySem.P.le_str (a_M I q rfl)
   | _=>cases c
 | _=>cases y <;> cases c
def o_j:V->List V->Hp->VK->Prop:=λx vs H Q=>∃l xs y,∃i:Int,x= .ref l/\vs= [.int i,y]/\H l=some (.lst xs)/\xs.length < sizeLine/\0<=i/\i<=xs.length/\Q .non (upd H l (.lst (xs.take i.toNat++y::xs.drop i.toNat)))
theorem g_N:MtM X "list.insert" o_j:=by
 intro pins s σ H x vs v us Q I rx rv h;obtain⟨l,xs,y,i,rfl,rfl,b,w,o,A,q⟩:=h;cases rx;obtain⟨p,a,rfl,c,d⟩:=rv.two;obtain⟨t,rfl⟩:=c;obtain⟨z,its,n,r,u,e⟩:=I.lstM b;have m:=e_j;have g: -(2 ^ 63)<=i:=by omega
 have j:i < 2 ^ 63:=by omega
 have k:¬ (!Builtin.List.listFitsIndex i)=true:=by
  rw[fitsIndex_both g j];exact s_e
 have f:its.toArray.size<=sizeLine:=by rw[r_7];omega
 refine call_meets F.slot_list_insert ⟨_,e,rfl⟩ F.entry_list_insert (F.args_list_insert_3 _ _ _) (AutoSeq1.list_insert_list_int_val_1 l its.toArray n i t a k f) ⟨e,?_⟩;refine⟨.non,_,I.lset (its':=its.take i.toNat++a::its.drop i.toNat) b e ?_ (Vals.append (r.take i.toNat) (.cons d (r.drop i.toNat))) ?_, rfl,q⟩
 ·show (its.toArray.extract 0 (if i < 0 then (i+(its.toArray.size:Int)).toNat else min i.toNat its.toArray.size)).push a++its.toArray.extract (if i < 0 then (i+(its.toArray.size:Int)).toNat else min i.toNat its.toArray.size)=_
  rw[if_neg (by omega),r_7,Nat.min_eq_left (by omega)];simp[List.extract_eq_drop_take];exact s_h (by simp)
 ·simp only[r_Z,r_3,s_j,List.length_drop]
  omega
def m_p (K:PySem.W.Frag) (neg:Bool):R2:=λx y H Q=>∃l b xs,x= .ref l/\y= .ref b/\SqL K H l xs/\H b=some (.lst [])/\Q (.bl (if neg then !xs.isEmpty else xs.isEmpty)) H
theorem h_6 (hu:X.A.units < cLine):OpR X (compareOp .Eq) (m_p X.K false):=by
 intro pins s σ H x y v u Q I rx ry h;obtain⟨l,b,xs,rfl,rfl,g,d,q⟩:=h;cases rx;cases ry;obtain⟨its,r,p,_⟩:=I.list g;obtain⟨f,i,c,_⟩:=I.list (SqL.of d:SqL X.K H b []);cases i;cases xs with
 | nil=>
   cases r;exact SeqAt.eq_listAt (e:=λ_=>true) p.isList c.isList rfl hu (λj k _=>by simp at k) (a_M I q (by simp))
 | cons a t=>
   cases r with
   | cons ra rt=>exact SeqAt.eq_list_lengthsAt p.isList c.isList (by simp) hu (a_M I q rfl)
theorem l_j (hu:X.A.units < cLine):OpR X (compareOp .NotEq) (m_p X.K true):=by
 intro pins s σ H x y v u Q I rx ry h;obtain⟨l,b,xs,rfl,rfl,g,d,q⟩:=h;cases rx;cases ry;obtain⟨its,r,p,_⟩:=I.list g;obtain⟨f,i,c,_⟩:=I.list (SqL.of d:SqL X.K H b []);cases i;cases xs with
 | nil=>
   cases r;exact SeqAt.RcNeAt.lists (A:=X.A) (s:=s) (e:=λ_=>true) p.isList c.isList rfl hu (λj k _=>by simp at k) _ _ _ _ (a_M I q (by simp))
 | cons a t=>
   cases r with
   | cons ra rt=>exact SeqAt.RcNeAt.lists_lengths (A:=X.A) (s:=s) p.isList c.isList (by simp) hu _ _ _ _ (a_M I q rfl)
theorem b_E:∀{as:List Addr} {its:List Value},Vals (as.map V.ref) its->its=as.map Value.ref
 | [],_,.nil=>rfl
 | a::r,_,.cons h t=>by
   obtain rfl:=(show _=Value.ref a from h);rw[b_E t,s_c]
def l_K (K:PySem.W.Frag):V->List V->Hp->VK->Prop:=λx vs H Q=>∃l b xs zs,x= .ref l/\vs= [.ref b]/\H l=some (.lst xs)/\H b=some (.tup zs)/\xs.length+zs.length<=sizeLine/\Q .non (upd H l (.lst (xs++zs)))
theorem f_h:MtM X "list.extend" (l_K X.K):=by
 intro pins s σ H x vs v us Q I rx rv h;obtain⟨l,b,xs,zs,rfl,rfl,g,p,C,q⟩:=h;cases rx;obtain⟨u,rfl,ru⟩:=rv.one;cases ru;obtain⟨z,its,n,r,A,e⟩:=I.lstM g;obtain⟨B,a,j,⟨w,o,data2,i⟩,m,f,t,d⟩:=I.hok b _ p;simp only at f d;subst f d;have y:=j.length;have k:its.toArray.size+a.toArray.size<=sizeLine:=by rw[r_7,r_7];omega
 have c:¬ (!its.toArray.isEmpty&&Builtin.List.listTooLong (its.toArray.size+a.toArray.size))=true:=by
  rw[f_n k,Bool.and_false];exact s_e
 refine call_meets F.slot_list_extend ⟨_,e,rfl⟩ F.entry_list_extend (F.args_list_extend_2 _ _)
  (PySem.SeqAt.list_extend_tupleAt l its.toArray n b a.toArray t o i c (by rw[r_7];omega) (by omega)) ⟨e,m,?_⟩
 refine⟨.non,_,I.lset (its':=its++a) g e (by simp) (r.append j) ?_, rfl,q⟩;rw[r_Z];omega
theorem j_p (hc:X.calm=true):d_a X (.builtin "sum") (λxs H Q=>∃p,∃ns:List Int,xs= [.ref p]/\SqL X.K H p (ns.map V.int)/\Q (.int ns.sum) H):=by
 intro pins s σ H xs us Q I rv h;obtain⟨p,ns,rfl,c,q⟩:=h;obtain⟨u,rfl,ru⟩:=rv.one;cases ru;obtain⟨its,r,pl,_⟩:=I.list c;have b:=i_i r;obtain⟨zs,e⟩:=(IntsAre.allInts b).items;refine sum_intListG (I.ok.hd hc) (by rw[<-e];exact pl.isList) λi tk t' g=>⟨.int ns.sum,H,I.kept (t':=tk) g,⟨t',?_⟩,q⟩;have a:=nums_intItems zs;rw[<-e] at a;have f:numsOf its=ns:=b.numsOf;have d:zs.toList.map (·.1)=ns:=by rw[<-a,<-f]
 rw[preSum_eq,s_h (by simp),d]
end
section
variable {prog:Program} {w:World} {A:Around} {R:Result->Shared->Prop} {s:Shared}
theorem d_M {elt target iter:Expr} {ifs:List Expr} {scope:Scope} {pos:Pos} {it acc:Value} {env:Env} (I:Nat->Shared->Prop)
 (turn:∀n s,I n s→wpAny (model prog w) A (pyNext it) (fun r s₁=>match r with
   | none=>R (.ok .next) s₁
   | some v=>wpAny (model prog w) A (letOwnedTupleGo target it v) (fun _ s₀=>wpAny (model prog w) A (assign target env v) (fun _ s₂=>
      wpAny (model prog w) A (forIn ifs true λc r=>if r=true then do let ok<-isTrue c env (eval c env);pure (ForInStep.yield ok) else pure (ForInStep.yield r)) (λok s₃=>
       if ok=true then wpAny (model prog w) A (eval elt env) (λx s₄=>
        wpAny (model prog w) A (call (.builtin "list.append") [acc,x]) (λ_ s₅=>∃m,m < n/\I m s₅) (λ_ _=>False) s₄) (λ_ _=>False) s₃
       else ∃m,m < n/\I m s₃) (λ_ _=>False) s₂) (λ_ _=>False) s₀) (λ_ _=>False) s₁) (λ_ _=>False) s)
 (n:Nat) (h:I n s):
 codeAny (model prog w) A (.compLoop (.ListComp elt [⟨target,iter,ifs,0⟩] scope pos) 0 it acc env) R s:=by
 refine codeAny_loop rfl I (λn s b=> ?_) n h;show wpAny _ A ((compTurn (.ListComp elt [⟨target,iter,ifs,0⟩] scope pos) 0 it acc env).onRaise (λx=>do noteFrame x env;theTreesLotGoes x)) _ _ s;refine wpAny_noted ?_;rw[compTurn_list];refine wpAny_bind (wpAny_standAt (wpAny_bind (wpAny_mono (turn n s b) (λr s₁ h₁=> ?_) λ_ _ a=>a.elim)));cases r with
 | none=>exact wpAny_pure h₁
 | some v=>
   refine wpAny_bind (wpAny_mono h₁ (λ_ s₀ h₀=> ?_) λ_ _ a=>a.elim);refine wpAny_bind (wpAny_mono h₀ (λ_ s₂ h₂=>wpAny_bind (wpAny_mono h₂ (λok s₃ h₃=> ?_) λ_ _ a=>a.elim)) λ_ _ a=>a.elim);cases ok with
   | false=>exact wpAny_pure ⟨rfl,h₃⟩
   | true=>
     exact wpAny_bind (wpAny_bind (wpAny_mono h₃ (λx s₄ h₄=>wpAny_bind (wpAny_mono h₄ (λ_ s₅ h₅=>wpAny_pure (wpAny_pure ⟨rfl,h₅⟩)) λ_ _ a=>a.elim)) λ_ _ a=>a.elim))
end
def l_L (env:Env) (fns:List Str):List (Str×Addr):=fns.filterMap λy=>(env.cells.lookup y).map λc=>(y,c)
theorem a_9 {env:Env}:∀{fns:List Str} {y:Str} {c:Addr},(l_L env fns).lookup y=some c->env.cells.lookup y=some c/\y∈fns
 | [],_,_,h=>by cases h
 | z::r,y,c,h=>by
   unfold l_L at h;rw[List.filterMap_cons] at h;cases e:env.cells.lookup z with
   | none=>
     simp only[e,Option.map_none] at h;obtain⟨a,b⟩:=a_9 (fns:=r) h;exact⟨a,r_0 _ b⟩
   | some d=>
     simp only[e,Option.map_some,List.lookup_cons] at h;cases q:y == z with
     | true=>
       rw[q] at h;have q':y=z:=eq_of_beq q;subst q';cases h;exact⟨e,r_1 ..⟩
     | false=>
       rw[q] at h;obtain⟨a,b⟩:=a_9 (fns:=r) h;exact⟨a,r_0 _ b⟩
theorem d_y {env:Env}:∀{fns:List Str} {y:Str} {c:Addr},y∈fns->env.cells.lookup y=some c->(l_L env fns).lookup y=some c
 | z::r,y,c,hy,hc=>by
   unfold l_L;rw[List.filterMap_cons];cases q:y == z with
   | true=>
     have q':y=z:=eq_of_beq q;subst q';simp only[hc,Option.map_some,List.lookup_cons,beq_self_eq_true]
   | false=>
     have a:y∈r:=by
      rcases r_8.mp hy with e | e
      ·subst e;simp at q
      ·exact e
     have ih:=d_y (env:=env) a hc;cases e:env.cells.lookup z with
     | none=>simp only[Option.map_none];exact ih
     | some d=>simp only[Option.map_some,List.lookup_cons,q];exact ih
def a_X (X:Cx) (scope:Scope) (fns:List Str) (N:List Str) (fp:List Addr) (pins:List (Addr×Obj)) (s:Shared) (H:Hp):Cx where
 prog:=X.prog
 w:=X.w
 K:=X.K
 mg:=X.mg
 base:=X.base
 A:=X.A
 N:=N
 s₀:=s
 H₀:=H
 env:=compEnvC scope (l_L X.env fns) s.heap.objs.size X.env
 outer:=X.stack
 stack:=X.stack
 ex:=fp
 fn:=λ_=>false
 calm:=X.calm
 pn:=X.pn++pins
 xe:=λ_ _=>False
structure g_F (X:Cx) (scope:Scope) (x:Str) (fns:List Str) (js:List Nat):Prop where
 kind:scope.kind= .function
 nocell:∀y∈scope.names,y.2≠ .cell
 locs:∀y∈scope.names,y.2= .local->scope.names.lookup y.1=some .local
 loc:scope.names.lookup x=some .local
 free:∀y∈scope.names,y.2= .free->y.1∈fns
 isfree:∀y∈fns,scope.names.lookup y=some .free
 clos:closureFor scope X.env=pure (l_L X.env fns)
 mine:∀y∈fns,X.env.kindOf y=some .cell
 js:js.map (λj=>X.N[j]?)=fns.map some
 nd:(x::fns).Nodup
theorem b_k {env:Env} (hf:env.scope.kind= .function):∀{names:List (Str×NameKind)} {x:Str},names.lookup x=some .free->env.kindOf x=some .cell->
 (names.map λ(n,k)=>if (k == NameKind.free&&env.scope.kind == .function&&env.kindOf n == some .cell) then (n,NameKind.cell) else (n,k)).lookup x=some .cell
 | [],_,h,_=>by cases h
 | (n,k)::r,x,h,hk=>by
   have ih:= @b_k env hf r x;simp only[s_c];simp only[List.lookup_cons] at h;cases a:x == n with
   | true=>
     rw[a] at h;have e:x=n:=eq_of_beq a;subst e;cases h;simp[hf,hk,List.lookup_cons]
   | false=>
     rw[a] at h;by_cases b:(k == NameKind.free&&env.scope.kind == .function&&env.kindOf n == some .cell)=true
     ·rw[if_pos b];simp only[List.lookup_cons,a];exact ih h hk
     ·rw[if_neg b];simp only[List.lookup_cons,a];exact ih h hk
theorem c_q {env:Env} {names:List (Str×NameKind)} {y:Str×NameKind} (h:y∈names.map λ(n,k)=>if (k == NameKind.free&&env.scope.kind == .function&&env.kindOf n == some .cell) then (n,NameKind.cell) else (n,k))
 (hk:y.2= .cell\/y.2= .free) (hc:∀z∈names,z.2≠ .cell):(y.1,NameKind.free)∈names:=by
 obtain⟨⟨n,k⟩,a,e⟩:=s_s.mp h;by_cases q:(k == NameKind.free&&env.scope.kind == .function&&env.kindOf n == some .cell)=true
 ·simp only[q,if_true] at e
  subst e
  have:k= .free:=by
   simp only[Bool.and_eq_true,beq_iff_eq] at q;exact q.1.1
  subst this;exact a
 ·simp only[q] at e
  subst e;rcases hk with z | z
  ·exact absurd z (hc _ a)
  ·have z':k= .free:=z
   subst z';exact a
section
variable {X:Cx} {scope:Scope} {x:Str} {fns:List Str} {js:List Nat} {pins:List (Addr×Obj)} {σ:St} {H:Hp} {s:Shared} {fp:List Addr}
def b_r (σ:St) (js:List Nat) (v:Option V):St:=v::js.map λj=>(σ[j]?).join
theorem k_A (S:g_F X scope x fns js) (I:Inv X pins σ H s) (hf:∀b∈fp,f_V X pins H b) (ho:∀b∈fp,b < s.heap.objs.size):(a_X X scope fns (x::fns) fp pins s H).Ok where
 mod:=I.ok.mod
 kind:=S.kind
 glob:=I.ok.glob
 blt:=I.ok.blt
 above:=r_6 _
 inj:=λy z c i k=>I.ok.inj y z c (a_9 i).1 (a_9 k).1
 has:=λy d=>by
  have f:y∈fns:=by
   rcases d with d | d
   ·exact S.free _ (c_q (PySem.mem_of_lookup d) (.inl rfl) S.nocell) rfl
   ·exact S.free _ (c_q (PySem.mem_of_lookup d) (.inr rfl) S.nocell) rfl
  obtain⟨c,j⟩:=I.ok.has y (.inl (S.mine y f));exact⟨c,d_y f j⟩
 cab:=λ_ _ h=>nomatch h
 hd:=I.ok.hd
 frames:=I.ok.frames
 stk:= .inl rfl
 exf:=λb a=>⟨s_l (ho b a),λy c e=>(hf b a).2.2.2.2.1 y c (a_9 e).1⟩
 bs:=I.bs
 bsz:=s_i I.ok.bsz I.sz
 noex:=λb o e a=>by
  rcases (hf b a).2.2.2.1 with z | z
  ·exact I.ok.noex b o e z
  ·exact absurd (s_d (s_d (Heap.lt_size e) I.ok.bsz) z) (Nat.lt_irrefl _)
 exfs:=λb a g=>by
  rcases r_8.mp (I.stkSub b g) with z | z
  ·exact (hf b a).2.1 z
  ·exact (hf b a).2.2.1 z
 funs:=I.stack
 frf:=I.stkFree
theorem i_C (S:g_F X scope x fns js) (I:Inv X pins σ H s) (hf:∀b∈fp,f_V X pins H b) (ho:∀b∈fp,b < s.heap.objs.size) {h₁:Heap} {m:Str->Option Value} {tk:Nat} (hn:h₁.Ns s.heap.objs.size m)
 (hk:∀b o,s.heap.get? b=some o->h₁.get? b=some o):Inv (a_X X scope fns (x::fns) fp pins s H) [] (b_r σ js none) H { s with heap:=h₁,toks:=tk }:=by
 have K:HOk X.prog X.w H h₁:=I.hok.kept hk;refine⟨k_A S I hf ho,rfl,I.bare,Un.kept hk,⟨m,hn,λi y v J C _=> ?_⟩,λy c e=> ?_, I.hok.fresh (r_6 _),λy c e=>I.freeC y c (a_9 e).1,λp A=> ?_, K,?_⟩
 ·cases i with
  | zero=>cases C
  | succ i=>
    have h:fns[i]? =some y:=J;have a:(js.map λj=>(σ[j]?).join)[i]? =some (some v):=C;rw[r_9] at a;cases ej:js[i]? with
    | none=>rw[ej] at a;cases a
    | some j=>
      rw[ej] at a;have g:(σ[j]?).join=some v:=r_4 a
      have G:σ[j]? =some (some v):=by
       cases q:σ[j]? with
       | none=>rw[q] at g;cases g
       | some o=>rw[q] at g;exact congrArg some g
      have L:X.N[j]? =some y:=by
       have q:=congrArg (λl=>l[i]?) S.js;simp only[r_9,ej,h,Option.map_some] at q;exact r_4 q
      have f:y∈fns:=s_n h;obtain⟨m',_,F⟩:=I.loc;obtain⟨u,r,l⟩:=F j y v L G (.inr (.inl (S.mine y f)));refine⟨u,r,.inr ⟨.inl (b_k I.ok.kind (S.isfree y f) (S.mine y f)),?_⟩⟩;rcases l with⟨k,_⟩ | ⟨k,c,ec,oc,B,t⟩
      ·rw[S.mine y f] at k;cases k
      ·exact⟨c,d_y f ec,oc,hk _ _ B,t⟩
 ·obtain⟨v,o,ho,t⟩:=I.cell y c (a_9 e).1
  exact⟨v,o,hk _ _ ho,t⟩
 ·have E:p∈X.pn++pins:=by rw[s_u] at A;exact A
  obtain⟨e,n,ne,nf,d⟩:=I.pin p E;refine⟨hk _ _ e,n,s_l (Heap.lt_size e),λz=> ?_, d⟩;rcases r_8.mp (I.stkSub p.1 z) with q | q
  ·exact ne q
  ·exact nf q
 ·unfold b_r
  have:=congrArg List.length S.js;simp only[r_X] at this;simp only[r_3,r_X,this,a_X]
theorem g_S (I:Inv X pins σ H s) (hf:∀b∈fp,f_V X pins H b) {σ':St} {H':Hp} {s':Shared} {pins':List (Addr×Obj)} (J:Inv (a_X X scope fns (x::fns) fp pins s H) pins' σ' H' s'):Inv X pins σ H' s':=
 I.call' (ch:=fp) J.os J.base J.hok J.bare λb hb=>⟨(hf b hb).2.2.2.1,(hf b hb).2.1,(hf b hb).2.2.2.2.1,(hf b hb).2.2.2.2.2⟩
end
def n_W (X:Cx) (ifs:List Expr) (t:TT):Prop:=
 ∀(pins:List (Addr×Obj)) (s:Shared) (σ:St) (H:Hp) (Q:Bool->Hp->Prop),Inv X pins σ H s->t σ H Q->
  wpAny (model X.prog X.w) X.A (forIn ifs true λc r=>if r=true then do let ok<-isTrue c X.env (eval c X.env);pure (ForInStep.yield ok) else pure (ForInStep.yield r)) (TP X pins σ Q) X.xe s
def r_K:TT:=λ_ H Q=>Q true H
theorem b_J {X:Cx}:n_W X [] r_K:=λ_ _ _ H _ I h=>wpAny_tests_nil ⟨H,I,h⟩
theorem d_j {X:Cx} {c:Expr} {t:TT} (h:PT X c t):n_W X [c] t:=λpins s σ H Q I q=>wpAny_tests_one (h pins s σ H Q I q)
def e_U (J:It) (D:Addr) (σ:St) (js:List Nat) (tt:TT) (te:TE) (QQ:Hp->Prop) (W:Nat->Nat->Hp->Prop):Prop:=
 ∀i m H,W i m H->(J.stop i H/\QQ H)\/(J.go i H/\∃(N1:V->Hp->Prop) (N0:Hp->Prop),
  (∀y H3,N1 y H3->∃ys,H3 D=some (.lst ys)/\ys.length < sizeLine/\∃m',m' < m/\W (i+1) m' (upd H3 D (.lst (ys++ [y]))))/\(∀a,N0 a->∃m',m' < m/\W (i+1) m' a)/\
  ∀v H',J.yld i H v H'->tt (b_r σ js (some v)) H' λb a=>if b=true then te (b_r σ js (some v)) a N1 else N0 a)
section
variable {X:Cx} {scope:Scope} {x:Str} {fns:List Str} {js:List Nat} {pins:List (Addr×Obj)} {σ:St} {H:Hp} {s:Shared} {elt iter:Expr} {px pos pos':Pos} {ifs:List Expr} {wi:TI} {tt:TT} {te:TE}
theorem g_A {use:Option (Value->Sem Unit)} {Qv:Value->Shared->Prop} {QQ:Addr->Hp->Prop} (hc:X.calm=true) (S:g_F X scope x fns js) (hi:PI X (.Name x px) iter wi)
 (ht:∀fp pins s H,n_W (a_X X scope fns (x::fns) fp pins s H) ifs tt) (he:∀fp pins s H,PE (a_X X scope fns (x::fns) fp pins s H) elt te) (I:Inv X pins σ H s)
 (h:wi σ H λJ H1=>∀D,H1 D=none->∃W:Nat->Nat->Hp->Prop,(∃m,W 0 m (upd H1 D (.lst [])))/\e_U J D σ js tt te (QQ D) W)
 (fin:∀D C H5 s5 m5,Inv X pins σ H5 s5->f_V X pins H5 C->s5.heap.Ns C m5->QQ D H5->compPost (model X.prog X.w) X.A X.xe use Qv (.ref D) C (.ok .next) s5)
 (hs:∀x,foldedSetIterable iter X.env x=pure x:=by intro _;rfl):
 wpAny (model X.prog X.w) X.A (comprehension (.ListComp elt [⟨.Name x px,iter,ifs,0⟩] scope pos) scope X.env pos' (newList []) false (eval iter X.env) use) Qv X.xe s:=by
 refine wpAny_comprehension_free (use:=use) rfl hs S.clos S.kind S.locs (thn (hi pins s σ H _ I h) λv s1 h1=>thn h1 λitv a h2=> ?_);obtain⟨it,fp,tn,J,f,e,I2,T,N,f2,hW⟩:=h2;subst e;obtain⟨W,⟨m0,w0⟩,turn⟩:=hW a.heap.objs.size I2.fresh;have j:Inv X pins σ (upd f a.heap.objs.size (.lst [])) { a with heap:=a.heap.push { cls:= .type "list",data:= .seq ([]:List Value).toArray } }:=I2.lnew (t':=a.toks) (its:= []) (ys:= []) .nil (s_p _)
 have L:∀b∈fp,b < a.heap.objs.size:=λb c=>by
  obtain⟨o,e,_⟩:=T.obj _ _ N b c;exact Heap.lt_size e
 have F:∀b∈fp,f_V X pins (upd f a.heap.objs.size (.lst [])) b:=λb c=>⟨by rw[a_i (s_l (L b c))];exact (f2 b c).1,(f2 b c).2⟩;have R:∀b∈fp,b < (a.heap.push { cls:= .type "list",data:= .seq ([]:List Value).toArray }).objs.size:=λb c=>by rw[Heap.size_push];exact Nat.lt_succ_of_lt (L b c)
 refine wpAny_newObj_type (wpAny_newFunctionEnv S.nocell (by intro y hy;simp at hy) (λh₁ hns₁ hsb₁=> ?_) S.kind);dsimp only at hns₁ hsb₁ ⊢
 have hk:∀b o,(a.heap.push { cls:= .type "list",data:= .seq ([]:List Value).toArray }).get? b=some o->h₁.get? b=some o:=λb o e=>
  hsb₁.extBut b o (s_l (Heap.lt_size e)) (Heap.get?_push_of_some _ e)
 have z:=i_C (tk:=a.toks+([]:List (Str×Value)).length) S j F R hns₁ hk
 have stat:∀{H':Hp},(∀b∈fp,H' b=none)->∀b∈fp,f_V (a_X X scope fns (x::fns) fp pins { a with heap:=a.heap.push { cls:= .type "list",data:= .seq ([]:List Value).toArray } } (upd f a.heap.objs.size (.lst []))) [] H' b:=λhn b c=>by
  refine⟨hn b c,(z.ok.exf b c).1,z.ok.exfs b c,.inl c,(z.ok.exf b c).2,λp hp=>(F b c).2.2.2.2.2 p ?_⟩;rw[s_u] at hp;exact hp
 have U:∀b∈fp,(upd f a.heap.objs.size (.lst [])) b=none:=λb c=>(F b c).1;have M:tn 0 h₁:=T.keep _ _ _ N λb c o e=>hk b o (Heap.get?_push_of_some _ e)
 have loop:∀s₃:Shared,s₃={ a with heap:=h₁,toks:=a.toks+([]:List (Str×Value)).length }->
  codeAny (model X.prog X.w) X.A (.compLoop (.ListComp elt [⟨.Name x px,iter,ifs,0⟩] scope pos) 0 (.ref it) (.ref a.heap.objs.size) (compEnvC scope (l_L X.env fns) (a.heap.push { cls:= .type "list",data:= .seq ([]:List Value).toArray }).objs.size X.env))
   (compPost (model X.prog X.w) X.A X.xe use Qv (.ref a.heap.objs.size) (a.heap.push { cls:= .type "list",data:= .seq ([]:List Value).toArray }).objs.size) s₃:=by
  rintro s₃ rfl
  refine d_M (λn s'=>∃i o H',Inv (a_X X scope fns (x::fns) fp pins { a with heap:=a.heap.push { cls:= .type "list",data:= .seq ([]:List Value).toArray } } (upd f a.heap.objs.size (.lst []))) [] (b_r σ js o) H' s'/\tn i s'.heap/\(∀b∈fp,H' b=none)/\W i n H') ?_ m0
   ⟨0,none,_,z,M,U,w0⟩
  rintro n s4 ⟨i,o,B,Y,O,K,w4⟩;rcases turn i n B w4 with⟨stop,qn⟩ | ⟨go,N1,N0,hN1,a0,step⟩
  ·refine thn (T.done (a_X X scope fns (x::fns) fp pins { a with heap:=a.heap.push { cls:= .type "list",data:= .seq ([]:List Value).toArray } } (upd f a.heap.objs.size (.lst []))) rfl rfl rfl hc i [] s4 _ B _ Y (stat K) O stop) λr s5 ⟨P,G⟩=> ?_
   subst P;obtain⟨m5,hn5,_⟩:=id G.loc;have I5:=g_S j F G;exact fin _ _ B s5 m5 I5 ⟨G.free,Nat.ne_of_gt (s_d j.lt (r_6 _)),j.nofs (r_6 _),.inr j.sz,(j.fpOk (r_6 _) G.free).2.2.2.2⟩ hn5 qn
  ·refine thn (T.item (a_X X scope fns (x::fns) fp pins { a with heap:=a.heap.push { cls:= .type "list",data:= .seq ([]:List Value).toArray } } (upd f a.heap.objs.size (.lst []))) rfl rfl rfl hc i [] s4 _ B _ Y (stat K) O go) λr s5 ⟨u,P,h5⟩=> ?_
   subst P;refine thn h5 λ_ s6 ⟨t,H6,J6,r6,y6,l,fr6⟩=> ?_;have J6':=J6.pinned (stat fr6) (T.obj _ _ l);have pg:=b_b (X:=a_X X scope fns (x::fns) fp pins { a with heap:=a.heap.push { cls:= .type "list",data:= .seq ([]:List Value).toArray } } (upd f a.heap.objs.size (.lst []))) (pos:=px) (i:=0) (x:=x) S.nd rfl (.inl (lookup_relabel_local S.loc)) (.inr (lookup_relabel_local S.loc));refine thn (pg _ s6 _ H6 t u (λσ' H'=>σ'=b_r σ js (some t)/\H'=H6) J6' r6 ⟨rfl,rfl⟩) λ_ s7 ⟨σ7,H7,J7,e7,e7'⟩=> ?_;subst e7 e7';refine thn (ht _ _ _ _ _ s7 _ H7 _ J7 (step t H7 y6)) λb s8 ⟨H8,J8,Q⟩=> ?_
   have again:∀{g:Hp} {k:Shared},Inv (a_X X scope fns (x::fns) fp pins { a with heap:=a.heap.push { cls:= .type "list",data:= .seq ([]:List Value).toArray } } (upd f a.heap.objs.size (.lst []))) ([]++f_c fp s6.heap) (b_r σ js (some t)) g k->
    (∃m',m' < n/\W (i+1) m' g)->∃m,m < n/\∃i o H',Inv (a_X X scope fns (x::fns) fp pins { a with heap:=a.heap.push { cls:= .type "list",data:= .seq ([]:List Value).toArray } } (upd f a.heap.objs.size (.lst []))) [] (b_r σ js o) H' k/\tn i k.heap/\(∀b∈fp,H' b=none)/\W i m H':=λ{g k} q ⟨m',hm,w9⟩=>by
    refine⟨m',hm,i+1,some t,g,q.unpinned,T.keep _ _ _ l λb c o e=>(q.pin (b,o) (s_a _ (s_a _ (b_O c e)))).1,λb c=> ?_, w9⟩;obtain⟨o,e,d⟩:=T.obj _ _ l b c;exact (q.pin (b,o) (s_a _ (s_a _ (b_O c e)))).2.1
   cases b with
   | false=>exact again J8 (a0 _ (by simpa using Q))
   | true=>
     simp only[if_true] at Q ⊢;refine thn (he _ _ _ _ _ s8 _ H8 _ J8 Q) λxv k ⟨E,g,q,r9,n9⟩=> ?_;obtain⟨ys,hD,hz,q9⟩:=hN1 E g n9;refine thn (a_O _ k _ g (.ref a.heap.objs.size) [E] (.ref a.heap.objs.size) [xv] (λ_ H'=>H'=upd g a.heap.objs.size (.lst (ys++ [E]))) q rfl (.cons r9 .nil) ⟨_,ys,E,rfl,rfl,hD,hz,rfl⟩) λ_ s10 ⟨_,H10,a1,_,Z⟩=> ?_;subst Z;exact again a1 q9
 exact codeAny_compStart_list (loop _ rfl) (T.self _ 0 _ _ _ M (loop _ rfl))
def q_X (wi:TI) (js:List Nat) (tt:TT) (te:TE):TE:=λσ H Q=>wi σ H λJ H1=>∀D,H1 D=none->∃W:Nat->Nat->Hp->Prop,(∃m,W 0 m (upd H1 D (.lst [])))/\e_U J D σ js tt te (Q (.ref D)) W
theorem c_G (hc:X.calm=true) (S:g_F X scope x fns js) (hi:PI X (.Name x px) iter wi)
 (ht:∀fp pins s H,n_W (a_X X scope fns (x::fns) fp pins s H) ifs tt) (he:∀fp pins s H,PE (a_X X scope fns (x::fns) fp pins s H) elt te) (hs:∀x,foldedSetIterable iter X.env x=pure x:=by intro _;rfl):
 PE X (.ListComp elt [⟨.Name x px,iter,ifs,0⟩] scope pos) (q_X wi js tt te):=by
 intro pins s σ H Q I h;rw[eval_ListComp];refine g_A (use:=none) (QQ:=λD=>Q (.ref D)) hc S hi ht he I h (λD C i d f c fC g q=> ?_) hs;refine⟨f,g,λj sb=>⟨.ref D,i,?_, rfl,q⟩⟩;exact c.turned (t':=d.toks) (λb o a e=>(sb.2 b a).trans e) fC.1 fC.2.1 fC.2.2.2.1 fC.2.2.2.2.1 fC.2.2.2.2.2
def k_9 (k:Nat) (wi:TI) (js:List Nat) (tt:TT) (te:TE):TS:=λD σ H=>wi σ H λJ H1=>∀L,H1 L=none->∃W:Nat->Nat->Hp->Prop,(∃m,W 0 m (upd H1 L (.lst [])))/\e_U J L σ js tt te (λH'=>D.nx (σ.set k (some (.ref L))) H') W
theorem c_k {k:Nat} {y:Str} {py spos:Pos} (hc:X.calm=true) (S:g_F X scope x fns js) (hi:PI X (.Name x px) iter wi)
 (ht:∀fp pins s H,n_W (a_X X scope fns (x::fns) fp pins s H) ifs tt) (he:∀fp pins s H,PE (a_X X scope fns (x::fns) fp pins s H) elt te)
 (hN:X.N.Nodup) (hk:X.N[k]? =some y) (hy:Loc X.env.scope y) (hfn:X.fn y=true\/X.env.scope.names.lookup y=some .local:=by first | exact .inl rfl | exact .inr rfl | assumption)
 (hsw:swapsWith (.ListComp elt [⟨.Name x px,iter,ifs,0⟩] scope pos) (some (.Name y py)) spos.line X.env=pure true:=by rfl) (hs:∀x,foldedSetIterable iter X.env x=pure x:=by intro _;rfl):
 PS X (.Assign [.Name y py] (.ListComp elt [⟨.Name x px,iter,ifs,0⟩] scope pos) spos) (k_9 k wi js tt te):=by
 intro pins s σ H D I h;rw[exec_Assign_Name_used _ _ _ _ hsw];refine wpAny_bind (wpAny_standAt (wpAny_bind ?_));show wpAny _ X.A (do let _<-comprehension (.ListComp elt [⟨.Name x px,iter,ifs,0⟩] scope pos) scope X.env _ (newList []) false (eval iter X.env) (some (assign (.Name y py) X.env))) _ _ s;refine wpAny_bind (thn (g_A (use:=some (assign (.Name y py) X.env)) (QQ:=λL H'=>D.nx (σ.set k (some (.ref L))) H') (Qv:=λ_ s'=>SP X pins D .next s') hc S hi ht he I h (λL C a g u f fC E q=> ?_) hs) λ_ s' t=>wpAny_pure (wpAny_pure t));obtain⟨oC,es,ep,e,d,r⟩:=id E
 have i:Inv X (pins++ [(C,oC)]) σ a g:=f.pins_of λp n=>(s_f.mp n).elim (λz=>f.pin p (s_a _ z)) λz=>by
  obtain rfl:p=(C,oC):=by simpa using z
  exact⟨e,fC.1,fC.2.1,fC.2.2.1,λv z=>by rw[d] at z;cases z⟩
 refine thn (b_b (pos:=py) hN hk hy hfn _ g σ a (.ref L) (.ref L) (λσ' H'=>σ'=σ.set k (some (.ref L))/\H'=a) i rfl ⟨rfl,rfl⟩) λ_ w ⟨σ6,m,j,B,c⟩=> ?_;subst B c;have pC:=j.pin (C,oC) (by simp);refine⟨u,⟨oC,es,ep,pC.1,d,r⟩,λF sb=>⟨_,m,?_, q⟩⟩;exact (j.unpinned).turned (t':=w.toks) (λb o l e=>(sb.2 b l).trans e) fC.1 fC.2.1 fC.2.2.2.1 fC.2.2.2.2.1 fC.2.2.2.2.2
end
theorem c_C {K:PySem.W.Frag} {a D:Addr} {xs:List V} {σ:St} {js:List Nat} {tt:TT} {te:TE} {QQ:Hp->Prop} {H:Hp} (Pv:Nat->List V->Hp->Prop) (h0:Pv 0 [] (upd H D (.lst [])))
 (hl:∀i ys H,i<=xs.length->H D=some (.lst ys)->Pv i ys H->SqL K H a xs)
 (hs:∀i v ys H,xs[i]? =some v→H D=some (.lst ys)→Pv i ys H→tt (b_r σ js (some v)) H fun b H2=>
   if b=true then te (b_r σ js (some v)) H2 λy H3=>H3 D=some (.lst ys)/\ys.length < sizeLine/\Pv (i+1) (ys++ [y]) (upd H3 D (.lst (ys++ [y]))) else H2 D=some (.lst ys)/\Pv (i+1) ys H2)
 (hd:∀ys H,H D=some (.lst ys)->Pv xs.length ys H->QQ H):
 ∃W:Nat->Nat->Hp->Prop,(∃m,W 0 m (upd H D (.lst [])))/\e_U (Itl K a) D σ js tt te QQ W:=by
 refine⟨λi m H=>i<=xs.length/\m=xs.length - i/\∃ys,H D=some (.lst ys)/\Pv i ys H,⟨_,s_p _,rfl, [],a_b,h0⟩,?_⟩;rintro i m j ⟨n,rfl,ys,h,f⟩;have g:=hl i ys j n h f;by_cases e:i=xs.length
 ·subst e
  exact .inl ⟨⟨xs,g,r_6 _⟩,hd ys j h f⟩
 ·have c:i < xs.length:=by omega
  refine .inr ⟨⟨xs,xs[i],g,r_Y c⟩,λy H3=>H3 D=some (.lst ys)/\ys.length < sizeLine/\Pv (i+1) (ys++ [y]) (upd H3 D (.lst (ys++ [y]))),λH2=>H2 D=some (.lst ys)/\Pv (i+1) ys H2,
   λy H3 d=>⟨ys,d.1,d.2.1,xs.length - (i+1),by omega,c,rfl,ys++ [y],a_b,d.2.2⟩,λH2 q=>⟨xs.length - (i+1),by omega,c,rfl,ys,q.1,q.2⟩,λv H' l=> ?_⟩
  obtain⟨rfl,k⟩:=l;exact hs i v ys H' (k xs g) h f
theorem i_o {lo:Int} {n:Nat} {D:Addr} {σ:St} {js:List Nat} {tt:TT} {te:TE} {QQ:Hp->Prop} {H:Hp} (Pv:Nat->List V->Hp->Prop) (h0:Pv 0 [] (upd H D (.lst [])))
 (hs:∀i ys H,i < n→H D=some (.lst ys)→Pv i ys H→tt (b_r σ js (some (.int (lo+i)))) H fun b H2=>
   if b=true then te (b_r σ js (some (.int (lo+i)))) H2 λy H3=>H3 D=some (.lst ys)/\ys.length < sizeLine/\Pv (i+1) (ys++ [y]) (upd H3 D (.lst (ys++ [y]))) else H2 D=some (.lst ys)/\Pv (i+1) ys H2)
 (hd:∀ys H,H D=some (.lst ys)->Pv n ys H->QQ H):
 ∃W:Nat->Nat->Hp->Prop,(∃m,W 0 m (upd H D (.lst [])))/\e_U (Itr lo n) D σ js tt te QQ W:=by
 refine⟨λi m H=>i<=n/\m=n - i/\∃ys,H D=some (.lst ys)/\Pv i ys H,⟨_,s_p _,rfl, [],a_b,h0⟩,?_⟩;rintro i m g ⟨j,rfl,ys,f,d⟩;by_cases e:i=n
 ·subst e
  exact .inl ⟨r_6 _,hd ys g f d⟩
 ·have a:i < n:=by omega
  refine .inr ⟨a,λy H3=>H3 D=some (.lst ys)/\ys.length < sizeLine/\Pv (i+1) (ys++ [y]) (upd H3 D (.lst (ys++ [y]))),λH2=>H2 D=some (.lst ys)/\Pv (i+1) ys H2,
   λy H3 c=>⟨ys,c.1,c.2.1,n - (i+1),by omega,a,rfl,ys++ [y],a_b,c.2.2⟩,λH2 q=>⟨n - (i+1),by omega,a,rfl,ys,q.1,q.2⟩,λv H' h=> ?_⟩
  obtain⟨rfl,rfl⟩:=h;exact hs i ys H' a f d
end L2
namespace TO
def Adj:Nat->List Nat->Prop
 | _, []=>True
 | p,n::r=>1<=n/\n<=8/\5<=p+n/\Adj n r
def f_G:Nat->List Nat->Nat
 | p, []=>p
 | _,n::r=>f_G n r
theorem Adj.app:∀{l₁ l₂:List Nat} {p:Nat},Adj p (l₁++l₂)↔Adj p l₁/\Adj (f_G p l₁) l₂
 | [],l₂,p=>by simp[Adj,f_G]
 | n::r,l₂,p=>by
   have ih:= @Adj.app r l₂ n;simp only[List.cons_append,Adj,f_G,ih];constructor
   ·rintro⟨a,b,c,d,e⟩;exact⟨⟨a,b,c,d⟩,e⟩
   ·rintro⟨⟨a,b,c,d⟩,e⟩;exact⟨a,b,c,d,e⟩
theorem e_1:∀{l:List Nat} {p n:Nat},f_G p (l++ [n])=n
 | [],_,_=>rfl
 | m::r,_,n=>by simp only[List.cons_append,f_G];exact e_1
theorem Adj.mono:∀{l:List Nat} {p q:Nat},p<=q->Adj p l->Adj q l
 | [],_,_,_,_=>trivial
 | n::r,p,q,h,⟨a,b,c,d⟩=>⟨a,b,by omega,d⟩
theorem Adj.five:∀{l:List Nat} {p q:Nat},4<=q->Adj p l->Adj q l
 | [],_,_,_,_=>trivial
 | n::r,p,q,h,⟨a,b,c,d⟩=>⟨a,b,by omega,d⟩
theorem Adj.last:∀{l:List Nat} {p:Nat},1<=p->Adj p l->1<=f_G p l
 | [],_,h,_=>h
 | n::r,p,h,⟨a,b,c,d⟩=> @Adj.last r n a d
theorem Adj.put {l₁ l₂:List Nat} {a b p:Nat} (h:Adj p (l₁++a::l₂)) (hab:a<=b) (hb:b<=8):Adj p (l₁++b::l₂):=by
 rw[Adj.app] at h ⊢;obtain⟨h1,h2,h3,h4,h5⟩:=h;exact⟨h1,by omega,hb,by omega,h5.mono hab⟩
theorem Adj.split {l₁ l₂:List Nat} {a p:Nat} (hp:1<=p) (h:Adj p (l₁++a::l₂)):Adj p (l₁++4::5::l₂):=by
 rw[Adj.app] at h ⊢;obtain⟨h1,h2,h3,h4,h5⟩:=h;have:=h1.last hp;exact⟨h1,by omega,by omega,by omega,by omega,by omega,by omega,h5.five (by omega)⟩
theorem Adj.gone {l₁ l₂:List Nat} {p:Nat} (h:Adj p (l₁++1::l₂)):Adj p (l₁++l₂):=by
 rw[Adj.app] at h ⊢;obtain⟨h1,h2,h3,h4,h5⟩:=h;exact⟨h1,h5.five (by omega)⟩
theorem Adj.less_join {l₁ l₂:List Nat} {a c p:Nat} (h:Adj p (l₁++(a+1)::c::l₂)) (ha:1<=a) (hac:a+c < 5):Adj p (l₁++(a+c)::l₂):=by
 rw[Adj.app] at h ⊢;obtain⟨h1,h2,h3,h4,h5,h6,h7,h8⟩:=h;exact⟨h1,by omega,by omega,by omega,h8.mono (by omega)⟩
theorem Adj.less_join_l {l₁ l₂:List Nat} {a e p:Nat} (h:Adj p (l₁++e::(a+1)::l₂)) (hea:e+a < 5):Adj p (l₁++(e+a)::l₂):=by
 rw[Adj.app] at h ⊢;obtain⟨h1,h2,h3,h4,h5,h6,h7,h8⟩:=h;exact⟨h1,by omega,by omega,by omega,h8.five (by omega)⟩
theorem Adj.less {l₁ l₂:List Nat} {a p:Nat} (h:Adj p (l₁++(a+1)::l₂)) (ha:1<=a) (hl:5<=f_G p l₁+a) (hr:∀c r,l₂=c::r->5<=a+c):Adj p (l₁++a::l₂):=by
 rw[Adj.app] at h ⊢;obtain⟨h1,h2,h3,h4,h5⟩:=h;refine⟨h1,ha,by omega,hl,?_⟩;cases l₂ with
 | nil=>trivial
 | cons c r=>
   obtain⟨h6,h7,h8,h9⟩:=h5;exact⟨h6,h7,hr c r rfl,h9⟩
section
variable {ρ:Type} (lt:ρ->ρ->Bool)
abbrev Srt (l:List ρ):Prop:=l.Pairwise λa b=>lt a b=true
variable {lt}
def n_i (lt:ρ->ρ->Bool) (P:ρ->Bool):Prop:=∀x y,lt x y=true->P y=true->P x=true
theorem Srt.app {l₁ l₂:List ρ}:Srt lt (l₁++l₂)↔Srt lt l₁/\Srt lt l₂/\∀a∈l₁,∀b∈l₂,lt a b=true:=List.pairwise_append
theorem c_R {P:ρ->Bool} (D:n_i lt P):∀{l:List ρ},Srt lt l->l.takeWhile P=l.filter P
 | [],_=>rfl
 | x::r,h=>by
   have a:=s_B.mp h;cases e:P x with
   | true=>rw[List.takeWhile_cons,s_m];simp only[e,if_true];rw[c_R D a.2]
   | false=>
     rw[List.takeWhile_cons,s_m];simp only[e];symm;simp only[Bool.false_eq_true,if_false];rw[List.filter_eq_nil_iff];intro y c b;have:=D x y (a.1 y c) b;rw[e] at this;cases this
theorem l_p {P:ρ->Bool} (D:n_i lt P) {l:List ρ} (h:Srt lt l):∀x∈l.dropWhile P,P x=false:=by
 induction l with
 | nil=>intro x b;cases b
 | cons a r ih=>
   intro x b;have c:=s_B.mp h;cases e:P a with
   | true=>rw[List.dropWhile_cons] at b;simp only[e,if_true] at b;exact ih c.2 x b
   | false=>
     rw[List.dropWhile_cons] at b;simp only[e] at b;rcases r_8.mp b with rfl | b
     ·exact e
     ·cases q:P x with
      | false=>rfl
      | true=>have:=D a x (c.1 x b) q;rw[e] at this;cases this
theorem l_m {P:ρ->Bool} {l:List ρ}:∀x∈l.takeWhile P,P x=true:=by
 induction l with
 | nil=>intro x hx;cases hx
 | cons a r ih=>
   intro x hx;rw[List.takeWhile_cons] at hx;cases e:P a with
   | true=>
     simp only[e,if_true] at hx;rcases r_8.mp hx with rfl | hx
     ·exact e
     ·exact ih x hx
   | false=>simp[e] at hx
theorem Srt.ins {l:List ρ} {x:ρ} (tr:∀a b c,lt a b=true->lt b c=true->lt a c=true) (h:Srt lt l) (hx:∀y∈l,lt y x=true\/lt x y=true):
 Srt lt (l.takeWhile (λy=>lt y x)++x::l.dropWhile λy=>lt y x):=by
 have D:n_i lt λy=>lt y x:=λa b i d=>tr a b x i d;have e:=List.takeWhile_append_dropWhile (p:=λy=>lt y x) (l:=l);have f:=h;rw[<-e,Srt.app] at f;obtain⟨m,n,o⟩:=f;refine Srt.app.mpr ⟨m,s_B.mpr ⟨λy j=> ?_, n⟩,λa g b d=> ?_⟩
 ·have k:=l_p D h y j
  rcases hx y (by rw[<-e];exact s_a _ j) with z | z
  ·rw[k] at z;cases z
  ·exact z
 ·rcases r_8.mp d with rfl | d
  ·exact l_m (P:=λy=>lt y b) a g
  ·exact o a g b d
theorem h_P {P:ρ->Bool} {l:List ρ} {x:ρ}:(l.takeWhile P++x::l.dropWhile P).Perm (x::l):=by
 have e:=List.takeWhile_append_dropWhile (p:=P) (l:=l);exact List.perm_middle.trans (by rw[e])
theorem Srt.one (ir:∀a,lt a a=false) (tr:∀a b c,lt a b=true->lt b c=true->lt a c=true):∀{l₁ l₂:List ρ},Srt lt l₁->Srt lt l₂->l₁.Perm l₂->l₁=l₂
 | [],l₂,_,_,p=>by rw[List.nil_perm.mp p]
 | a::r, [],_,_,p=>by cases List.perm_nil.mp p
 | a::r,b::t,h1,h2,p=>by
   have d:=s_B.mp h1;have e:=s_B.mp h2
   have f:a=b:=by
    rcases r_8.mp (p.mem_iff.mp (r_1 ..)) with q | q
    ·exact q
    ·rcases r_8.mp (p.mem_iff.mpr (r_1 ..)) with q' | q'
     ·exact q'.symm
     ·have z:=tr _ _ _ (d.1 b q') (e.1 a q)
      rw[ir] at z;cases z
   subst f;rw[Srt.one ir tr d.2 e.2 (List.Perm.cons_inv p)]
variable {P:ρ->Bool}
theorem c_c (D:n_i lt P):∀{B:List (List ρ)},Srt lt B.flatten->(∀b∈B,∃x,b.getLast? =some x/\P x=true)->∀x∈B.flatten,P x=true
 | [],_,_,x,a=>by cases a
 | b::B,h,hl,x,a=>by
   rw[s_q] at h a;have d:=Srt.app.mp h;rcases s_f.mp a with a | a
   ·obtain⟨z,f,pz⟩:=hl b (r_1 ..)
    obtain⟨ys,rfl⟩:=List.getLast?_eq_some_iff.mp f;rcases s_f.mp a with a | a
    ·exact D x z ((Srt.app.mp d.1).2.2 x a z (r_2.mpr rfl)) pz
    ·rw[r_2.mp a];exact pz
   ·exact c_c D d.2.1 (λc e=>hl c (r_0 _ e)) x a
theorem h_f (D:n_i lt P) {b t:List ρ} {z:ρ} (h:Srt lt (b++t)) (hz:b.getLast? =some z) (pz:P z=false):∀y∈t,P y=false:=λy hy=>by
 obtain⟨ys,rfl⟩:=List.getLast?_eq_some_iff.mp hz;cases e:P y with
 | false=>rfl
 | true=>
   have:=D z y ((Srt.app.mp h).2.2 z (s_a _ (r_2.mpr rfl)) y hy) e;rw[pz] at this;cases this
theorem m_F {l₁ l₂:List ρ} (h:∀x∈l₁,P x=true):(l₁++l₂).takeWhile P=l₁++l₂.takeWhile P:=List.takeWhile_append_of_pos h
theorem p_l {l₁ l₂:List ρ} (h:∀x∈l₁,P x=true):(l₁++l₂).dropWhile P=l₂.dropWhile P:=List.dropWhile_append_of_pos h
theorem f_p:∀{b t:List ρ},(∀y∈t,P y=false)->(b++t).takeWhile P=b.takeWhile P/\(b++t).dropWhile P=b.dropWhile P++t
 | [], [],_=>⟨rfl,rfl⟩
 | [],y::t,h=>by
   have e:=h y (r_1 ..);simp[e]
 | x::b,t,h=>by
   obtain⟨a,c⟩:=f_p (b:=b) h;cases e:P x with
   | true=>simp only[List.cons_append,List.takeWhile_cons,List.dropWhile_cons,e,if_true,a,c,and_self]
   | false=>simp[e]
theorem i_t {B₁ B₂:List (List ρ)} {b:List ρ} {x:ρ} (h1:∀y∈B₁.flatten,P y=true) (h2:∀y∈B₂.flatten,P y=false):
 (B₁++(b.takeWhile P++x::b.dropWhile P)::B₂).flatten=(B₁++b::B₂).flatten.takeWhile P++x::(B₁++b::B₂).flatten.dropWhile P:=by
 rw[s_k,s_k,s_q,s_q,m_F h1,p_l h1,(f_p h2).1,(f_p h2).2];simp only[List.append_assoc,List.cons_append]
theorem f_1 (D:n_i lt P) {B₁ B₂:List (List ρ)} {b:List ρ} (hs:Srt lt (B₁++b::B₂).flatten) (h1:∀y∈B₁.flatten,P y=true) (h2:∀y∈B₂.flatten,P y=false):
 ((B₁++b::B₂).flatten.filter P).length=(B₁.map List.length).sum+(b.takeWhile P).length:=by
 rw[<-c_R D hs,s_k,s_q,m_F h1,(f_p h2).1,r_Z,List.length_flatten]
theorem d_S {B:List (List ρ)} (h1:∀y∈B.flatten,P y=true):(B.flatten.filter P).length=(B.map List.length).sum:=by
 rw[List.filter_eq_self.mpr h1,List.length_flatten]
theorem h_u (ir:∀a,lt a a=false) {B₁ B₂:List (List ρ)} {b:List ρ} {x z:ρ} (hs:Srt lt (B₁++b::B₂).flatten) (hx:x∈(B₁++b::B₂).flatten) (h1:∀y∈B₁.flatten,lt y x=true)
 (hz:b.getLast? =some z) (pz:lt z x=false):x∈b:=by
 rw[s_k,s_q] at hs hx;rcases s_f.mp hx with c | c
 ·have:=h1 x c;rw[ir] at this;cases this
 ·rcases s_f.mp c with d | d
  ·exact d
  ·obtain⟨ys,rfl⟩:=List.getLast?_eq_some_iff.mp hz
   have:=(Srt.app.mp (Srt.app.mp hs).2.1).2.2 z (s_a _ (r_2.mpr rfl)) x d;rw[pz] at this;cases this
theorem o_H (ir:∀a,lt a a=false) {l:List ρ} {x:ρ} (hx:x∈l) (h1:∀y∈l,lt y x=true):False:=by
 have:=h1 x hx;rw[ir] at this;cases this
variable [DecidableEq ρ]
theorem g_h {B₁ B₂:List (List ρ)} {b:List ρ} {x:ρ} (hs:Srt lt (B₁++b::B₂).flatten) (hx:x∈b):
 Srt lt (B₁++b.erase x::B₂).flatten/\(x::(B₁++b.erase x::B₂).flatten).Perm (B₁++b::B₂).flatten:=by
 rw[s_k,s_q] at hs ⊢;rw[s_k,s_q];refine⟨List.Pairwise.sublist (List.Sublist.append (List.Sublist.refl _) (List.Sublist.append List.erase_sublist (List.Sublist.refl _))) hs,?_⟩;refine List.Perm.trans List.perm_middle.symm (List.Perm.append_left _ ?_);exact (List.Perm.append_right _ (List.perm_cons_erase hx).symm:(x::b.erase x++B₂.flatten).Perm (b++B₂.flatten))
end
section
variable {α:Type}
theorem k_a {l₁ l₂:List α} {a b:α}:(l₁++a::l₂).set l₁.length b=l₁++b::l₂:=by
 rw[List.set_append_right _ _ (r_6 _),Nat.sub_self,List.set_cons_zero]
theorem g_d {l₁ l₂:List α} {a:α}:(l₁++a::l₂).eraseIdx l₁.length=l₁++l₂:=by
 rw[List.eraseIdx_append_of_length_le (r_6 _),Nat.sub_self,List.eraseIdx_zero,List.tail_cons]
theorem c_9 {l₁ l₂:List α} {a:α}:(l₁++a::l₂)[l₁.length]? =some a:=by
 rw[List.getElem?_append_right (r_6 _),Nat.sub_self,List.getElem?_cons_zero]
theorem d_6 {l:List α} {i:Nat} {a:α} (h:l[i]? =some a):∃l₁ l₂,l=l₁++a::l₂/\l₁.length=i:=by
 obtain⟨hi,e⟩:=s_b.mp h;refine⟨l.take i,l.drop (i+1),?_, by rw[s_j];omega⟩;rw[<-e,List.getElem_cons_drop,s_A]
end
end TO
namespace TO
open PySem PySem.W PyProof.Rows
abbrev pg (p:Array Nat) (a:Nat):Nat:=p.getD a 0
structure Rear (n:Nat) (p:Array Nat):Prop where
 perm:p.Perm (List.toArray (List.range n))
theorem Rear.size {n:Nat} {p:Array Nat} (h:Rear n p):p.size=n:=by
 have:=h.perm.size_eq;simpa using this
theorem d_v (p:Array Nat) (a:Nat):pg p a=(p[a]?).getD 0:=Array.getD_eq_getD_getElem?
theorem Rear.lt {n:Nat} {p:Array Nat} (h:Rear n p) {a:Nat} (ha:a < n):pg p a < n:=by
 have hs:=h.size;have:p[a]'(by omega)∈p:=Array.getElem_mem _;have:=h.perm.mem_iff.mp this;rw[d_v,getElem?_pos p a (by omega)];simpa using this
theorem Rear.nodup {n:Nat} {p:Array Nat} (h:Rear n p):p.toList.Nodup:=by
 have:=(Array.perm_iff_toList_perm.mp h.perm).nodup_iff.mpr (by simpa using List.nodup_range);exact this
theorem Rear.inj {n:Nat} {p:Array Nat} (h:Rear n p) {a b:Nat} (ha:a < n) (hb:b < n) (hab:a≠b):pg p a≠pg p b:=by
 have d:=h.size;intro e;rw[d_v,d_v,getElem?_pos p a (by omega),getElem?_pos p b (by omega)] at e;have e':p.toList[a]'(by simp;omega)=p.toList[b]'(by simp;omega):=by simpa using e
 have c:=List.pairwise_iff_getElem.mp h.nodup;rcases Nat.lt_or_gt_of_ne hab with q | q
 ·exact c a b _ _ q e'
 ·exact c b a _ _ q e'.symm
structure SO (n:Nat) (lt:Nat->Nat->Bool):Prop where
 tr:∀a b c,a < n->b < n->c < n->lt a b=true->lt b c=true->lt a c=true
 tri:∀a b,a < n->b < n->a≠b->lt a b=false->lt b a=true
def Up (lt:Nat->Nat->Bool) (p:Array Nat) (m:Nat):Prop:=∀a b,a < b->b < m->lt (pg p a) (pg p b)=true
def Dn (lt:Nat->Nat->Bool) (p:Array Nat) (m:Nat):Prop:=∀a b,a < b->b < m->lt (pg p b) (pg p a)=true
section
variable {n:Nat} {s:Shared} {lt:Nat->Nat->Bool} {cmp:Nat->Nat->(Bool->Shared->Prop)->Shared->Prop}
theorem Up.next (O:SO n lt) {p:Array Nat} (R:Rear n p) {m:Nat} (h:Up lt p m) (h1:1<=m) (hm:m < n) (hl:lt (pg p (m - 1)) (pg p m)=true):Up lt p (m+1):=by
 intro a b c f;by_cases e:b=m
 ·subst e
  by_cases d:a=b - 1
  ·subst d;exact hl
  ·exact O.tr _ _ _ (R.lt (by omega)) (R.lt (by omega)) (R.lt hm) (h a (b - 1) (by omega) (by omega)) hl
 ·exact h a b c (by omega)
theorem Dn.next (O:SO n lt) {p:Array Nat} (R:Rear n p) {m:Nat} (h:Dn lt p m) (h1:1<=m) (hm:m < n) (hl:lt (pg p m) (pg p (m - 1))=true):Dn lt p (m+1):=by
 intro a b c f;by_cases e:b=m
 ·subst e
  by_cases d:a=b - 1
  ·subst d;exact hl
  ·exact O.tr _ _ _ (R.lt (by omega)) (R.lt (by omega)) (R.lt (by omega)) hl (h a (b - 1) (by omega) (by omega))
 ·exact h a b c (by omega)
theorem k_N (O:SO n lt) (hc:∀i j C,i < n->j < n->C (lt i j) s->cmp i j C s) {p:Array Nat} (R:Rear n p) {Q:Nat->Shared->Prop}:
 ∀(f a:Nat),1<=a->a+f=n->Up lt p a->(∀m,a<=m->m<=n->Up lt p m->(m=n\/(m < n/\lt (pg p m) (pg p (m - 1))=true))->Q m s)->(kas_asc p f a).kasWp cmp Q s
 | 0,a,h1,ha,hu,hq=>hq a (r_6 _) (by omega) hu (.inl (by omega))
 | f+1,a,h1,ha,hu,hq=>by
   have b:a < n:=by omega
   refine hc _ _ _ (R.lt b) (R.lt (by omega)) ?_;cases e:lt (pg p a) (pg p (a - 1)) with
   | true=>exact hq a (r_6 _) (by omega) hu (.inr ⟨b,e⟩)
   | false=>
     have d:=O.tri _ _ (R.lt b) (R.lt (by omega)) (R.inj b (by omega) (by omega)) e;exact k_N O hc R f (a+1) (by omega) (by omega) (hu.next O R h1 b d) λm g c=>hq m (by omega) c
theorem k_o (O:SO n lt) (hc:∀i j C,i < n->j < n->C (lt i j) s->cmp i j C s) {p:Array Nat} (R:Rear n p) {Q:Array Nat×Nat×Nat->Shared->Prop}:
 ∀(f a:Nat),1<=a->a+f=n->Dn lt p a->(∀m,a<=m->m<=n->Dn lt p m->Q (p,m,0) s)->(kas_desc f p a 0).kasWp cmp Q s
 | 0,a,h1,ha,hu,hq=>hq a (r_6 _) (by omega) hu
 | f+1,a,h1,ha,hu,hq=>by
   have b:a < n:=by omega
   refine hc _ _ _ (R.lt b) (R.lt (by omega)) ?_;cases e:lt (pg p a) (pg p (a - 1)) with
   | true=>
     dsimp only;rw[if_pos rfl,if_neg (by omega)];exact k_o O hc R f (a+1) (by omega) (by omega) (hu.next O R h1 b e) λm g c=>hq m (by omega) c
   | false=>
     have d:=O.tri _ _ (R.lt b) (R.lt (by omega)) (R.inj b (by omega) (by omega)) e;refine hc _ _ _ (R.lt (by omega)) (R.lt b) ?_;rw[show lt (p.getD (a - 1) 0) (p.getD a 0)=true from d];exact hq a (r_6 _) (by omega) hu
theorem m_x {p:Array Nat} {m:Nat} (hm:m<=p.size) (k:Nat):pg (kas_rev p 0 m) k=if k < m then pg p (m - 1 - k) else pg p k:=by
 rw[d_v,d_v,d_v];unfold kas_rev;rw[getElem?_mirror_all hm];by_cases h:k < m
 ·rw[if_pos ⟨s_p _,h⟩,if_pos h,Nat.zero_add]
 ·rw[if_neg (λq=>h q.2),if_neg h]
theorem Rear.rev {p:Array Nat} (R:Rear n p) (i j:Nat):Rear n (kas_rev p i j):=⟨(mirror_perm _ _ _ _).trans R.perm⟩
theorem Dn.rev {p:Array Nat} (R:Rear n p) {m:Nat} (h:Dn lt p m) (hm:m<=n):Up lt (kas_rev p 0 m) m:=by
 intro a b hab hb;have hs:=R.size;rw[m_x (by omega),m_x (by omega),if_pos (by omega),if_pos hb];exact h (m - 1 - b) (m - 1 - a) (by omega) (by omega)
theorem l_F (O:SO n lt) (hc:∀i j C,i < n->j < n->C (lt i j) s->cmp i j C s) {p:Array Nat} (R:Rear n p) (hn:1<=n) {Q:Nat×Array Nat->Shared->Prop}
 (hq:∀m p',Rear n p'->1<=m->m<=n->Up lt p' m->Q (m,p') s):(kas_count n p).kasWp cmp Q s:=by
 unfold kas_count;rw[KasT.kasWp_bind];refine k_N O hc R (n - 1) 1 (r_6 _) (by omega) (λa b _ _=>by omega) λm l d c f=> ?_;by_cases e:m=n
 ·subst e
  rw[if_pos (by simp)];exact hq m p R l d c
 ·rw[if_neg (by simpa using e)]
  by_cases g:m > 1
  ·rw[if_pos g]
   refine hc _ _ _ (R.lt (by omega)) (R.lt (by omega)) ?_;rw[c 0 (m - 1) (by omega) (by omega)];exact hq m p R l d c
  ·rw[if_neg g]
   have t:m=1:=by omega
   subst t
   have r:lt (pg p 1) (pg p 0)=true:=by
    rcases f with q | q
    ·exact absurd q e
    ·exact q.2
   unfold kas_descPart;rw[KasT.kasWp_bind];refine k_o O hc R (n - 2) 2 (by omega) (by omega) (λa b u v=> ?_) λm w d o=> ?_
   ·have:a=0:=by omega
    have:b=1:=by omega
    subst a b;exact r
   ·rw[if_neg (by simp)]
    unfold kas_tail3;rw[KasT.kasWp_bind];exact k_N O hc (R.rev 0 m) (n - m) m (by omega) (by omega) (o.rev R d) λk x h c _=>hq k _ (R.rev 0 m) (by omega) h c
theorem f_F (O:SO n lt) (hc:∀i j C,i < n->j < n->C (lt i j) s->cmp i j C s) {p:Array Nat} (R:Rear n p) {k:Nat} (hk:k < n) (hu:Up lt p k) {Q:Nat->Shared->Prop}:
 ∀(f l r:Nat),l<=r->r<=k->r - l<=f->(∀a,a < l->lt (pg p a) (pg p k)=true)->(∀a,r<=a->a < k->lt (pg p k) (pg p a)=true)->
  (∀l,l<=k->(∀a,a < l->lt (pg p a) (pg p k)=true)->(∀a,l<=a->a < k->lt (pg p k) (pg p a)=true)->Q l s)->(kas_place p k f l r).kasWp cmp Q s
 | 0,l,r,h1,h2,h3,ha,hb,hq=>by
   have:l=r:=by omega
   subst this;exact hq l h2 ha hb
 | f+1,l,r,h1,h2,h3,ha,hb,hq=>by
   unfold kas_place;by_cases e:l ≥ r
   ·rw[if_pos e]
    have:l=r:=by omega
    subst this;exact hq l h2 ha hb
   ·rw[if_neg e]
    refine hc _ _ _ (R.lt hk) (R.lt (by omega)) ?_;cases c:lt (pg p k) (pg p ((l+r) / 2)) with
    | true=>
      refine f_F O hc R hk hu f l ((l+r) / 2) (by omega) (by omega) (by omega) ha (λa d g=> ?_) hq;by_cases b:a=(l+r) / 2
      ·subst b;exact c
      ·exact O.tr _ _ _ (R.lt hk) (R.lt (by omega)) (R.lt (by omega)) c (hu _ a (by omega) g)
    | false=>
      have c':=O.tri _ _ (R.lt hk) (R.lt (by omega)) (R.inj hk (by omega) (by omega)) c;refine f_F O hc R hk hu f ((l+r) / 2+1) r (by omega) h2 (by omega) (λa d=> ?_) hb hq;by_cases b:a=(l+r) / 2
      ·subst b;exact c'
      ·exact O.tr _ _ _ (R.lt (by omega)) (R.lt (by omega)) (R.lt hk) (hu a _ (by omega) (by omega)) c'
theorem g_b {p:Array Nat} {k d:Nat} (hk:k < p.size) (hd:d<=k) (a:Nat):pg (bubble p k d) a=if a=k - d then pg p k else if k - d < a/\a<=k then pg p (a - 1) else pg p a:=by
 rw[d_v,d_v,d_v,d_v,getElem?_bubble hk d hd]
 repeat' split
 all_goals rfl
theorem m_g (O:SO n lt) (hc:∀i j C,i < n->j < n->C (lt i j) s->cmp i j C s) {Q:Array Nat->Shared->Prop}:
 ∀(f k:Nat) (p:Array Nat),Rear n p->k+f=n->Up lt p k->(∀p',Rear n p'->Up lt p' n->Q p' s)->(kas_bin f p k).kasWp cmp Q s
 | 0,k,p,R,hk,hu,hq=>by
   have:k=n:=by omega
   subst this;exact hq p R hu
 | f+1,k,p,R,hk,hu,hq=>by
   unfold kas_bin;rw[KasT.kasWp_bind];have v:=R.size;refine f_F O hc R (by omega) hu k 0 k (by omega) (r_6 _) (by omega) (λa h=>by omega) (λa q o=>by omega) λl w q o=> ?_;refine m_g O hc f (k+1) _ ⟨(bubble_perm _ _ _).trans R.perm⟩ (by omega) (λa b c u=> ?_) hq;rw[g_b (by omega) (by omega),g_b (by omega) (by omega)];have e:k - (k - l)=l:=by omega
   rw[e];by_cases r:a=l
   ·rw[if_pos r,if_neg (by omega),if_pos (by omega)]
    exact o _ (by omega) (by omega)
   ·rw[if_neg r]
    by_cases d:l < a/\a<=k
    ·rw[if_pos d,if_neg (by omega),if_pos (by omega)]
     exact hu _ _ (by omega) (by omega)
    ·rw[if_neg d]
     by_cases m:b=l
     ·rw[if_pos m]
      exact q _ (by omega)
     ·rw[if_neg m]
      by_cases g:l < b/\b<=k
      ·rw[if_pos g]
       by_cases t:a < b - 1
       ·exact hu _ _ t (by omega)
       ·omega
      ·rw[if_neg g]
       exact hu _ _ c (by omega)
theorem j_T (O:SO n lt) (hc:∀i j C,i < n->j < n->C (lt i j) s->cmp i j C s) (hn:1<=n) {Q:Array Nat->Shared->Prop} (hq:∀p,Rear n p->Up lt p n->Q p s):(kas_sort n).kasWp cmp Q s:=by
 unfold kas_sort;rw[KasT.kasWp_bind];refine l_F O hc ⟨Array.Perm.refl _⟩ hn λm p R d c a=> ?_;by_cases e:m < n
 ·rw[if_pos e]
  have b:max m 1=m:=by omega
  dsimp only;rw[b];exact m_g O hc _ m p R (by omega) a hq
 ·rw[if_neg e]
  have:m=n:=by omega
  subst this;exact hq p R a
end
end TO
namespace TO
open PySem L2
theorem c_d (x:V):ltV x x=false:=by
 cases x <;> simp[ltV]
theorem e_i {x y z:V} (h1:ltV x y=true) (h2:ltV y z=true):ltV x z=true:=by
 cases x <;> cases y <;> (try simp[ltV] at h1) <;> cases z <;> (try simp[ltV] at h2)
 ·simp only[ltV,decide_eq_true_eq];omega
 ·simp only[ltV,decide_eq_true_eq];exact List.lt_trans h1 h2
theorem m_U {a b:Str} (h:a.cps.toList=b.cps.toList):a=b:=by
 cases a;cases b;simp at h;simp[h]
theorem h_j {x y:V} (ha:b_j x y=true) (h:ltV x y=false) (hn:x≠y):ltV y x=true:=by
 cases x <;> cases y <;> (try cases ha)
 ·rename_i a b
  simp only[ltV,decide_eq_false_iff_not,decide_eq_true_eq] at h ⊢;have:a≠b:=λe=>hn (by rw[e]);omega
 ·rename_i a b
  simp only[ltV,decide_eq_false_iff_not,decide_eq_true_eq] at h ⊢;have c:a.cps.toList≠b.cps.toList:=λe=>hn (by rw[m_U e]);have d:b.cps.toList<=a.cps.toList:=h;rcases List.le_iff_lt_or_eq.mp d with q | q
  ·exact q
  ·exact absurd q.symm c
theorem k_Q {x y:V} (h:ltV x y=true):ltV y x=false:=by
 cases e:ltV y x with
 | false=>rfl
 | true=>have:=e_i h e;rw[c_d] at this;cases this
theorem p_M {x y:V} (h:ltV x y=true):x≠y:=λe=>by rw[e,c_d] at h;cases h
theorem e_c:∀xs:List V,b_c xs xs=false
 | []=>rfl
 | x::r=>by rw[b_h,if_pos rfl];exact e_c r
theorem c_Q:∀{xs ys zs:List V},b_c xs ys=true->b_c ys zs=true->b_c xs zs=true
 | [], [],_,h,_=>by cases h
 | [],_::_, [],_,h=>by cases h
 | [],_::_,_::_,_,_=>rfl
 | _::_, [],_,h,_=>by cases h
 | _::_,_::_, [],_,h=>by cases h
 | x::xs,y::ys,z::zs,h1,h2=>by
   rw[b_h] at h1 h2 ⊢;by_cases b:x=y
   ·subst b
    rw[if_pos rfl] at h1;by_cases a:x=z
    ·rw[if_pos a] at h2 ⊢
     exact c_Q h1 h2
    ·rw[if_neg a] at h2 ⊢
     exact h2
   ·rw[if_neg b] at h1
    by_cases a:y=z
    ·subst a
     rw[if_neg b];exact h1
    ·rw[if_neg a] at h2
     have c:=e_i h1 h2;rw[if_neg (p_M c)];exact c
structure Row where
 n:Int
 r:Int
 t:Str
deriving DecidableEq
def d_Z (ρ:Row):List V:= [.int ρ.n,.int ρ.r,.str ρ.t]
theorem d_U {ρ ρ':Row} (h:d_Z ρ=d_Z ρ'):ρ=ρ':=by
 cases ρ;cases ρ';simp[d_Z] at h;simp[h]
def c_t (w:Bool) (ρ:Row):V:=if w=true then .str ρ.t else .int ρ.r
def a_I (w:Bool) (ρ:Row):List V:= [c_t w ρ,.int ρ.n]
def ltR (w:Bool) (a b:Row):Bool:=b_c (a_I w a) (a_I w b)
theorem c_I (w:Bool) (a b:Row):b_j (c_t w a) (c_t w b)=true:=by cases w <;> rfl
theorem c_x (w:Bool) (a b:Row):d_Q (a_I w a) (a_I w b):=⟨c_I w a b,rfl,trivial⟩
theorem b_L (w:Bool) (a:Row):ltR w a a=false:=e_c _
theorem c_y (w:Bool) (a b c:Row) (h1:ltR w a b=true) (h2:ltR w b c=true):ltR w a c=true:=c_Q h1 h2
theorem g_2 {w:Bool} {a b:Row} (hn:a.n≠b.n):ltR w a b=true\/ltR w b a=true:=by
 unfold ltR a_I;rw[b_h (c_t w a),b_h (c_t w b)];by_cases e:c_t w a=c_t w b
 ·rw[if_pos e,if_pos e.symm,b_h (.int a.n),b_h (.int b.n)]
  have c:¬ V.int a.n=V.int b.n:=λq=>hn (by injection q);have d:¬ V.int b.n=V.int a.n:=λq=>hn (by injection q with q;exact q.symm);rw[if_neg c,if_neg d];simp only[ltV,decide_eq_true_eq];omega
 ·rw[if_neg e,if_neg (λq:c_t w b=c_t w a=>e q.symm)]
  cases q:ltV (c_t w a) (c_t w b) with
  | true=>exact .inl rfl
  | false=>exact .inr (h_j (c_I w a b) q e)
theorem b_0 (w:Bool) (q:List V):n_i (ltR w) λx=>b_c (a_I w x) q:=λ_ _ h1 h2=>c_Q h1 h2
theorem l_2 (w:Bool) (x:Row) (l:V):b_c (a_I w x) [l]=ltV (c_t w x) l:=by
 unfold a_I;rw[b_h];by_cases e:c_t w x=l
 ·rw[if_pos e,e,c_d];rfl
 ·rw[if_neg e]
theorem l_5 {w:Bool} {a b:Row} (h:ltR w a b=true):ltV (c_t w b) (c_t w a)=false:=by
 unfold ltR a_I at h;rw[b_h] at h;by_cases e:c_t w a=c_t w b
 ·rw[e];exact c_d _
 ·rw[if_neg e] at h
  exact k_Q h
end TO
namespace TO
open PySem PySem.Spec PyProof.Rows L2
def RowAt (H:Hp) (a:Addr) (ρ:Row):Prop:=H a=some (.tup (d_Z ρ))
abbrev RowsAt (H:Hp):List Addr->List Row->Prop:=Paired (RowAt H)
def LstAt (H:Hp) (l:Addr) (ρs:List Row):Prop:=∃as:List Addr,H l=some (.lst (as.map .ref))/\RowsAt H as ρs
theorem RowsAt.same {H H':Hp} (s:∀b xs,H b=some (.tup xs)->H' b=some (.tup xs)):∀{as:List Addr} {ρs:List Row},RowsAt H as ρs->RowsAt H' as ρs
 | _,_,.nil=> .nil
 | _,_,.cons h t=> .cons (s _ _ h) (RowsAt.same s t)
theorem RowsAt.app {H:Hp}:∀{as bs:List Addr} {ρs κs:List Row},RowsAt H as ρs->RowsAt H bs κs->RowsAt H (as++bs) (ρs++κs)
 | _,_,_,_,.nil,h=>h
 | _,_,_,_,.cons a t,h=> .cons a (RowsAt.app t h)
theorem RowsAt.get {H:Hp}:∀{as:List Addr} {ρs:List Row} {i:Nat} {ρ:Row},RowsAt H as ρs->ρs[i]? =some ρ->∃a,as[i]? =some a/\RowAt H a ρ
 | _,_,_,_,.nil,e=>by simp at e
 | _,_,0,_,.cons r _,e=>by simp at e;subst e;exact⟨_,rfl,r⟩
 | _,_,i+1,_,.cons _ t,e=>by
   obtain⟨u,c,b⟩:=RowsAt.get (i:=i) t (by simpa using e);exact⟨u,by simpa using c,b⟩
theorem RowsAt.get' {H:Hp}:∀{as:List Addr} {ρs:List Row} {i:Nat} {a:Addr},RowsAt H as ρs->as[i]? =some a->∃ρ,ρs[i]? =some ρ/\RowAt H a ρ
 | _,_,_,_,.nil,e=>by simp at e
 | _,_,0,_,.cons r _,e=>by simp at e;subst e;exact⟨_,rfl,r⟩
 | _,_,i+1,_,.cons _ t,e=>by
   obtain⟨u,c,b⟩:=RowsAt.get' (i:=i) t (by simpa using e);exact⟨u,by simpa using c,b⟩
theorem RowsAt.len {H:Hp} {as:List Addr} {ρs:List Row} (h:RowsAt H as ρs):as.length=ρs.length:=Paired.length h
theorem RowsAt.take {H:Hp}:∀{as:List Addr} {ρs:List Row} (n:Nat),RowsAt H as ρs->RowsAt H (as.take n) (ρs.take n)
 | _,_,0,_=> .nil
 | _,_,_+1,.nil=> .nil
 | _,_,n+1,.cons r t=> .cons r (RowsAt.take n t)
theorem RowsAt.drop {H:Hp}:∀{as:List Addr} {ρs:List Row} (n:Nat),RowsAt H as ρs->RowsAt H (as.drop n) (ρs.drop n)
 | _,_,0,r=>r
 | _,_,_+1,.nil=> .nil
 | _,_,n+1,.cons _ t=>RowsAt.drop n t
theorem RowsAt.eraseIdx {H:Hp}:∀{as:List Addr} {ρs:List Row} (n:Nat),RowsAt H as ρs->RowsAt H (as.eraseIdx n) (ρs.eraseIdx n)
 | _,_,_,.nil=> .nil
 | _,_,0,.cons _ t=>t
 | _,_,n+1,.cons r t=> .cons r (RowsAt.eraseIdx n t)
theorem LstAt.same {H H':Hp} {l:Addr} {ρs:List Row} (h:LstAt H l ρs) (e:H' l=H l) (s:∀b xs,H b=some (.tup xs)->H' b=some (.tup xs)):LstAt H' l ρs:=by
 obtain⟨as,h1,h2⟩:=h;exact⟨as,e.trans h1,h2.same s⟩
theorem LstAt.sameS {H H':Hp} {l:Addr} {ρs:List Row} (h:LstAt H l ρs) (s:Same H H'):LstAt H' l ρs:=by
 obtain⟨as,h1,h2⟩:=h;exact⟨as,s _ _ h1,h2.same λb xs q=>s _ _ q⟩
theorem d_r {α β:Type} (f:α->β):∀(l:List α) (i:Nat),(l.map f).eraseIdx i=(l.eraseIdx i).map f
 | [],_=>rfl
 | _::_,0=>rfl
 | a::r,i+1=>by simp[d_r f r i]
theorem c_P:∀as:List Addr,Vals (as.map V.ref) (as.map Value.ref)
 | []=> .nil
 | _::r=> .cons rfl (c_P r)
theorem e_t {α:Type} [DecidableEq α] {a:α}:∀{l:List α} {m:Nat},m < l.idxOf a->l[m]?≠some a
 | [],m,h=>by simp
 | x::r,m,h=>by
   rw[List.idxOf_cons] at h;cases e:x == a with
   | true=>rw[e] at h;simp at h
   | false=>
     rw[e] at h;cases m with
     | zero=>intro q;simp at q;subst q;simp at e
     | succ m=>
       rw[List.getElem?_cons_succ];exact e_t (by simpa using h)
section
variable {X:Cx}
theorem p_m {pins:List (Addr×Obj)} {σ:L2.St} {H:Hp} {s:Shared} {A:Around} (I:Inv X pins σ H s) {a b:Addr} {ρ ρ':Row} (hb:RowAt H b ρ') (ha:RowAt H a ρ) (hu:A.units < cLine):SeqAt.EqAt A s (.ref b) (.ref a) (decide (ρ'=ρ)):=by
 by_cases e:b=a
 ·subst e
  have:ρ'=ρ:=d_U (by have:=hb.symm.trans ha;injection this with this;injection this);subst this;rw[s_D rfl];exact SeqAt.EqAt.same _
 ·obtain⟨ib,rb,pb,_⟩:=I.tuple (SqT.of hb:SqT X.K H b (d_Z ρ'))
  obtain⟨ia,ra,pa,_⟩:=I.tuple (SqT.of ha:SqT X.K H a (d_Z ρ));have lb:=rb.length;have la:=ra.length;have f:ib.length=3:=by rw[<-lb];rfl
  have g:ia.length=3:=by rw[<-la];rfl
  have z:=SeqAt.RcAt.tuples (A:=A) (s:=s) (l:=b) (b:=a) (items:=ib.toArray) (items2:=ia.toArray) (e:=λj=>decide ((d_Z ρ')[j]? =(d_Z ρ)[j]?)) pb pa hu (λj p r=>by
   have d:j < 3:=by simpa[f] using p
   have n:∃x,(d_Z ρ')[j]? =some x:=⟨_,r_Y (show j < 3 from d)⟩;have k:∃x,(d_Z ρ)[j]? =some x:=⟨_,r_Y (show j < 3 from d)⟩;obtain⟨x,ex⟩:=n;obtain⟨y,ey⟩:=k;obtain⟨u,eu,ru⟩:=rb.get ex;obtain⟨v,ev,rv⟩:=ra.get ey
   have h:ib.toArray[j]=u:=by
    have:ib[j]? =some ib[j]:=r_Y (by omega);rw[this] at eu;simpa using eu
   have o:ia.toArray[j]=v:=by
    have:ia[j]? =some ia[j]:=r_Y (by omega);rw[this] at ev;simpa using ev
   rw[h,o,ex,ey]
   have al:b_j x y=true:=by
    match j,d with
    | 0,_=>simp[d_Z] at ex ey;subst ex ey;rfl
    | 1,_=>simp[d_Z] at ex ey;subst ex ey;rfl
    | 2,_=>simp[d_Z] at ex ey;subst ex ey;rfl
   have:=d_C (A:=A.in1) (s:=s) ru rv al;have m:decide (some x=some y)=decide (x=y):=by simp
   rw[m];exact this)
  refine SeqAt.EqAt.of_refs e ?_
  have i:((List.range (min ib.toArray.size ia.toArray.size)).all (λj=>decide ((d_Z ρ')[j]? =(d_Z ρ)[j]?))&&ib.toArray.size == ia.toArray.size)=decide (ρ'=ρ):=by
   rw[r_7,r_7,f,g];by_cases q:ρ'=ρ
   ·subst q;simp
   ·rw[s_E q]
    cases c:((List.range (min 3 3)).all (λj=>decide ((d_Z ρ')[j]? =(d_Z ρ)[j]?))&&(3:Nat) == 3) with
    | false=>rfl
    | true=>
      exfalso;apply q;apply d_U;simp[List.range,List.range.loop,d_Z] at c;simp[d_Z,c]
  rw[i] at z;exact z
def n_S:V->List V->Hp->VK->Prop:=λx vs H Q=>∃l,∃as:List Addr,∃a,∃ρs:List Row,∃ρ,x= .ref l/\vs= [.ref a]/\H l=some (.lst (as.map .ref))/\RowsAt H as ρs/\RowAt H a ρ/\ρ∈ρs/\
 Q .non (upd H l (.lst ((as.eraseIdx (ρs.idxOf ρ)).map .ref)))
theorem k_u (hu:X.A.units+1 < cLine):MtM X "list.remove" n_S:=by
 intro pins s σ H x vs v us Q I rx rv h;obtain⟨l,as,a,ρs,ρ,rfl,rfl,o,B,K,d,q⟩:=h;cases rx;obtain⟨u,rfl,ru⟩:=rv.one;cases ru;obtain⟨z,its,n,r,t,e⟩:=I.lstM o;have f:=b_E r;subst f;have G:=B.len;have w:ρs.idxOf ρ < ρs.length:=List.idxOf_lt_length_of_mem d
 let ev:Value->Bool:=λv=>match v with
  | .ref b=>(match H b with | some (.tup ys)=>decide (ys=d_Z ρ) | _=>false)
  | _=>false
 have i:∀b ρ',RowAt H b ρ'->ev (.ref b)=decide (ρ'=ρ):=λb ρ' c=>by
  show (match H b with | some (.tup ys)=>decide (ys=d_Z ρ) | _=>false)=_;rw[show H b=_ from c];by_cases q:ρ'=ρ
  ·subst q;simp
  ·rw[s_E q]
   exact s_E λq'=>q (d_U q')
 have C:(as.map Value.ref).toArray.size<=sizeLine:=by rw[r_7,<-t];exact z
 have j:ρs.idxOf ρ < (as.map Value.ref).toArray.size:=by simp;omega
 have item:∀m (d:m < (as.map Value.ref).toArray.size),∃b ρ',(as.map Value.ref).toArray[m]= .ref b/\ρs[m]? =some ρ'/\RowAt H b ρ':=λm d=>by
  have p:m < as.length:=by simpa using d
  obtain⟨ρ',E,J⟩:=B.get' (r_Y p);exact⟨as[m],ρ',by simp,E,J⟩
 refine call_meets F.slot_list_remove ⟨_,e,rfl⟩ F.entry_list_remove (F.args_list_remove_2 _ _) (SeqAt.list_removeAt l (as.map Value.ref).toArray n (.ref a) ev (ρs.idxOf ρ) j ?_ ?_ C) ⟨e,λy L=> ?_, ?_⟩
 ·obtain⟨b,ρ',f,g,c⟩:=item _ j
  rw[f,i b ρ' c];rw[r_Y w,List.getElem_idxOf w] at g;cases g;exact s_D rfl
 ·intro m d k
  obtain⟨b,ρ',f,g,c⟩:=item m d;rw[f,i b ρ' c];refine s_E λq=> ?_;subst q;exact e_t k g
 ·obtain⟨m,d,f⟩:=Array.getElem_of_mem L
  obtain⟨b,ρ',g,M,c⟩:=item m d;rw[<-f,g,i b ρ' c];exact p_m I c K (by first | exact hu | simpa using hu)
 ·refine⟨.non,_,I.lset (its':=(as.eraseIdx (ρs.idxOf ρ)).map Value.ref) o e ?_ ?_ ?_, rfl,q⟩
  ·show (as.map Value.ref).toArray.eraseIdxIfInBounds (ρs.idxOf ρ)=_
   rw[List.eraseIdxIfInBounds_toArray,d_r]
  ·exact c_P _
  ·rw[r_X]
   have:=e_I as (ρs.idxOf ρ);rw[r_X] at t z;omega
end
end TO
namespace L2
open PySem PySem.Spec PyProof.Rows
section
variable {X:Cx}
theorem l_I:d_a X (.builtin "isinstance") (λxs H Q=>∃x n t b,xs= [x,.ty n]/\g_0 X.K H x t/\PySem.W.kitOne X.K t (.type n)=some b/\Q (.bl b) H):=by
 intro pins s σ H xs us Q I rv h;obtain⟨x,n,t,b,rfl,ty,e,q⟩:=h;obtain⟨u,v,rfl,ru,rc⟩:=rv.two;cases rc;exact j_g I ru ty e λtk=>⟨.bl b,H,I.tok tk,rfl,q⟩
example (K:PySem.W.Frag):PySem.W.kitOne K (.type "int") (.type "bool")=some false:=by rfl
example (K:PySem.W.Frag):PySem.W.kitOne K (.type "int") (.type "int")=some true:=by rfl
example (K:PySem.W.Frag):PySem.W.kitAny K (.type "int") [.type "list",.type "tuple"]=some false:=by rfl
theorem j_i:d_a X (.builtin "isinstance") (λxs H Q=>∃x tp,∃ns:List String,∃t b,xs= [x,.ref tp]/\g_0 X.K H x (.type t)/\(t="int"\/t="str"\/t="list"\/t="tuple")/\H tp=some (.tup (ns.map V.ty))/\PySem.W.kitAny X.K (.type t) (ns.map Value.type)=some b/\Q (.bl b) H):=by
 intro pins s σ H xs us Q I rv h;obtain⟨x,tp,ns,t,b,rfl,ty,d,l,e,q⟩:=h;obtain⟨u,v,rfl,ru,rc⟩:=rv.two;cases rc;obtain⟨B,f,m,⟨E,G,data2,F⟩,c,k,J,j⟩:=I.hok tp _ l;simp only at k j;subst k j
 have C:f=ns.map Value.type:=by
  clear c e l B;induction ns generalizing f with
  | nil=>cases m;rfl
  | cons n r ih=>
    cases m with
    | cons h t=>rw[s_c,<-ih _ t];cases h;rfl
 subst C;cases ty with
 | non=>rcases d with h | h | h | h <;> exact absurd h (by decide)
 | bl y=>rcases d with h | h | h | h <;> exact absurd h (by decide)
 | flt y=>rcases d with h | h | h | h <;> exact absurd h (by decide)
 | dK ea=>rcases d with h | h | h | h <;> exact absurd h (by decide)
 | dT ea=>rcases d with h | h | h | h <;> exact absurd h (by decide)
 | int i=>obtain⟨t,z⟩:=(show ∃t,u=Value.int i t from ru);cases z;exact PySem.W.kia_tup PySem.W.kitx_int I.kIn True.intro c e (λz=>nomatch z) λtk=>⟨.bl b,H,I.tok tk,rfl,q⟩
 | str y=>obtain⟨t,z⟩:=(show ∃t,u=Value.str y t from ru);cases z;exact PySem.W.kia_tup PySem.W.kitx_str I.kIn True.intro c e (λz=>nomatch z) λtk=>⟨.bl b,H,I.tok tk,rfl,q⟩
 | @lst a xs ea=>
   cases (show u=Value.ref a from ru);obtain⟨_,_,n,_,g⟩:=(show ObjOk X.prog X.w H s.heap a (.lst xs) from I.hok a _ ea);exact PySem.W.kia_tup PySem.W.kitx_list I.kIn ⟨_,g,rfl⟩ c e (λz=>nomatch z) λtk=>⟨.bl b,H,I.tok tk,rfl,q⟩
 | @frz a ob xs ea=>
   cases (show u=Value.ref a from ru);obtain⟨_,_,_,n,_,g⟩:=(show ObjOk X.prog X.w H s.heap a (.frz ob (.lst xs)) from I.hok a _ ea);exact PySem.W.kia_tup PySem.W.kitx_list I.kIn ⟨_,g,rfl⟩ c e (λz=>nomatch z) λtk=>⟨.bl b,H,I.tok tk,rfl,q⟩
 | @tup a xs ea=>
   cases (show u=Value.ref a from ru);obtain⟨_,_,_,p⟩:=(show ObjOk X.prog X.w H s.heap a (.tup xs) from I.hok a _ ea);obtain⟨o,g,A,_⟩:=p;exact PySem.W.kia_tup PySem.W.kitx_tuple I.kIn ⟨o,g,A⟩ c e (λz=>nomatch z) λtk=>⟨.bl b,H,I.tok tk,rfl,q⟩
end
section
variable {prog:Program} {w:World} {A:Around} {E:Value->Shared->Prop} {s:Shared}
theorem i_S {a:Addr} {vs:List Value} {n:Nat} {P:PySem.Fin->Shared->Prop} (ho:s.heap.get? a=some (seqObj "list" vs.toArray n)) (h2:vs.length < 2)
 (h:P (.done (.ret .none)) { s with heap:=sortedHeap s.heap a vs vs.toArray }):wpAny (model prog w) A (Builtin.«list.sort» ⟨[.ref a], []⟩) P E s:=by
 rw[list_sort_plain];have d:a < s.heap.objs.size:=Heap.lt_size ho;refine wpAny_bind (listItems_at ho rfl ?_);refine wpAny_bind (listUpdate_at ho rfl ?_);obtain⟨e1,ho1⟩:∃e1,(s.heap.update a (Obj.mapSeq λ_=> #[])).get? a=some (seqObj "list" #[] e1):=⟨_,get?_update_seq ho (λ_=> #[])⟩;refine wpAny_bind (seqEpoch_at ho1 rfl ?_);refine wpAny_bind (wpAny_newTuple ?_);refine wpAny_bind (wpAny_newList ?_);refine wpAny_holding ?_
 have c:(((s.heap.update a (Obj.mapSeq λ_=> #[])).push (seqObj "tuple" vs.toArray 0)).push (seqObj "list" #[] 0)).get? a=some (seqObj "list" #[] e1):=by
  rw[Heap.get?_push_ne _ _ _ (by rw[size_push',Heap.size_update];exact s_l (Nat.lt_succ_of_lt d)),Heap.get?_push_ne _ _ _ (by rw[Heap.size_update];exact s_l d)];exact ho1
 show wpAny (model prog w) A _ P E { s with heap:=((s.heap.update a (Obj.mapSeq λ_=> #[])).push (seqObj "tuple" vs.toArray 0)).push (seqObj "list" #[] 0) };dsimp only;have b:vs.toArray.size < 2:=by simpa using h2
 rw[if_pos b,if_pos b];refine wpAny_bind (wpAny_pure ?_);rw[StateT.run_pure];refine wpAny_bind (wpAny_pure ?_);dsimp only;refine wpAny_bind (seqEpoch_at c rfl ?_);refine wpAny_bind (listUpdate_at c rfl ?_ (hsz2:=by rw[Array.size_map];show (pairsOf vs).size<=_;rw[pairsOf_size,sizeLine_eq];omega));simp only[bne_self_eq_false,Bool.false_eq_true,if_false]
 have e:(arrOf (SortSt.mk' general' (vs.toArray.zip vs.toArray) #[] 7 none)).map (·.2)=vs.toArray:=by
  show (vs.toArray.zip vs.toArray).map (·.2)=vs.toArray;simp[List.map_snd_zip]
 refine wpAny_pure ?_;have:=h;rw[<-e] at this;exact this
theorem f_0 {l:Addr} {vs:List Value} {Q:Value->Shared->Prop} (hl:s.heap.IsList l vs.toArray) (h2:vs.length < 2)
 (h:Q (.ref (s.heap.objs.size+1)) { s with heap:=sortedAll s.heap vs vs.toArray }):wpAny (model prog w) A (call (.builtin "sorted") [.ref l]) Q E s:=by
 refine Calls.call_function_entry kind_sorted plain_sorted entry_sorted (args_sorted1 _) ?_;unfold Builtin.«sorted»;refine wpAny_bind (m:=checkCount "sorted" 1 1 _) (wpAny_pure ?_);refine wpAny_bind (collect_list hl ?_);refine wpAny_bind (wpAny_newList ?_)
 have a:((s.heap.push (seqObj "list" #[] 0)).update s.heap.objs.size (Obj.mapSeq (·++vs.toArray))).objs.size=s.heap.objs.size+1:=by
  rw[Heap.size_update,size_push']
 have b:(((s.heap.push (seqObj "list" #[] 0)).update s.heap.objs.size (Obj.mapSeq (·++vs.toArray))).push (seqObj "list" vs.toArray 0)).get? (s.heap.objs.size+1)=some (seqObj "list" vs.toArray 0):=by
  rw[<-a];exact Heap.get?_push_size _ rfl
 show wpAny _ _ _ _ _ { s with heap:=((s.heap.push (seqObj "list" #[] 0)).update s.heap.objs.size (Obj.mapSeq (·++vs.toArray))).push (seqObj "list" vs.toArray 0) };rw[a];refine wpAny_bind (wpAny_holding (wpAny_call_entry slot_list_sort ⟨_,b,rfl⟩ entry_list_sort (i_S b h2 ⟨_,rfl,?_⟩) (args_list_sort _)));exact wpAny_pure ⟨_,rfl,h⟩
end
section
variable {prog:Program} {w:World} {A:Around} {E:Value->Shared->Prop} {s:Shared} {Q:Bool->Shared->Prop}
theorem f_t {b:Bool}:∀{xs ys:List V} {vs ws:List Value} (i:Nat),Vals xs vs->Vals ys ws->d_Q xs ys->xs.length=ys.length->Q (b_c xs ys) s->PySem.W.KatLex prog w A b false Q (vs.zip ws) i s
 | [], [],_,_,i,.nil,.nil,_,_,q=>q
 | x::xs,y::ys,_,_,i,.cons (b:=u) rx tx,.cons (b:=v) ry ty,ha,hl,q=>by
   rw[List.zip_cons_cons];refine PySem.W.kat_cons (d_C rx ry ha.1 prog w _ _ ?_);rw[b_h] at q;by_cases e:x=y
   ·rw[if_pos e] at q
    rw[s_D e];exact PySem.W.kat_yes (f_t (i+1) tx ty ha.2 (by simpa using hl) q)
   ·rw[if_neg e] at q
    rw[s_E e];refine PySem.W.kat_no ?_;cases b&&i == 0 with
    | false=>exact PySem.W.kat_one _ _ (i_h rx ry ha.1 q)
    | true=>
      have h:=ha.1;cases x with
      | int a=>
        cases y with
        | int c=>obtain⟨t,rfl⟩:=rx;obtain⟨t',rfl⟩:=ry;exact oneLt_int q
        | _=>cases h
      | str a=>
        cases y with
        | str c=>obtain⟨t,rfl⟩:=rx;obtain⟨t',rfl⟩:=ry;exact oneLt_str q
        | _=>cases h
      | _=>cases y <;> cases h
end
section
variable {X:Cx} {pins:List (Addr×Obj)} {σ:L2.St} {H:Hp} {s:Shared}
theorem Inv.led_none {D:Addr} (I:Inv X pins σ H s) (hn:s.heap.get? D=none):H D=none:=by
 cases q:H D with
 | none=>rfl
 | some u=>
   have a:=(I.hok D u q);exfalso
   obtain⟨o,b⟩:∃o,s.heap.get? D=some o:=by
    cases u with
    | lst xs=>obtain⟨_,_,_,_,e⟩:=a;exact⟨_,e⟩
    | tup xs=>obtain⟨_,_,_,o,e,_⟩:=a;exact⟨o,e⟩
    | dK kvs=>obtain⟨_,_,_,_,o,_,_,e,_⟩:=a;exact⟨_,e⟩
    | dT kvs=>obtain⟨_,_,_,_,o,_,_,e,_⟩:=a;exact⟨_,e⟩
    | set S n=>obtain⟨o,_,_,_,e,_⟩:=a;exact⟨_,e⟩
    | ins C dx fs=>obtain⟨_,_,_,e,_⟩:=a;exact⟨_,e⟩
    | own y=>exact a
    | xd fs=>obtain⟨_,⟨_,_,_,e,_⟩,_⟩:=a;exact⟨_,e⟩
    | rng lo hi=>obtain⟨_,_,_,e⟩:=a;exact⟨_,e⟩
    | frz ob u=>obtain⟨e,_⟩:=a;exact⟨_,e⟩
    | tbl ps=>exact⟨_,a⟩
    | met f y=>exact⟨_,a⟩
    | ext φ=>exact a.2.1
   rw[hn] at b;cases b
theorem Inv.led {h':Heap} {m:Str->Option Value} {D:Addr} {c:Nat} {ys:List V} {its:List Value} {t':Nat} (I:Inv X pins σ H s) (hm:s.heap.Ns X.env.locals m) (F:Fr X.base X.env.locals h' m) (N:News X.base X.env.locals h' (c_U X.base s.heap X.env.locals))
 (hD:h'.get? D=some { cls:= .type "list",data:= .seq its.toArray c }) (hn:s.heap.get? D=none) (hv:Vals ys its) (hz:ys.length<=sizeLine):Inv X pins σ (upd H D (.lst ys)) { s with heap:=h',toks:=t' }:=by
 have keep:∀b o,b≠X.env.locals->s.heap.get? b=some o->h'.get? b=some o:=λb o f e=>by
  cases q:X.base.get? b with
  | some u=>
    have:=I.bk b u q;rw[e] at this;cases this;exact F.keep b _ q
  | none=>exact (N (b,o) (d_b f q e)).1
 have ne:∀b o,s.heap.get? b=some o->b≠D:=λb o e z=>by rw[z,hn] at e;cases e
 have HD:H D=none:=I.led_none hn;have trk:∀b u,H b=some u->b≠X.env.locals:=λb u e z=>by rw[z,I.free] at e;cases e
 refine I.step (g':=s.gens) (d':=s.drawn) (ch:= []) (λ_ z=>nomatch z) (λb o f _ _ e _=>keep b o f e) (λb o f _ _ e _=>⟨o.slots,keep b o f e⟩) (λb o _ e n=>by rw[a_i (ne b o e)];exact n) (λb o _ e=> ?_)
  (λb xs e=>by rw[a_i (a_h e HD)];exact e) (λb o u e=>by rw[a_i (a_h e HD)];exact e) (λb ps e=>⟨#[],by rw[a_i (a_h e HD),e];simp⟩) (λm' g=> ?_) (λb u e=> ?_) I.bare
 ·by_cases a:b=X.env.locals
  ·obtain⟨o',_,_,e',_⟩:=F.ns
   exact⟨o',by rw[a];exact e'⟩
  ·exact⟨o,keep b o a e⟩
 ·rw[g.eq_nsMap,<-hm.eq_nsMap]
  exact F.ns
 ·by_cases a:b=D
  ·subst a
   rw[a_b] at e;cases e;exact⟨hz,its,c,hv,hD⟩
  ·rw[a_i a] at e
   refine (I.hok b u e).stay (λd v h q=>keep d v ?_ q) (λd q=>by rw[a_i (a_h q HD)];exact q) λd xs q=>by rw[a_i (a_h q HD)];exact q
   rcases h with z | z
   ·rw[z];exact trk b u e
   ·exact trk d _ z
end
end L2
namespace TO
open PySem PySem.Spec PyProof.Rows L2
abbrev c_f (H:Hp):List Addr->List (List V)->Prop:=Paired λa k=>H a=some (.tup k)
def n_N (K:PySem.W.Frag):List V->Hp->VK->Prop:=λxs H Q=>∃(p:Addr) (as:List Addr) (ks:List (List V)),xs= [.ref p]/\SqL K H p (as.map .ref)/\c_f H as ks/\as.length < 64/\(∀k∈ks,∃x r,k=x::r)/\
 (∀k∈ks,∀k'∈ks,d_Q k k'/\k.length=k'.length)/\SO as.length (λi j=>b_c (ks.getD i []) (ks.getD j []))/\
 ∀(l:Addr) (is:List Nat),H l=none->is.Perm (List.range as.length)->(∀a b,a < b->b < as.length->b_c (ks.getD (is.getD a 0) []) (ks.getD (is.getD b 0) [])=true)->Q (.ref l) (upd H l (.lst (is.map λi=>V.ref (as.getD i 0))))
theorem c_L {H:Hp}:∀{as:List Addr} {ks:List (List V)} {i:Nat},c_f H as ks->i < as.length->H (as.getD i 0)=some (.tup (ks.getD i []))/\ks.getD i []∈ks
 | _,_,0,.cons h _,_=>⟨h,by simp⟩
 | _::as,_::ks,i+1,.cons _ t,hi=>by
   have:=c_L (i:=i) t (by simpa using hi);simp only[List.getD_cons_succ];exact⟨this.1,r_0 _ this.2⟩
section
variable {X:Cx}
theorem c_N {as:List Addr} {i:Nat} (h:i < as.length):(as.map Value.ref).getD i Value.none= .ref (as.getD i 0):=by
 rw[s_g,s_g,r_9,r_Y h];rfl
theorem h_s:∀{as:List Addr},as.length < 2->(List.range as.length).map (λi=>V.ref (as.getD i 0))=as.map V.ref
 | [],_=>rfl
 | [a],_=>rfl
 | _::_::_,h=>by simp only[r_3] at h;omega
theorem h_B {pins:List (Addr×Obj)} {s:Shared} {σ:L2.St} {H:Hp} {Q:VK} {as:List Addr} {ks:List (List V)} {m:Str->Option Value} {D:Addr} {e1:Nat} {h':Heap} {tk:Nat} (I:Inv X pins σ H s) (hm:s.heap.Ns X.env.locals m) (hT:c_f H as ks) (h2:¬ as.length < 2) (h64:as.length < 64) (hne:∀k∈ks,∃x r,k=x::r)
 (hal:∀k∈ks,∀k'∈ks,d_Q k k'/\k.length=k'.length) (hO:SO as.length (λi j=>b_c (ks.getD i []) (ks.getD j []))) (F':Fr X.base X.env.locals h' m) (N':News X.base X.env.locals h' ((D,seqObj "list" #[] e1)::c_U X.base s.heap X.env.locals)) (hD:∀q∈c_U X.base s.heap X.env.locals,q.1 < D)
 (q:∀(l:Addr) (is:List Nat),H l=none->is.Perm (List.range as.length)->(∀a b,a < b->b < as.length->b_c (ks.getD (is.getD a 0) []) (ks.getD (is.getD b 0) [])=true)->Q (.ref l) (upd H l (.lst (is.map λi=>V.ref (as.getD i 0))))):
 wpAny (model X.prog X.w) X.A.in1.in1 (keyKind' (as.map Value.ref).toArray) (λκ s'=>(PySem.W.kas_sort (as.map Value.ref).length).kasWp (PySem.W.kas_ask X.prog X.w X.A.in1.in1 κ (as.map Value.ref)) (λp s''=>PySem.W.KasFin X.base X.env.locals m D e1 (p.toList.map λi=>(as.map Value.ref).getD i Value.none) (λs3=>EP X pins σ Q (.ref D) s3) s'') s') (λ_ _=>False) { s with heap:=h',toks:=tk }:=by
 have Y:as.length=ks.length:=Paired.length hT
 have J:s.heap.get? D=none:=by
  cases e:s.heap.get? D with
  | none=>rfl
  | some o=>
    have z:=N' (D,_) (r_1 ..);exact absurd (hD (D,o) (d_b z.2.1 z.2.2 e)) (Nat.lt_irrefl _)
 -- the tuples stand in h' too
 have tup':∀a k,H a=some (.tup k)->∃its:List Value,Vals k its/\∃o n,h'.get? a=some o/\o.cls= .type "tuple"/\o.data= .seq its.toArray n:=λa k f=>by
  obtain⟨_,its,rk,o,N,M,n,O⟩:=I.hok a _ f;refine⟨its,rk,o,n,?_, M,O⟩;have hL:a≠X.env.locals:=λz=>by rw[z,I.free] at f;cases f
  have hb:X.base.get? a=none:=by
   cases e:X.base.get? a with
   | none=>rfl
   | some v=>have:=(I.bs a v e).2;rw[f] at this;cases this
  exact (N' (a,o) (r_0 _ (d_b hL hb N))).1
 have h0:0 < as.length:=by omega
 -- the kind of the first items
 have first:∃T:String,∃fs:List Value,PySem.W.KatTups h' (as.map Value.ref) fs/\fs.length=as.length/\(T="int"\/T="str")/\∀v∈fs,(∃i t,v= .int i t/\T="int")\/∃x t,v= .str x t/\T="str":=by
  obtain⟨k0,hk0⟩:∃k0,k0∈ks:=by
   cases ks with
   | nil=>rw[s_x] at Y;omega
   | cons k r=>exact⟨k,r_1 ..⟩
  obtain⟨d,r0,e0⟩:=hne k0 hk0
  have key:∀k∈ks,∃x r,k=x::r/\b_j x d=true:=λk B=>by
   obtain⟨x,r,rfl⟩:=hne k B;have:=(hal _ B _ hk0).1;rw[e0] at this;exact⟨x,r,rfl,this.1⟩
  have x0k:(∃i,d= .int i)\/∃y,d= .str y:=by
   have:=(hal _ hk0 _ hk0).1;rw[e0] at this;have z:=this.1
   cases d <;> first | exact .inl ⟨_,rfl⟩ | exact .inr ⟨_,rfl⟩ | cases z
  obtain⟨T,E⟩:∃T:String,((∃i,d=V.int i)/\T="int")\/((∃y,d=V.str y)/\T="str"):=by
   rcases x0k with c | c
   ·exact⟨"int",.inl ⟨c,rfl⟩⟩
   ·exact⟨"str",.inr ⟨c,rfl⟩⟩
  refine⟨T,?_⟩
  have go:∀{as':List Addr} {ks':List (List V)},c_f H as' ks'->(∀k∈ks',∃x r,k=x::r/\b_j x d=true)->∃fs:List Value,PySem.W.KatTups h' (as'.map Value.ref) fs/\fs.length=as'.length/\
   ∀v∈fs,(∃i t,v=Value.int i t/\∃j,d= .int j)\/∃y t,v=Value.str y t/\∃j,d= .str j:=by
   intro as' ks' ht B;induction ht with
   | nil=>exact⟨[],trivial,rfl,λv h=>by cases h⟩
   | cons f _ ih=>
     obtain⟨fs,C,h2,F⟩:=ih λk P=>B k (r_0 _ P);obtain⟨x,r,rfl,L⟩:=B _ (r_1 ..);obtain⟨its,rk,o,n,N,M,O⟩:=tup' _ _ f;cases rk with
     | @cons _ v _ its' rx rt=>
       refine⟨v::fs,PySem.W.KatTups.cons N M O (by simp) C,by simp[h2],λu hu=> ?_⟩;rcases r_8.mp hu with e | e
       ·subst e
        cases x with
        | int i=>obtain⟨t,rfl⟩:=rx;cases d <;> first | exact .inl ⟨i,t,rfl,_,rfl⟩ | cases L
        | str y=>obtain⟨t,rfl⟩:=rx;cases d <;> first | exact .inr ⟨y,t,rfl,_,rfl⟩ | cases L
        | _=>cases d <;> cases L
       ·exact F u e
  obtain⟨fs,C,h2,F⟩:=go hT key;refine⟨fs,C,h2,?_, λv h=> ?_⟩
  ·rcases E with c | c
   ·exact .inl c.2
   ·exact .inr c.2
  ·rcases F v h with⟨i,t,e,j,c⟩ | ⟨y,t,e,j,c⟩
   ·refine .inl ⟨i,t,e,?_⟩
    rcases E with⟨_,z⟩ | ⟨⟨y,z⟩,_⟩
    ·exact z
    ·rw[c] at z;cases z
   ·refine .inr ⟨y,t,e,?_⟩
    rcases E with⟨⟨y,z⟩,_⟩ | ⟨_,z⟩
    ·rw[c] at z;cases z
    ·exact z
 obtain⟨T,fs,hk1,hk2,hTT,hk3⟩:=first
 refine PySem.W.kat_kind (T:= .type T) hk1 (by omega) (λv h=> ?_) (by simp) ?_
 ·rcases hk3 v h with⟨i,t,rfl,e⟩ | ⟨y,t,rfl,e⟩
  ·rw[e];exact PySem.W.Looks.of_pure rfl
  ·rw[e];exact PySem.W.Looks.of_pure rfl
 have hTb:(Value.type T != Value.type "tuple")=true:=by rcases hTT with e | e <;> rw[e] <;> rfl
 rw[hTb,r_X];refine j_T (n:=as.length) hO (λi j Cc G hj hC=> ?_) (by omega) λpp R U=> ?_
 ·show wpAny _ _ (keyLt' (tuples' true) ((as.map Value.ref).getD i Value.none) ((as.map Value.ref).getD j Value.none)) _ _ _
  rw[c_N G,c_N hj];obtain⟨gi,mi⟩:=c_L hT G;obtain⟨gj,mj⟩:=c_L hT hj;obtain⟨vi,ri,oi,ni,Z,_,hdi⟩:=tup' _ _ gi;obtain⟨vj,rj,oj,nj,S,_,hdj⟩:=tup' _ _ gj;have hl2:=(hal _ mi _ mj).2;have li:=ri.length;have lj:=rj.length;refine PySem.W.kat_lt Z hdi S hdj ?_;have:decide (vi.toArray.size < vj.toArray.size)=false:=s_E (by rw[r_7,r_7];omega);rw[this];exact f_t 0 (by simpa using ri) (by simpa using rj) (hal _ mi _ mj).1 hl2 hC
 ·refine PySem.W.KasFin.intro F' N' (PySem.W.UpdF.head λq K=>s_l (hD q K)) λh'' c F'' N''=> ?_
  have hsz:=R.size;have g:=(N'' (D,_) (r_1 ..)).1
  have eout:(pp.toList.map λi=>(as.map Value.ref).getD i Value.none)=(pp.toList.map λi=>Value.ref (as.getD i 0)):=by
   apply List.map_congr_left;intro i G;have:i∈pp:=by simpa using G
   have:=R.perm.mem_iff.mp this;exact c_N (by simpa using this)
  rw[eout] at g;have I':=I.led (t':=tk) (D:=D) (c:=c) (ys:=(pp.toList.map λi=>V.ref (as.getD i 0))) (its:=pp.toList.map λi=>Value.ref (as.getD i 0)) hm F'' (λq K=>N'' q (r_0 _ K)) g J ?_ ?_
  ·refine⟨.ref D,_,I',rfl,q D pp.toList ?_ ?_ ?_⟩
   ·exact I.led_none J
   ·have:=Array.perm_iff_toList_perm.mp R.perm
    simpa using this
   ·intro a b C F
    have:=U a b C F;rw[d_v,d_v] at this;simpa[s_g] using this
  ·have:=c_P (pp.toList.map λi=>as.getD i 0)
   rw[List.map_map,List.map_map] at this;exact this
  ·rw[r_X]
   have:pp.toList.length=as.length:=by simpa using hsz
   exact Nat.le_of_lt (a_F (by omega))
theorem h_b:d_a X (.builtin "sorted") (n_N X.K):=by
 intro pins s σ H xs us Q I rv h;obtain⟨p,as,ks,rfl,v,n,c,k,f,t,q⟩:=h;obtain⟨u,rfl,ru⟩:=rv.one;cases ru;obtain⟨its,r,pl,_⟩:=I.list v;have l:=b_E r;subst l;have B:as.length=ks.length:=Paired.length n;by_cases d:as.length < 2
 ·refine f_0 pl.isList (by simpa using d) ?_
  have old:∀b o,s.heap.get? b=some o->(sortedAll s.heap (as.map Value.ref) (as.map Value.ref).toArray).get? b=some o:=λb o e=>sortedAll_old e;obtain⟨e,w⟩:=sortedAll_at s.heap (as.map Value.ref) (as.map Value.ref).toArray;have j:s.heap.objs.size<=s.heap.objs.size+1:=Nat.le_succ _
  have I':Inv X pins σ (upd H (s.heap.objs.size+1) (.lst (as.map V.ref))) { s with heap:=sortedAll s.heap (as.map Value.ref) (as.map Value.ref).toArray }:=
   I.laid (t':=s.toks) old j ⟨by rw[r_X];exact Nat.le_of_lt (a_F (by omega)),as.map Value.ref,e,c_P as,w⟩
  refine⟨.ref _,_,I',rfl,?_⟩;have:=q (s.heap.objs.size+1) (List.range as.length) (I.hok.fresh j) (List.Perm.refl _) (λa b G E=>by omega);have z:(List.range as.length).map (λi=>V.ref (as.getD i 0))=as.map V.ref:=h_s d;rw[z] at this;exact this
 ·obtain⟨m,F⟩:=I.fr
  have x:s.heap.Ns X.env.locals m:=F.ns;refine PySem.W.kat_sorted (A:=X.A) F (l_Q (g:=X.base) (h:=s.heap) (L:=X.env.locals)) pl.isList (by simp;omega) (by simpa using c) λD l C F' N' y=> ?_;exact h_B (tk:=s.toks) I x n d c k f t F' N' y q
end
end TO
namespace L2
open PySem PySem.Spec PyProof.Rows
theorem ObjOk.there {P:Program} {w:World} {H:Hp} {h:Heap} {a:Addr} {o:HO} (x:ObjOk P w H h a o):∃ob,h.get? a=some ob:=by
 cases o with
 | lst xs=>obtain⟨_,_,_,_,e⟩:=x;exact⟨_,e⟩
 | tup xs=>obtain⟨_,_,_,ob,e,_⟩:=x;exact⟨_,e⟩
 | dK kvs=>obtain⟨_,_,_,_,ob,_,_,e,_⟩:=x;exact⟨_,e⟩
 | dT kvs=>obtain⟨_,_,_,_,ob,_,_,e,_⟩:=x;exact⟨_,e⟩
 | set S n=>obtain⟨ob,_,_,_,e,_⟩:=x;exact⟨_,e⟩
 | ins C dx fs=>obtain⟨_,_,_,e,_⟩:=x;exact⟨_,e⟩
 | own y=>exact x
 | xd fs=>obtain⟨_,⟨_,_,_,e,_⟩,_⟩:=x;exact⟨_,e⟩
 | rng lo hi=>obtain⟨_,_,_,e⟩:=x;exact⟨_,e⟩
 | frz ob u=>obtain⟨e,_⟩:=x;exact⟨_,e⟩
 | tbl ps=>exact⟨_,show h.get? a=some _ from x⟩
 | met f y=>exact⟨_,show h.get? a=some _ from x⟩
 | ext φ=>exact x.2.1
def e_0 (fs:List Addr) (H':Hp) (h h' B:Heap):Prop:=∀b o,h'.get? b=some o->b∉fs->(H' b≠none\/∃o0,h.get? b=some o0)->B.get? b=some o
theorem o_M {fs:List Addr} {H H':Hp} {h h' h2 B:Heap} (u:Un fs [] H H' h h') (hB:e_0 fs H' h h' B) (st:B.StaysIn h2) (sl:∀b o,b∈fs->h'.get? b=some o->∃q,h2.get? b=some { o with slots:=q }):Un fs [] H H' h h2 where
 keep:=λb o q n a c=>st b o (hB b o (u.keep b o q n a c) a (.inr ⟨o,q⟩))
 slot:=λb o q n a c=>by
  obtain⟨i,g⟩:=u.slot b o q n a c;obtain⟨f,d⟩:=sl b _ a g;exact⟨f,d⟩
 free:=u.free
 there:=λb o q c=>by
  obtain⟨o',e⟩:=u.there b o q c;by_cases a:b∈fs
  ·obtain⟨f,d⟩:=sl b _ a e
   exact⟨_,d⟩
  ·exact⟨o',st b o' (hB b o' e a (.inr ⟨o,q⟩))⟩
 tups:=u.tups
 frzs:=u.frzs
 tbls:=u.tbls
theorem m_l {P:Program} {w:World} {fs:List Addr} {H':Hp} {h h' h2 B:Heap} (ok:HOk P w H' h') (hB:e_0 fs H' h h' B) (st:B.StaysIn h2) (hf:∀b∈fs,H' b=none):HOk P w H' h2:=λa o e=>by
 have go:∀b u,H' b≠none->h'.get? b=some u->h2.get? b=some u:=λb u n q=>st b u (hB b u q (λz=>n (hf b z)) (.inl n));refine (ok a o e).stay (λb u c q=>go b u ?_ q) (λ_ q=>q) λ_ _ q=>q;rcases c with rfl | c
 ·rw[e];simp
 ·rw[c];simp
theorem h_H {h h' B:Heap} {l:List Env} (ff:h.FunFrames B l) (up:h.UpToSlots h'):∀b o,b∈frs l->h.get? b=some o->∃q,h'.get? b=some { o with slots:=q }:=λb o hb e=>by
 obtain⟨_,o',ho',hd⟩:=ff.mem (show b∈l.filterMap (·.frame) from hb);rw[e] at ho';cases ho';exact up b o e hd
structure Fly (P:Program) (w:World) (outer:List Env) (H:Hp) (h:Heap) (a:Addr) (C:Value) (H':Hp) (h':Heap):Prop where
 fly:∃B a0,Heap.FlyingW B outer a C a0 h'/\e_0 (frs outer) H' h h' B
 un:Un (frs outer) [] H H' h h'
 hok:HOk P w H' h'
def CXR (P:Program) (w:World):CXT:=λouter H s E e s'=>∃a C H',e=Value.ref a/\s'.os=s.os/\AllBare s'.gens/\Fly P w outer H s.heap a (.ref C) H' s'.heap/\E (.ref C) none H'
def m_e (X:Cx) (E:XK):Prop:=∀(pins:List (Addr×Obj)) (σ:St) (H:Hp) (s:Shared) (h':Heap) (e C:Addr) (args:List Value),Inv X pins σ H s->Heap.MadeExcOf s.heap h' e (.ref C) args->E (.ref C) none H->X.xe (.ref e) { s with heap:=h' }
theorem o_G {X:Cx} {pins:List (Addr×Obj)}:∀b∈([]:List Addr),(b∈X.ex\/X.s₀.heap.objs.size<=b)/\b≠X.env.locals/\(∀x c,X.env.cells.lookup x=some c->c≠b)/\∀p∈X.pn++pins,p.1≠b:=λb z=>by simp at z
section
variable {P:Program} {w:World} {K:PySem.W.Frag} {mg:Str->Option Value} {base:Heap} {N:List Str} {qual:Str} {scope:Scope} {f:Addr} {cd:Value} {A:Around} {outer:List Env} {s:Shared} {H:Hp} {E E':XK}
theorem k_C {pins:List (Addr×Obj)} {σ:St} {H1 H':Hp} {s1 s':Shared} {a:Addr} {C:Value} {h2 B:Heap} {a0:Value}
 (I:Inv (i_R (CXR P w) P w K mg base N qual scope f cd A outer s H E) pins σ H1 s1) (os:s'.os=s1.os) (bare:AllBare s'.gens)
 (un:Un (frs (envOfC qual scope s.heap.objs.size f cd::outer)) [] H1 H' s1.heap s'.heap) (hok:HOk P w H' s'.heap) (hB:e_0 (frs (envOfC qual scope s.heap.objs.size f cd::outer)) H' s1.heap s'.heap B)
 (ff:s'.heap.FunFrames B (envOfC qual scope s.heap.objs.size f cd::outer)) (fl:Heap.FlyingW B outer a C a0 h2) (up:s'.heap.UpToSlots h2):
 s'.os=s.os/\Fly P w outer H s.heap a C H' h2:=by
 have J:=I.call' os un hok bare o_G;have sl:=h_H ff up;have g:HOk P w H' h2:=m_l hok hB fl.1 J.stkFree;have n:=o_M un hB fl.1 sl;have k:Inv (i_R (CXR P w) P w K mg base N qual scope f cd A outer s H E) pins σ H' { s' with heap:=h2 }:=I.call' (s':={ s' with heap:=h2 }) os n g bare o_G;refine⟨J.os,⟨B,a0,fl,λb o e l c=> ?_⟩,k.base,g⟩
 have m:b≠s.heap.objs.size:=by
  rintro rfl;rcases c with c | ⟨d,c⟩
  ·exact c J.free
  ·exact absurd (Heap.lt_size c) (Nat.lt_irrefl _)
 have j:b∉frs (envOfC qual scope s.heap.objs.size f cd::outer):=λz=>by
  rcases r_8.mp (show b∈s.heap.objs.size::frs outer from z) with q | q
  ·exact m q
  ·exact l q
 have h:∃o',s'.heap.get? b=some o':=by
  rcases c with c | ⟨d,c⟩
  ·cases q:H' b with
   | none=>exact absurd q c
   | some u=>exact (hok b u q).there
  ·exact J.base.there b d c (by simp[i_R])
 obtain⟨o',e'⟩:=h
 have i:=hB b o' e' j (by
  rcases c with c | ⟨d,c⟩
  ·exact .inl c
  ·exact .inr (I.base.there b d c (by simp[i_R])))
 rw[fl.1 b o' i] at e;cases e;exact i
theorem c_s (hE:∀c d H',E' c d H'->E c d H'):c_A (CXR P w) (i_R (CXR P w) P w K mg base N qual scope f cd A outer s H E) E':=by
 rintro pins σ k j e s' I ⟨a,C,H',rfl,os,bare,F,q⟩;obtain⟨B,m,fl,g⟩:=F.fly;show wpAny (model P w) (A.deeper (envOfC qual scope s.heap.objs.size f cd)) (leaving (envOfC qual scope s.heap.objs.size f cd) (.ref a)) _ _ s';refine wpAny_leaves_onW (outer:=outer) I.ok.frames rfl fl λl b up=> ?_;obtain⟨h,i⟩:=k_C I os bare F.un F.hok g fl.2.2.1 b up;exact⟨a,C,H',rfl,h,bare,i,hE _ _ _ q⟩
theorem e_q:m_e (i_R (CXR P w) P w K mg base N qual scope f cd A outer s H E) E:=by
 intro pins σ l a i e C args I g q;show wpAny (model P w) (A.deeper (envOfC qual scope s.heap.objs.size f cd)) (leaving (envOfC qual scope s.heap.objs.size f cd) (.ref e)) _ _ { a with heap:=i };have j:=I.stack
 have ff:i.FunFrames (PySem.W.hideAll a.heap (frs (envOfC qual scope s.heap.objs.size f cd::outer))) (envOfC qual scope s.heap.objs.size f cd::outer):=
  Heap.FunFrames.of_keeps (λb o c _=>⟨o,g.keeps b o c,rfl⟩) (PySem.W.funFrames_hide j λen k b c=>List.mem_filterMap.mpr ⟨en,k,c⟩)
 refine wpAny_leaves_madeW (base:=PySem.W.hideAll a.heap (frs (envOfC qual scope s.heap.objs.size f cd::outer))) (h:=a.heap) (outer:=outer) I.ok.frames rfl (λb o z=>PySem.W.of_hideAll _ z)
  (PySem.W.funFrames_hide j λen k b c=>List.mem_filterMap.mpr ⟨en,k,c⟩) g λx t fl tp nt up=> ?_
 have p:e_0 (frs (envOfC qual scope s.heap.objs.size f cd::outer)) l a.heap i (PySem.W.hideAll a.heap (frs (envOfC qual scope s.heap.objs.size f cd::outer))):=λb o e c d=>by
  have:∃m,a.heap.get? b=some m:=by
   rcases d with d | d
   ·cases z:l b with
    | none=>exact absurd z d
    | some u=>exact (I.hok b u z).there
   ·exact d
  obtain⟨m,n⟩:=this;rw[g.keeps b m n] at e;cases e;exact PySem.W.hideAll_get _ n c
 obtain⟨r,v⟩:=k_C (s':={ a with heap:=i }) I rfl I.bare (Un.kept g.keeps) (I.hok.kept g.keeps) p ff fl up;exact⟨e,C,l,rfl,r,I.bare,v,q⟩
end
section
variable {P:Program} {w:World} {K:PySem.W.Frag} {mg:Str->Option Value} {base:Heap}
theorem Fun.okX {x qual:Str} {st:Stmt} {f:Addr} {fd:FuncData} {N ps:List Str} {k:Nat} {sp:Sp} (F:Fun K x qual st f fd) (S:a_s N ps (a_n st)) (len:∀vs H Q E,sp vs H Q E->vs.length=ps.length)
 (hbody:∀(cdv:Value) (A:Around) (outer:List Env) (s:Shared) (H:Hp) (vs:List V) (Q:VK) (E:XK),Room k (A.deeper (envOfC qual (a_n st) s.heap.objs.size f cdv))→sp vs H Q E→
   ∃t,PSs (i_R (CXR P w) P w K mg base N qual (a_n st) f cdv A outer s H E) (c_5 st) t/\t { nx:=λ_ H'=>Q .non H',rt:=Q } (start N vs) H):FnOk P w K mg base (CXR P w) (k+1) f fd ps sp:=by
 obtain⟨oc,od,kV,doc,pm,an,cdv,ct,osl,rfl,lk,a⟩:=F.ex;exact p_E lk a S len λA outer s H vs Q E c b=>hbody cdv A outer s H vs Q E c b
end
abbrev i_K:List Value:= [.type "ValueError",.type "Exception",.type "BaseException",.type "object"]
structure Exc (K:PySem.W.Frag) (mg:Str->Option Value) (x:Str) (C:Addr):Prop where
 at_:mg x=some (.ref C)
 ok:PySem.W.excIn K C i_K "ValueError.__new__"=true
theorem n_3 {K:PySem.W.Frag} {g:Heap} {C:Addr} {tl:List Value} {nid:String} (kin:K.In g) (is:PySem.W.excIn K C tl nid=true):
 ∃(bm:List Value) (N:Addr) (nm qn:Str) (bs:List Value) (hd:Bool) (sn:List Str) (sub:List Value) (ab:Bool) (col:Option Bool) (dd:Option Addr) (k0 k1 k2 k3 k5:Option Value) (mN:Str->Option Value),
  g.get? C=some (excClassObj nm qn C N bs bm hd sn sub ab col dd k0 k1 k2 k3 k5 nid)/\g.Ns N mN/\mN "__init__"=none/\OwnTail g tl bm:=by
 unfold PySem.W.excIn at is;split at is
 rotate_left
 ·cases is
 rename_i dd cd sl look;split at is
 rotate_left
 ·cases is
 rename_i C1 bm k0 k1 k2 k3 n k5 em es;simp only[Bool.and_eq_true,beq_iff_eq,Bool.not_eq_true'] at is;obtain⟨⟨⟨⟨⟨i1,d⟩,c⟩,f⟩,a⟩,b⟩:=is;subst i1 d;cases cd with
 | mk nm bs mro ns qn hd sn sub ab col del=>
   dsimp only at em c a b;subst em c
   have e:sl= #[k0,k1,k2,k3,some (.builtin n),k5]:=by
    cases sl;simp only at es;rw[es]
   subst e;exact⟨bm,ns,nm,qn,bs,hd,sn,sub,ab,col,dd,k0,k1,k2,k3,k5,_,kin _ _ look,.of_isNs (PySem.W.isNs_of_in kin a),PySem.W.nsMap_none_of_in kin a b,PySem.W.tail_of_in kin f⟩
section
variable {X:Cx} {E:XK} {x:Str} {C:Addr} {e0:Expr} {es:List Expr} {np cpos pos:Pos} {t:TA}
def o_Q (C:Addr) (E:XK) (t:TA):TS:=λ_ σ H=>t σ H λvs H1=>vs.length<=sizeLine/\E (.ref C) none H1
theorem d_w (hx:Exc X.K X.mg x C) (hr:m_e X E) (ha:PA X (e0::es) t) (hg:Gl X x:=by rfl) (hc:X.calm=true:=by rfl) (he:starEach (e0::es) X.env=(false,eval e0 X.env)::starEach es X.env:=by rfl)
 (hpl:(backTo cpos (starEach es X.env)).any (·.1)=false:=by rfl) (hd:(x == ("__debug__":Str))=false:=by decide):PS X (.Raise (some (.Call (.Name x np) (e0::es) [] cpos)) none pos) (o_Q C E t):=by
 intro pins s σ H D I h;obtain⟨bm,N,nm,qn,bs,d,sn,sub,ab,col,dd,k0,k1,k2,k3,k5,mN,l,g,b,T⟩:=n_3 I.ok.mod.kin hx.ok
 refine wpAny_Raise_call_subT (C:=C) (nm:=nm) (q:=qn) (N:=N) (bs:=bs) (bm:=bm) (hdct:=d) (sn:=sn) (sub:=sub) (ab:=ab) (col:=col) (dd:=dd) (k0:=k0) (k1:=k1) (k2:=k2) (k3:=k3) (k5:=k5)
  F.excBase_ValueError (mN:=mN) (T.hasType F.excBase_ValueError.hasBase) (I.ok.hd hc) (by rw[he];exact hpl) b (c_Y I hg hx.at_ ⟨rfl,?_⟩ hd)
 have c:=ha cpos pins s σ H _ I h;rw[he] at c ⊢;refine Calls.evalArgs_plain (thn c λus f ⟨vs,i,a,r,z,q⟩=> ?_);exact⟨rfl,by rw[<-r.length];exact z,a.bk _ _ l,g.keeps a.bk,T.keeps a.bk,λj e k=>hr pins σ i f j e C us a k q⟩
end
section
variable {X:Cx} {a b v:Expr} {c1 c2:Str} {tv:TE} {p pos:Pos}
def tFs (tv:TE):TE:=λσ H Q=>tv σ H λx H1=>∃n:Int,x= .int n/\n.natAbs.log2 < 1920/\∀y:Str,Q (.str y) H1
def tFr (tv:TE):TE:=λσ H Q=>tv σ H λx H1=>∃n:Str,x= .str n/\(PySem.reprText n).length<=1000/\∀y:Str,Q (.str y) H1
theorem j_S {n:Int} (h:n.natAbs.log2 < 1920):(Str.ofString (toString n)).length<=1921:=by
 rw[PySem.ofString_length];exact int_text_length_le (by decide) h
theorem e_f {n:Nat} (h:n<=10000):n<=sizeLine:=s_i h (by decide)
theorem p_j (ha:PE X a (tC (.str c1))) (hv:PE X v tv) (hb:PE X b (tC (.str c2))) (h1:c1.length<=1000) (h2:c2.length<=1000):PE X (.JoinedStr [a,.FormattedValue v (-1) none p,b] pos) (tFs tv):=by
 intro pins s σ H Q I h;refine JoinedStr_many (joinParts_cons (thn (ha pins s σ H (λx c=>x= .str c1/\c=H) I ⟨rfl,rfl⟩) λu g ⟨x,c,m,r,ex,eH⟩=> ?_));subst ex eH;obtain⟨t,rfl⟩:=r;refine⟨e_f (by rw[strLen_append];show 0+_<=_;omega),joinParts_cons (FormattedValue_plain (thn (hv pins g σ c _ m h) λu w ⟨x,d,l,r,n,ex,e,k⟩=> ?_))⟩;subst ex;obtain⟨o,rfl⟩:=r;have A:=j_S e;refine formatField_int_small e ⟨e_f (by rw[strLen_append,strLen_append];show 0+_+_<=_;omega),joinParts_cons (thn (hb pins _ σ d (λx c=>x= .str c2/\c=d) (l.tok _) ⟨rfl,rfl⟩) λu y ⟨x,i,j,r,ex,eH⟩=> ?_)⟩;subst ex eH;obtain⟨B,rfl⟩:=r;have f:∀z:Str,z.length<=10000->z.length<=sizeLine:=λz q=>e_f q;refine⟨f _ (by rw[strLen_append,strLen_append,strLen_append];show 0+_+_+_<=_;omega),joinParts_nil ⟨.str _,i,j.tok _,⟨_,rfl⟩,k _⟩ (f _ (by rw[strLen_append,strLen_append,strLen_append];show 0+_+_+_<=_;omega))⟩
theorem o_S (ha:PE X a (tC (.str c1))) (hv:PE X v tv) (h1:c1.length<=1000):PE X (.JoinedStr [a,.FormattedValue v (-1) none p] pos) (tFs tv):=by
 intro pins s σ H Q I h;refine JoinedStr_many (joinParts_cons (thn (ha pins s σ H (λx b=>x= .str c1/\b=H) I ⟨rfl,rfl⟩) λu f ⟨x,b,i,r,ex,eH⟩=> ?_));subst ex eH;obtain⟨t,rfl⟩:=r;refine⟨e_f (by rw[strLen_append];show 0+_<=_;omega),joinParts_cons (FormattedValue_plain (thn (hv pins f σ b _ i h) λu l ⟨x,e,g,r,n,ex,c,k⟩=> ?_))⟩;subst ex;obtain⟨j,rfl⟩:=r;have m:=j_S c;have d:∀z:Str,z.length<=10000->z.length<=sizeLine:=λz q=>e_f q;refine formatField_int_small c ⟨d _ (by rw[strLen_append,strLen_append];show 0+_+_<=_;omega),joinParts_nil ⟨.str _,e,g.tok _,⟨_,rfl⟩,k _⟩ (d _ (by rw[strLen_append,strLen_append];show 0+_+_<=_;omega))⟩
theorem o_3 (ha:PE X a (tC (.str c1))) (hv:PE X v tv) (h1:c1.length<=1000):PE X (.JoinedStr [a,.FormattedValue v 114 none p] pos) (tFr tv):=by
 intro pins s σ H Q I h;refine JoinedStr_many (joinParts_cons (thn (ha pins s σ H (λx c=>x= .str c1/\c=H) I ⟨rfl,rfl⟩) λu e ⟨x,c,g,r,ex,eH⟩=> ?_));subst ex eH;obtain⟨t,rfl⟩:=r;refine⟨e_f (by rw[strLen_append];show 0+_<=_;omega),joinParts_cons (wpAny_FormattedValue_repr (thn (hv pins e σ c _ g h) λu j ⟨x,d,f,r,n,ex,l,k⟩=> ?_))⟩;subst ex;obtain⟨i,rfl⟩:=r;have b:∀z:Str,z.length<=10000->z.length<=sizeLine:=λz q=>e_f q;refine wpAny_pyReprObj_str (formatField_str (λt' tk=>⟨b _ (by rw[strLen_append,strLen_append];show 0+_+_<=_;omega),joinParts_nil ⟨.str _,d,f.tok _,⟨_,rfl⟩,k _⟩ (b _ (by rw[strLen_append,strLen_append];show 0+_+_<=_;omega))⟩) (b _ (by omega))) (b _ (by omega))
end
structure FlyB (P:Program) (w:World) (l:List Env) (H:Hp) (h:Heap) (a:Addr) (C:Value) (H':Hp) (h' B:Heap) (a0:Value):Prop where
 fl:Heap.FlyingW B l a C a0 h'
 hB:e_0 (frs l) H' h h' B
 un:Un (frs l) [] H H' h h'
 hok:HOk P w H' h'
theorem FlyB.on {P:Program} {w:World} {l:List Env} {H H':Hp} {h h' h2 B:Heap} {a:Addr} {C a0:Value} (F:FlyB P w l H h a C H' h' B a0) (f2:Heap.FlyingW B l a C a0 h2) (up:h'.UpToSlots h2) (hf:∀b∈frs l,H' b=none):
 FlyB P w l H h a C H' h2 B a0 where
 fl:=f2
 un:=o_M F.un F.hB f2.1 (h_H F.fl.2.2.1 up)
 hok:=m_l F.hok F.hB f2.1 hf
 hB:=λb o e i c=>by
  have f:∃o',h'.get? b=some o':=by
   rcases c with c | ⟨g,c⟩
   ·cases q:H' b with
    | none=>exact absurd q c
    | some u=>exact (F.hok b u q).there
   ·exact F.un.there b g c (by simp)
  obtain⟨o',e'⟩:=f;have d:=F.hB b o' e' i c;rw[f2.1 b o' d] at e;cases e;exact d
def bot (X:Cx):St:=List.replicate X.N.length none
theorem Inv.dim {X:Cx} {pins:List (Addr×Obj)} {σ:St} {H:Hp} {s:Shared} (I:Inv X pins σ H s):Inv X pins (bot X) H s:=by
 obtain⟨m,hn,_⟩:=I.loc;refine⟨I.ok,I.os,I.bare,I.base,⟨m,hn,λi x v _ h2 _=> ?_⟩,I.cell,I.free,I.freeC,I.pin,I.hok,by simp[bot]⟩;unfold bot at h2;rw[List.getElem?_replicate] at h2
 split at h2 <;> cases h2
abbrev Cx.pw (X:Cx) (pn:List (Addr×Obj)) (xe:Value->Shared->Prop):Cx:={ X with pn:=pn,xe:=xe }
theorem Cx.Ok.pw {X:Cx} (ok:X.Ok) (pn:List (Addr×Obj)) (xe:Value->Shared->Prop):(X.pw pn xe).Ok:=
 ⟨ok.mod,ok.kind,ok.glob,ok.blt,ok.above,ok.inj,ok.has,ok.cab,ok.hd,ok.frames,ok.stk,ok.exf,ok.bs,ok.bsz,ok.noex,ok.exfs,ok.funs,ok.frf⟩
theorem Cx.Ok.unpw {X:Cx} {pn:List (Addr×Obj)} {xe:Value->Shared->Prop} (ok:(X.pw pn xe).Ok):X.Ok:=
 ⟨ok.mod,ok.kind,ok.glob,ok.blt,ok.above,ok.inj,ok.has,ok.cab,ok.hd,ok.frames,ok.stk,ok.exf,ok.bs,ok.bsz,ok.noex,ok.exfs,ok.funs,ok.frf⟩
section
variable {X:Cx} {pins:List (Addr×Obj)} {σ:St} {H:Hp} {s:Shared} {xe:Value->Shared->Prop}
theorem Inv.pnIn (I:Inv X pins σ H s) (xe:Value->Shared->Prop):Inv (X.pw (X.pn++pins) xe) [] σ H s:=
 ⟨I.ok.pw _ _,I.os,I.bare,I.base,I.loc,I.cell,I.free,I.freeC,λp hp=>I.pin p (by simpa using hp),I.hok,I.len⟩
theorem Inv.pnOut {p2:List (Addr×Obj)} (I:Inv (X.pw (X.pn++pins) xe) p2 σ H s):Inv X pins σ H s:=
 ⟨I.ok.unpw,I.os,I.bare,I.base,I.loc,I.cell,I.free,I.freeC,λp hp=>I.pin p (s_w _ hp),I.hok,I.len⟩
theorem SP.pnOut {D:i_O} {f:Flow} {s':Shared} (h:SP (X.pw (X.pn++pins) xe) [] D f s'):SP X pins D f s':=by
 cases f with
 | next=>obtain⟨σ',H',I,q⟩:=h;exact⟨σ',H',I.pnOut,q⟩
 | brk=>obtain⟨σ',H',I,q⟩:=h;exact⟨σ',H',I.pnOut,q⟩
 | cont=>obtain⟨σ',H',I,q⟩:=h;exact⟨σ',H',I.pnOut,q⟩
 | ret u=>obtain⟨v,σ',H',I,r,q⟩:=h;exact⟨v,σ',H',I.pnOut,r,q⟩
abbrev Cx.hand (X:Cx) (e:Value):Cx:={ X with A:=X.A.mark (some e),calm:=false,xe:=λ_ _=>False }
theorem Inv.hand (I:Inv X pins σ H s) (e:Value):Inv (X.hand e) pins σ H s:=
 ⟨⟨I.ok.mod,I.ok.kind,I.ok.glob,I.ok.blt,I.ok.above,I.ok.inj,I.ok.has,I.ok.cab,λz=>(by cases z),I.ok.frames,I.ok.stk,I.ok.exf,I.ok.bs,I.ok.bsz,I.ok.noex,I.ok.exfs,I.ok.funs,I.ok.frf⟩,I.os,I.bare,I.base,I.loc,I.cell,I.free,I.freeC,I.pin,I.hok,I.len⟩
theorem Inv.unhand (ok:X.Ok) {e:Value} (I:Inv (X.hand e) pins σ H s):Inv X pins σ H s:=
 ⟨ok,I.os,I.bare,I.base,I.loc,I.cell,I.free,I.freeC,I.pin,I.hok,I.len⟩
theorem SP.unhand (ok:X.Ok) {e:Value} {D:i_O} {f:Flow} {s':Shared} (h:SP (X.hand e) pins D f s'):SP X pins D f s':=by
 cases f with
 | next=>obtain⟨σ',H',I,q⟩:=h;exact⟨σ',H',I.unhand ok,q⟩
 | brk=>obtain⟨σ',H',I,q⟩:=h;exact⟨σ',H',I.unhand ok,q⟩
 | cont=>obtain⟨σ',H',I,q⟩:=h;exact⟨σ',H',I.unhand ok,q⟩
 | ret u=>obtain⟨v,σ',H',I,r,q⟩:=h;exact⟨v,σ',H',I.unhand ok,r,q⟩
end
inductive PH (X:Cx):List ExceptHandler->List (Addr×TS)->Prop
 | nil:PH X [] []
 | cons {x:Str} {C:Addr} {np pos:Pos} {b0:Stmt} {suite:List Stmt} {e_r:List ExceptHandler} {t:TS} {cl:List (Addr×TS)}:Gl X x→X.mg x=some (.ref C)→(x == ("__debug__":Str))=false→
    (∀e,PSs (X.hand e) (b0::suite) t)->PH X e_r cl->PH X (.ExceptHandler (some (.Name x np)) none (b0::suite) pos::e_r) ((C,t)::cl)
def l_y (K:PySem.W.Frag) (c:Value) (D:i_O) (σ:St) (H:Hp):List (Addr×TS)->Prop
 | []=>False
 | (C,t)::r=>(PySem.W.exmOne K c (.ref C)=some true/\t D σ H)\/(PySem.W.exmOne K c (.ref C)=some false/\l_y K c D σ H r)
theorem h_S {X:Cx} {pins:List (Addr×Obj)} {σ:St} {H1 H:Hp} {s1:Shared} {a:Addr} {C a0:Value} {B:Heap} {D:i_O} (I1:Inv X pins σ H1 s1):
 ∀{hs:List ExceptHandler} {cl:List (Addr×TS)},PH X hs cl->∀{s:Shared},s.os=s1.os->AllBare s.gens->FlyB X.prog X.w X.stack H1 s1.heap a C H s.heap B a0->l_y X.K C D σ H cl->
  wpAny (model X.prog X.w) X.A (handleBy (.ref a) X.env hs) (SP X pins D) X.xe s
 | _,_,.nil,s,_,_,_,h=>False.elim h
 | _,_,.cons (C:=C') hg hm hd hs hr,s,os,bare,F,h=>by
   have J:=I1.call' os F.un F.hok bare o_G;obtain⟨oe,m,k⟩:=F.fl.there
   have LT:PySem.W.Looks (model X.prog X.w) s.heap (typeOf (.ref a)) C:=by
    rw[<-k];exact (PySem.W.Looks.ld m).andThen .now
   refine wpAny_handleBy_cons (codeAny_handlers_test (c_Y (X:=X.hand (.ref a)) (J.hand _) hg hm ?_ hd)) (by intro q;cases q);rcases h with⟨c,h⟩ | ⟨c,h⟩
   ·refine (PySem.W.exm_one J.kIn LT c).here ?_
    refine codeAny_handlers_suite (wpAny_setFlight_noneW F.fl.1 F.fl.2.2.1 F.fl.2.2.2.at λd n l j r=> ?_);have e:=F.on ⟨n,F.fl.2.1,l,j⟩ (λb o i p=>⟨o.slots,r b o i p⟩) J.stkFree;have g:Inv X pins σ H { s with heap:=d }:=I1.call' (s':={ s with heap:=d }) os e.un e.hok bare o_G;exact wpAny_mono (hs (.ref a) pins _ σ H D (g.hand _) h) (λf t q=>q.unhand I1.ok) λ_ _ z=>False.elim z
   ·refine (PySem.W.exm_one J.kIn LT c).here ?_
    exact h_S I1 hr os bare F h
def r_s (tb:XK->TS) (K:PySem.W.Frag) (X:Cx) (cl:List (Addr×TS)):TS:=λD σ H=>tb (λc _ H'=>l_y K c D (bot X) H' cl) D σ H
theorem p_L {X:Cx} {body:List Stmt} {h0:ExceptHandler} {hs:List ExceptHandler} {pos:Pos} {tb:XK->TS} {cl:List (Addr×TS)} (hp:PH X (h0::hs) cl)
 (hb:∀(pn:List (Addr×Obj)) (xe:Value->Shared->Prop) (E:XK),c_A (CXR X.prog X.w) (X.pw pn xe) E->PSs (X.pw pn xe) body (tb E)) (hst:X.stack=X.env::X.outer:=by rfl) (hfr:X.env.frame=some X.env.locals:=by rfl):
 PS X (.Try body (h0::hs) [] [] pos) (r_s tb X.K X cl):=by
 intro pins s σ H D I h;refine wpAny_Try_except ?_
 refine wpAny_mono (hb (X.pn++pins) (λe s₁=>wpAny (model X.prog X.w) X.A (noteFrame e X.env) (λ_ s₂=>wpAny (model X.prog X.w) X.A (setFlight e none) (λ_ s₃=>wpAny (model X.prog X.w) X.A (handleBy e X.env (h0::hs)) (SP X pins D) X.xe s₃) X.xe s₂) X.xe s₁)
  (λc _ H'=>l_y X.K c D (bot X) H' cl) ?_ [] s σ H D (I.pnIn _) h) (λf j q=> ?_) λ_ _ z=>z
 ·rintro t σ' m j e s' p ⟨a,C,H',rfl,os,bare,F,q⟩
  have k:Inv X pins (bot X) m j:=Inv.dim (Inv.pnOut p);obtain⟨B,o,fl,n⟩:=F.fly;have b:FlyB X.prog X.w X.stack m j.heap a (.ref C) H' s'.heap B o:=⟨fl,n,F.un,F.hok⟩;have J:=k.call' os b.un b.hok bare o_G;have g:=b.fl;rw[hst] at g;refine wpAny_looks_onW (outer:=X.outer) (by rw[<-hst];exact k.ok.frames) hfr g λv held up=> ?_;refine wpAny_landsW held λr i l=> ?_;rw[<-hst] at i;exact h_S (s:={ s' with heap:=r }) k hp os bare (b.on i (up.trans l) J.stkFree) q
 ·have d:=q.pnOut
  cases f with
  | next=>exact wpAny_execs_nil d
  | brk=>exact d
  | cont=>exact d
  | ret u=>exact d
end L2
namespace TO
open PySem L2
def i_b:Row:=⟨0,0,Str.empty⟩
theorem n_B {ρs:List Row} (hnd:(ρs.map (·.n)).Nodup) {i j:Nat} (hi:i < ρs.length) (hj:j < ρs.length) (hij:i≠j):(ρs.getD i i_b).n≠(ρs.getD j i_b).n:=by
 rw[s_g,s_g,r_Y hi,r_Y hj];have a:=List.pairwise_iff_getElem.mp hnd;simp only[Option.getD_some];rcases Nat.lt_or_gt_of_ne hij with q | q
 ·have:=a i j (by simpa using hi) (by simpa using hj) q
  simpa using this
 ·have:=a j i (by simpa using hj) (by simpa using hi) q
  simpa using Ne.symm this
theorem c_S {α:Type} (l:List α) (d:α):(List.range l.length).map (λi=>l.getD i d)=l:=by
 apply List.ext_getElem
 ·simp
 ·intro i h1 h2
  simp[s_g,r_Y h2]
theorem g_j {H:Hp} {as:List Addr} {ρs:List Row} (h:RowsAt H as ρs):∀{is:List Nat},(∀i∈is,i < ρs.length)->RowsAt H (is.map λi=>as.getD i 0) (is.map λi=>ρs.getD i i_b)
 | [],_=> .nil
 | i::r,hi=>by
   refine .cons ?_ (g_j h λj e=>hi j (r_0 _ e));have b:=hi i (r_1 ..);obtain⟨a,c,d⟩:=h.get (r_Y b);show RowAt H (as.getD i 0) (ρs.getD i i_b);rw[s_g,s_g,c,r_Y b];exact d
theorem d_i {w:Bool} {ρs:List Row} {i:Nat} (h:i < ρs.length):(ρs.map (a_I w)).getD i []=a_I w (ρs.getD i i_b):=by
 rw[s_g,s_g,r_9,r_Y h];rfl
theorem k_w {w:Bool} {ρs:List Row} (hnd:(ρs.map (·.n)).Nodup):SO ρs.length λi j=>b_c ((ρs.map (a_I w)).getD i []) ((ρs.map (a_I w)).getD j []) where
 tr:=λa b c _ _ _ k g=>c_Q k g
 tri:=λa b e d f h=>by
  rw[d_i e,d_i d] at *;rcases g_2 (w:=w) (n_B hnd e d f) with q | q
  ·rw[show b_c (a_I w (ρs.getD a i_b)) (a_I w (ρs.getD b i_b))=true from q] at h;cases h
  ·exact q
theorem g_a {ρs:List Row} {is:List Nat} (hp:is.Perm (List.range ρs.length)):(is.map λi=>ρs.getD i i_b).Perm ρs:=by
 have:=hp.map λi=>ρs.getD i i_b;rw[c_S] at this;exact this
theorem h_J {w:Bool} {ρs:List Row} {is:List Nat} (hp:is.Perm (List.range ρs.length)) (hu:∀a b,a < b->b < ρs.length->b_c ((ρs.map (a_I w)).getD (is.getD a 0) []) ((ρs.map (a_I w)).getD (is.getD b 0) [])=true):Srt (ltR w) (is.map λi=>ρs.getD i i_b):=by
 have k:is.length=ρs.length:=by rw[hp.length_eq,List.length_range]
 refine List.pairwise_iff_getElem.mpr λa b f d j=> ?_;rw[r_X] at f d;have q:=hu a b j (by omega);have e:∀c (h:c < is.length),is.getD c 0=is[c]:=λc h=>by rw[s_g,r_Y h];rfl
 have g:∀c (h:c < is.length),is[c] < ρs.length:=λc h=>by
  have:=hp.mem_iff.mp (List.getElem_mem h);exact List.mem_range.mp this
 rw[e a f,e b d,d_i (g a f),d_i (g b d)] at q;simpa[ltR] using q
end TO
namespace TO
open PySem PySem.Spec PyProof.Rows L2
section
variable {prog:Program} {w:World} {A:Around} {s:Shared}
theorem j_M {H:Hp} {as:List Addr} {ks:List (List V)} {G:Array Nat->Shared->Prop}
 (tup':∀a k,H a=some (.tup k)->∃its:List Value,Vals k its/\∃o n,s.heap.get? a=some o/\o.cls= .type "tuple"/\o.data= .seq its.toArray n)
 (hT:c_f H as ks) (h2:2<=as.length) (hne:∀k∈ks,∃x r,k=x::r) (hal:∀k∈ks,∀k'∈ks,d_Q k k'/\k.length=k'.length) (hO:SO as.length (λi j=>b_c (ks.getD i []) (ks.getD j [])))
 (hG:∀pp,Rear as.length pp->Up (λi j=>b_c (ks.getD i []) (ks.getD j [])) pp as.length->G pp s):
 wpAny (model prog w) A (keyKind' (as.map Value.ref).toArray) (λκ s'=>(PySem.W.kas_sort as.length).kasWp (PySem.W.kas_ask prog w A κ (as.map Value.ref)) G s') (λ_ _=>False) s:=by
 have B:as.length=ks.length:=Paired.length hT;have h0:0 < as.length:=by omega
 -- the kind of the first items
 have first:∃T:String,∃fs:List Value,PySem.W.KatTups s.heap (as.map Value.ref) fs/\fs.length=as.length/\(T="int"\/T="str")/\∀v∈fs,(∃i t,v= .int i t/\T="int")\/∃x t,v= .str x t/\T="str":=by
  obtain⟨k0,hk0⟩:∃k0,k0∈ks:=by
   cases ks with
   | nil=>rw[s_x] at B;omega
   | cons k r=>exact⟨k,r_1 ..⟩
  obtain⟨b,r0,E⟩:=hne k0 hk0
  have key:∀k∈ks,∃x r,k=x::r/\b_j x b=true:=λk f=>by
   obtain⟨x,r,rfl⟩:=hne k f;have:=(hal _ f _ hk0).1;rw[E] at this;exact⟨x,r,rfl,this.1⟩
  have x0k:(∃i,b= .int i)\/∃y,b= .str y:=by
   have:=(hal _ hk0 _ hk0).1;rw[E] at this;have z:=this.1
   cases b <;> first | exact .inl ⟨_,rfl⟩ | exact .inr ⟨_,rfl⟩ | cases z
  obtain⟨T,g⟩:∃T:String,((∃i,b=V.int i)/\T="int")\/((∃y,b=V.str y)/\T="str"):=by
   rcases x0k with c | c
   ·exact⟨"int",.inl ⟨c,rfl⟩⟩
   ·exact⟨"str",.inr ⟨c,rfl⟩⟩
  refine⟨T,?_⟩
  have go:∀{as':List Addr} {ks':List (List V)},c_f H as' ks'->(∀k∈ks',∃x r,k=x::r/\b_j x b=true)->∃fs:List Value,PySem.W.KatTups s.heap (as'.map Value.ref) fs/\fs.length=as'.length/\
   ∀v∈fs,(∃i t,v=Value.int i t/\∃j,b= .int j)\/∃y t,v=Value.str y t/\∃j,b= .str j:=by
   intro as' ks' Q f;induction Q with
   | nil=>exact⟨[],trivial,rfl,λv d=>by cases d⟩
   | cons ha _ ih=>
     obtain⟨fs,l,h2,m⟩:=ih λk p=>f k (r_0 _ p);obtain⟨x,r,rfl,h⟩:=f _ (r_1 ..);obtain⟨its,rk,o,n,Y,S,Z⟩:=tup' _ _ ha;cases rk with
     | @cons _ v _ its' rx rt=>
       refine⟨v::fs,PySem.W.KatTups.cons Y S Z (by simp) l,by simp[h2],λu X=> ?_⟩;rcases r_8.mp X with e | e
       ·subst e
        cases x with
        | int i=>obtain⟨t,rfl⟩:=rx;cases b <;> first | exact .inl ⟨i,t,rfl,_,rfl⟩ | cases h
        | str y=>obtain⟨t,rfl⟩:=rx;cases b <;> first | exact .inr ⟨y,t,rfl,_,rfl⟩ | cases h
        | _=>cases b <;> cases h
       ·exact m u e
  obtain⟨fs,l,h2,m⟩:=go hT key;refine⟨fs,l,h2,?_, λv d=> ?_⟩
  ·rcases g with c | c
   ·exact .inl c.2
   ·exact .inr c.2
  ·rcases m v d with⟨i,t,e,j,c⟩ | ⟨y,t,e,j,c⟩
   ·refine .inl ⟨i,t,e,?_⟩
    rcases g with⟨_,z⟩ | ⟨⟨y,z⟩,_⟩
    ·exact z
    ·rw[c] at z;cases z
   ·refine .inr ⟨y,t,e,?_⟩
    rcases g with⟨⟨y,z⟩,_⟩ | ⟨_,z⟩
    ·rw[c] at z;cases z
    ·exact z
 obtain⟨T,fs,K,hk2,M,L⟩:=first
 refine PySem.W.kat_kind (T:= .type T) K (by omega) (λv d=> ?_) (by simp) ?_
 ·rcases L v d with⟨i,t,rfl,e⟩ | ⟨y,t,rfl,e⟩
  ·rw[e];exact PySem.W.Looks.of_pure rfl
  ·rw[e];exact PySem.W.Looks.of_pure rfl
 have N:(Value.type T != Value.type "tuple")=true:=by rcases M with e | e <;> rw[e] <;> rfl
 rw[N];refine j_T (n:=as.length) hO (λi j Cc P O hC=> ?_) (by omega) λpp R U=> ?_
 ·show wpAny _ _ (keyLt' (tuples' true) ((as.map Value.ref).getD i Value.none) ((as.map Value.ref).getD j Value.none)) _ _ _
  rw[c_N P,c_N O];obtain⟨gi,mi⟩:=c_L hT P;obtain⟨gj,mj⟩:=c_L hT O;obtain⟨vi,ri,oi,ni,C,_,J⟩:=tup' _ _ gi;obtain⟨vj,rj,oj,nj,q,_,F⟩:=tup' _ _ gj;have I:=(hal _ mi _ mj).2;have li:=ri.length;have lj:=rj.length;refine PySem.W.kat_lt C J q F ?_;have:decide (vi.toArray.size < vj.toArray.size)=false:=s_E (by rw[r_7,r_7];omega);rw[this];exact f_t 0 (by simpa using ri) (by simpa using rj) (hal _ mi _ mj).1 I hC
 ·exact hG pp R U
end
end TO
namespace L2
open PySem PySem.Spec PyProof.Rows
abbrev Cx.at2 (X:Cx):Cx:={ X with A:=X.A.in1.in1,xe:=λ_ _=>False }
section
variable {X:Cx} {pins:List (Addr×Obj)} {σ:St} {H:Hp} {s:Shared}
theorem Inv.at2 (I:Inv X pins σ H s):Inv X.at2 pins σ H s:=
 ⟨⟨I.ok.mod,I.ok.kind,I.ok.glob,I.ok.blt,I.ok.above,I.ok.inj,I.ok.has,I.ok.cab,I.ok.hd,I.ok.frames,I.ok.stk,I.ok.exf,I.ok.bs,I.ok.bsz,I.ok.noex,I.ok.exfs,I.ok.funs,I.ok.frf⟩,I.os,I.bare,I.base,I.loc,I.cell,I.free,I.freeC,I.pin,I.hok,I.len⟩
theorem Inv.un2 (ok:X.Ok) (I:Inv X.at2 pins σ H s):Inv X pins σ H s:=⟨ok,I.os,I.bare,I.base,I.loc,I.cell,I.free,I.freeC,I.pin,I.hok,I.len⟩
theorem Inv.addPin {a:Addr} {o:Obj} (I:Inv X pins σ H s) (h1:s.heap.get? a=some o) (h2:H a=none) (h3:a≠X.env.locals) (h4:a∉X.fs) (h5:∀v,o.data≠ .cell v):Inv X ((a,o)::pins) σ H s:=
 ⟨I.ok,I.os,I.bare,I.base,I.loc,I.cell,I.free,I.freeC,fun p b=>by
   rcases s_f.mp b with q | q
   ·exact I.pin p (s_w _ q)
   ·rcases r_8.mp q with e | e
    ·subst e;exact⟨h1,h2,h3,h4,h5⟩
    ·exact I.pin p (s_a _ e),I.hok,I.len⟩
theorem Inv.dropPin {p:Addr×Obj} (I:Inv X (p::pins) σ H s):Inv X pins σ H s:=
 ⟨I.ok,I.os,I.bare,I.base,I.loc,I.cell,I.free,I.freeC,fun q hq=>I.pin q (by
   rcases s_f.mp hq with z | z
   ·exact s_w _ z
   ·exact s_a _ (r_0 _ z)),I.hok,I.len⟩
theorem Inv.takePin {D:Addr} {o:Obj} {h':Heap} {ys:List V} {its:List Value} {n t':Nat} (I:Inv X ((D,o)::pins) σ H s) (hk:∀b u,b≠D->s.heap.get? b=some u->h'.get? b=some u) (hD:h'.get? D=some { cls:= .type "list",data:= .seq its.toArray n })
 (hv:Vals ys its) (hz:ys.length<=sizeLine) (h0:X.s₀.heap.objs.size<=D) (hc:∀x c,X.env.cells.lookup x=some c->c≠D) (hp:∀p∈X.pn++pins,p.1≠D):Inv X pins σ (upd H D (.lst ys)) { s with heap:=h',toks:=t' }:=by
 obtain⟨j,h,d,k,i⟩:=I.pin (D,o) (s_a _ (r_1 ..));have ne:∀b u,H b=some u->b≠D:=λb u e z=>by rw[z,h] at e;cases e
 refine I.dropPin.step (g':=s.gens) (d':=s.drawn) (ch:= [D]) (λb a=> ?_) (λb u _ _ a e _=>hk b u (λz=>a (by rw[z];exact r_2.mpr rfl)) e)
  (λb u _ _ a e _=>⟨u.slots,hk b u (λz=>a (by rw[z];exact r_2.mpr rfl)) e⟩) (λb u a _ n=>by rw[a_i (λz=>a (by rw[z];exact r_2.mpr rfl))];exact n)
  (λb u a e=>⟨u,hk b u (λz=>a (by rw[z];exact r_2.mpr rfl)) e⟩) (λb xs e=>by rw[a_i (ne b _ e)];exact e) (λb v u e=>by rw[a_i (ne b _ e)];exact e) (λb ps e=>⟨#[],by rw[a_i (ne b _ e),e];simp⟩) (λm f=> ?_) (λb u e=> ?_) I.bare
 ·rw[r_2.mp a]
  exact⟨.inr h0,d,hc,hp⟩
 ·obtain⟨ob,es,ep,g,r⟩:=f
  exact⟨ob,es,ep,hk _ ob (Ne.symm d) g,r⟩
 ·by_cases a:b=D
  ·subst a
   rw[a_b] at e;cases e;exact⟨hz,its,n,hv,hD⟩
  ·rw[a_i a] at e
   refine (I.hok b u e).stay (λc v hc q=>hk c v ?_ q) (λc q=>by rw[a_i (ne c _ q)];exact q) λc xs q=>by rw[a_i (ne c _ q)];exact q
   rcases hc with z | z
   ·rw[z];exact a
   ·exact ne c _ z
end
end L2
namespace TO
open PySem PySem.Spec PyProof.Rows L2
def o_V:Sp:=λvs H Q _=>∃a ρ,vs= [.ref a]/\RowAt H a ρ/\∀k,H k=none->Q (.ref k) (upd H k (.tup (a_I false ρ)))
section
variable {X:Cx}
theorem o_K {A:Around} {E:Value->Shared->Prop} {pins:List (Addr×Obj)} {σ:L2.St} {H:Hp} {s:Shared} {D kS:Addr} {e1:Nat} {kas out:List Addr} {st:SortSt} {P:PySem.Fin->Shared->Prop}
 (I:Inv X ((D,seqObj "list" #[] e1)::pins) σ H s) (hk:H kS=some (.lst (kas.map V.ref))) (hout:(arrOf st).map (·.2)=(out.map Value.ref).toArray) (hf:failedOf st=none) (hkz:kas.length < 64) (hoz:out.length < 64)
 (h0:X.s₀.heap.objs.size<=D) (hc:∀x c,X.env.cells.lookup x=some c->c≠D) (hp:∀p∈X.pn++pins,p.1≠D)
 (fin:∀s',Inv X pins σ (upd (upd H kS (.lst [])) D (.lst (out.map V.ref))) s'->P (.done (.ret .none)) s'):wpAny (model X.prog X.w) A (ksk_tail D false e1 (.ref kS) st) P E s:=by
 obtain⟨o,i,k,t,l⟩:=I.pin (D,seqObj "list" #[] e1) (s_a _ (r_1 ..));have j:kS≠D:=λz=>by rw[z,i] at hk;cases hk
 obtain⟨z,its,n,r,q,ek⟩:=I.lstM hk;have ei:=b_E r;subst ei;have sz:∀{m:Nat},m < 64->m<=sizeLine:=λh=>s_i (Nat.le_of_lt h) (by decide);unfold ksk_tail;dsimp only;rw[hout];refine wpAny_bind (listUpdate_at ek rfl ?_ (by rw[r_7,r_X];exact sz hkz) (s_p _));have d:Inv X ((D,seqObj "list" #[] e1)::pins) σ (upd H kS (.lst [])) { s with heap:=s.heap.update kS (Obj.mapSeq λ_=>(#[]:Array Value)),toks:=s.toks }:=I.lset (its':= []) hk ek rfl .nil (s_p _);obtain⟨a,_⟩:=d.pin (D,seqObj "list" #[] e1) (s_a _ (r_1 ..));refine wpAny_bind (wpAny_letGo ?_);refine wpAny_bind (seqEpoch_at a rfl ?_)
 refine wpAny_bind (listUpdate_at a rfl ?_ (s_p _) (by
  show (List.toArray (out.map Value.ref)).size<=sizeLine+1;rw[r_7,r_X];exact Nat.le_succ_of_le (sz hoz)))
 rw[hf];simp only[bne_self_eq_false,Bool.false_eq_true,if_false];refine wpAny_pure (fin _ ?_);have f:=get?_update_seq a λ_=>(out.map Value.ref).toArray;exact d.takePin (t':=s.toks) (its:=out.map Value.ref) (λb u g e=>(Heap.get?_update_other _ _ (Ne.symm g)).trans e) f (c_P out) (by rw[r_X];exact sz hoz) h0 hc hp
theorem r_w {A:Around} {E:Value->Shared->Prop} {pins:List (Addr×Obj)} {σ:L2.St} {H:Hp} {s:Shared} {D kS:Addr} {e1:Nat} {kas as:List Addr} {ρs:List Row} {P:PySem.Fin->Shared->Prop}
 (I:Inv X ((D,seqObj "list" #[] e1)::pins) σ H s) (hk:H kS=some (.lst (kas.map V.ref))) (hT:c_f H kas (ρs.map (a_I false))) (hl:kas.length=as.length) (hlr:as.length=ρs.length) (hn:(ρs.map (·.n)).Nodup) (h64:as.length < 64)
 (h0:X.s₀.heap.objs.size<=D) (hc:∀x c,X.env.cells.lookup x=some c->c≠D) (hp:∀p∈X.pn++pins,p.1≠D)
 (fin:∀(is:List Nat) s',is.Perm (List.range ρs.length)→(∀a b,a < b→b < ρs.length→b_c ((ρs.map (a_I false)).getD (is.getD a 0) []) ((ρs.map (a_I false)).getD (is.getD b 0) [])=true)→
   Inv X pins σ (upd (upd H kS (.lst [])) D (.lst ((is.map λi=>as.getD i 0).map V.ref))) s'->P (.done (.ret .none)) s'):
 wpAny (model X.prog X.w) A (ksk_end D false (as.map Value.ref).toArray e1 (.ref kS) (kas.map Value.ref).toArray) P E s:=by
 unfold ksk_end;dsimp only;simp only[Bool.false_eq_true,if_false];by_cases r:as.length < 2
 ·have d:(as.map Value.ref).toArray.size < 2:=by simpa using r
  rw[if_pos d,if_pos d];refine wpAny_bind (wpAny_pure ?_);rw[StateT.run_pure];refine wpAny_bind (wpAny_pure ?_);dsimp only;refine o_K I hk (out:=as) ?_ rfl (by omega) h64 h0 hc hp λs' J=> ?_
  ·show ((kas.map Value.ref).toArray.zip (as.map Value.ref).toArray).map (·.2)=_
   apply Array.toList_inj.mp;simp[List.map_snd_zip,hl]
  ·refine fin (List.range ρs.length) s' (.refl _) (λa b g l=>by omega) ?_
   have e:(List.range ρs.length).map (λi=>as.getD i 0)=as:=by rw[<-hlr];exact c_S as 0
   rw[e];exact J
 ·have d:¬ (as.map Value.ref).toArray.size < 2:=by simpa using r
  rw[if_neg d,if_neg d];have so:SO kas.length λi j=>b_c ((ρs.map (a_I false)).getD i []) ((ρs.map (a_I false)).getD j []):=by rw[hl,hlr];exact k_w hn
  refine wpAny_bind (wpAny_mono (j_M (H:=H) (as:=kas) (ks:=ρs.map (a_I false)) (G:=λpp s'=>Rear kas.length pp/\Up (λi j=>b_c ((ρs.map (a_I false)).getD i []) ((ρs.map (a_I false)).getD j [])) pp kas.length/\s'=s) (λa k K=> ?_) hT (by omega) (λk q=> ?_) (λk g k' l=> ?_) so
   λpp R U=>⟨R,U,rfl⟩) (λκ M u=> ?_) λ_ _ z=>z.elim)
  ·obtain⟨_,its,rk,o,N,v,n,B⟩:=I.hok a _ K
   exact⟨its,rk,o,n,N,v,B⟩
  ·obtain⟨ρ,_,rfl⟩:=s_s.mp q
   exact⟨_,_,rfl⟩
  ·obtain⟨ρ,_,rfl⟩:=s_s.mp g
   obtain⟨κ,_,rfl⟩:=s_s.mp l;exact⟨⟨rfl,rfl,trivial⟩,rfl⟩
  ·have h:(kas.map Value.ref).length=(as.map Value.ref).length:=by simp[hl]
   have t:(PySem.W.kas_sort (as.map Value.ref).length).kasWp (PySem.W.kas_ask X.prog X.w A κ (kas.map Value.ref)) (λpp s'=>Rear kas.length pp/\Up (λi j=>b_c ((ρs.map (a_I false)).getD i []) ((ρs.map (a_I false)).getD j [])) pp kas.length/\s'=s) M:=by
    rw[r_X,<-hl];exact u
   refine wpAny_bind (wpAny_mono (PySem.W.kat_run (ks:=kas.map Value.ref) (vs:=as.map Value.ref) (Q:=λst' s'=>∃p:Array Nat,p.size=(as.map Value.ref).length/\arrOf st'=p.map (PySem.W.kas_item ((kas.map Value.ref).toArray.zip (as.map Value.ref).toArray))/\failedOf st'=none/\
    (Rear kas.length p/\Up (λi j=>b_c ((ρs.map (a_I false)).getD i []) ((ρs.map (a_I false)).getD j [])) p kas.length/\s'=s)) h (by rw[r_X];omega) (by rw[r_X];exact h64) (λp' st' s' C O y F=>⟨p',C,O,y,F⟩) t) ?_ λ_ _ e=>e)
   rintro⟨⟨⟩,st'⟩ s' ⟨p,T,m,L,R,U,rfl⟩;dsimp only
   have f:p.toList.Perm (List.range ρs.length):=by
    have:=Array.perm_iff_toList_perm.mp R.perm;rw[hl,hlr] at this;simpa using this
   refine o_K I hk (out:=p.toList.map λi=>as.getD i 0) ?_ L (by omega) ?_ h0 hc hp λs' J=> ?_
   ·rw[PySem.W.kat_snds h m,List.map_map]
    congr 1;apply List.map_congr_left;intro i S;exact c_N (by have:=List.mem_range.mp (f.mem_iff.mp S);omega)
   ·rw[r_X,f.length_eq,List.length_range];omega
   ·refine fin p.toList s' f (λa b g l=> ?_) J
    have:=U a b g (by omega);rw[d_v,d_v] at this;simpa[s_g] using this
theorem q_U {E:Value->Shared->Prop} {pins:List (Addr×Obj)} {σ:L2.St} {H H0:Hp} {s:Shared} {D kS f:Addr} {e1 k:Nat} {as:List Addr} {ρs:List Row} {fd:FuncData} {nm:Str} {P:PySem.Fin->Shared->Prop}
 (F:FnOk X.prog X.w X.K X.mg X.base CX0 k f fd [nm] o_V) (hr:Room k X.A.in1.in1) (hb:Binds X.K fd [nm] [])
 (I:Inv X ((D,seqObj "list" #[] e1)::pins) σ H0 s) (hk:H0 kS=some (.lst [])) (sm:Same H H0) (hR:RowsAt H as ρs) (hkn:H kS=none) (hn:(ρs.map (·.n)).Nodup) (h64:as.length < 64)
 (h0:X.s₀.heap.objs.size<=D) (hc:∀x c,X.env.cells.lookup x=some c->c≠D) (hp:∀p∈X.pn++pins,p.1≠D)
 (fin:∀(is:List Nat) (H':Hp) s',is.Perm (List.range ρs.length)→(∀a b,a < b→b < ρs.length→b_c ((ρs.map (a_I false)).getD (is.getD a 0) []) ((ρs.map (a_I false)).getD (is.getD b 0) [])=true)→Same H H'→H' D=none→
   Inv X pins σ (upd H' D (.lst ((is.map λi=>as.getD i 0).map V.ref))) s'->P (.done (.ret .none)) s'):
 wpAny (model X.prog X.w) X.A.in1.in1 (ksk_rest D (.ref f) false (as.map Value.ref).toArray e1 (.ref kS)) P E s:=by
 have B:=hR.len;unfold ksk_rest;refine wpAny_bind (wpAny_rule ?_)
 first
  | rw[List.forIn_toArray]
  | (rw[<-Array.forIn_toList];simp only[List.toList_toArray])
 refine wpAny_bind (ksk_fold (λi s'=>∃(Hi:Hp) (kas:List Addr),Inv X ((D,seqObj "list" #[] e1)::pins) σ Hi s'/\Hi kS=some (.lst (kas.map V.ref))/\kas.length=i/\c_f Hi kas ((ρs.take i).map (a_I false))/\Same H Hi) (as.map Value.ref) 0 s ⟨H0, [],I,hk,rfl,.nil,sm⟩ ?step ?done)
 case step=>
  rintro j x s' o ⟨Hi,kas,J,g,d,t,si⟩;rw[Nat.zero_add] at d t ⊢;rw[r_9] at o;cases ej:as[j]? with
  | none=>rw[ej] at o;cases o
  | some a=>
    rw[ej] at o;obtain rfl:Value.ref a=x:=r_4 o;obtain⟨ρ,hρ,O⟩:=hR.get' ej;have Y:=(s_b.mp ej).1;refine wpAny_bind (wpAny_attempt (wpAny_mono (f_6 (X:=X.at2) (Q:=λv H'=>∃kk,v=V.ref kk/\Hi kk=none/\H'=upd Hi kk (.tup (a_I false ρ))) F hr hb .nil a_u J.at2 (.cons (a:=V.ref a) rfl .nil) ⟨a,ρ,rfl,si _ _ O,λkk y=>⟨kk,rfl,y,rfl⟩⟩) (λv s'' S=> ?_) λ_ _ z=>z.elim));obtain⟨v',H',J',rv,kk,rfl,y,rfl⟩:=S;cases rv;have N:=Inv.un2 J.ok J';have C:Same Hi (upd Hi kk (.tup (a_I false ρ))):=λb u e=>by rw[a_i (a_h e y)];exact e
    have l:=C _ _ g;obtain⟨z,its,n,r,M,ek⟩:=N.lstM l;have ei:=b_E r;subst ei;dsimp only
    refine wpAny_bind (listUpdate_at ek rfl ?_ (by rw[r_7,r_X];exact s_i (m:=64) (by omega) (by decide)) (by
     show ((kas.map Value.ref).toArray.push (Value.ref kk)).size<=_;rw[Array.size_push,r_7,r_X];exact s_i (m:=100) (by omega) (by decide)))
    have et:(ρs.take (j+1)).map (a_I false)=(ρs.take j).map (a_I false)++ [a_I false ρ]:=by rw[s_o,hρ,r_5];rfl
    have U:Inv X ((D,seqObj "list" #[] e1)::pins) σ (upd (upd Hi kk (.tup (a_I false ρ))) kS (.lst ((kas++ [kk]).map V.ref))) { s'' with heap:=s''.heap.update kS (Obj.mapSeq (·.push (Value.ref kk))),toks:=s''.toks }:=
     N.lset (its':=(kas++ [kk]).map Value.ref) l ek (by simp) (c_P _) (by rw[r_X,r_Z];exact s_i (m:=100) (by simp;omega) (by decide))
    have tk:∀b k',(upd Hi kk (.tup (a_I false ρ))) b=some (.tup k')->(upd (upd Hi kk (.tup (a_I false ρ))) kS (.lst ((kas++ [kk]).map V.ref))) b=some (.tup k'):=λb k' e=>by
     rw[a_i (λz=>by rw[z,l] at e;cases e)];exact e
    refine wpAny_pure ⟨rfl,_,kas++ [kk],U,a_b,by simp[d],?_, λb u e=> ?_⟩
    ·rw[et]
     have aux:∀{L:List Addr} {G:List (List V)},c_f Hi L G->c_f (upd (upd Hi kk (.tup (a_I false ρ))) kS (.lst ((kas++ [kk]).map V.ref))) (L++ [kk]) (G++ [a_I false ρ]):=by
      intro L G h;induction h with
      | nil=>exact .cons (tk _ _ a_b) .nil
      | cons a _ ih=>exact .cons (tk _ _ (C _ _ a)) ih
     exact aux t
    ·rw[a_i (a_h e hkn)]
     exact C _ _ (si _ _ e)
 case done=>
  rintro s' ⟨Hi,kas,J,g,d,t,si⟩;rw[Nat.zero_add,r_X] at d;rw[Nat.zero_add,r_X,B,s_h (r_6 _)] at t;obtain⟨z,its,n,r,M,ek⟩:=J.lstM g;have ei:=b_E r;subst ei;refine wpAny_bind (listItems_at ek rfl ?_);refine r_w J g t d B hn h64 h0 hc hp λis s'' W T J'=> ?_;have q:Hi D=none:=(J.pin (D,seqObj "list" #[] e1) (s_a _ (r_1 ..))).2.1;have R:D≠kS:=λz=>by rw[z,g] at q;cases q
  exact fin is _ s'' W T (λb u e=>by rw[a_i (a_h e hkn)];exact si _ _ e) (by rw[a_i R];exact q) J'
theorem n_r {pins:List (Addr×Obj)} {σ:L2.St} {H:Hp} {s:Shared} {k:Nat} {f p:Addr} {fd:FuncData} {nm:Str} {as:List Addr} {ρs:List Row} {Q:VK} (F:FnOk X.prog X.w X.K X.mg X.base CX0 k f fd [nm] o_V) (hr:Room k X.A.in1.in1) (hb:Binds X.K fd [nm] [])
 (I:Inv X pins σ H s) (hp:SqL X.K H p (as.map V.ref)) (hR:RowsAt H as ρs) (hn:(ρs.map (·.n)).Nodup) (h64:as.length < 64)
 (q:∀(l:Addr) (κs:List Row) (H':Hp),H l=none->Same H H'->LstAt H' l κs->κs.Perm ρs->Srt (ltR false) κs->Q (.ref l) H'):
 wpAny (model X.prog X.w) X.A (call (.builtin "sorted") [.ref p] [(Str.ofString "key",.ref f)]) (EP X pins σ Q) X.xe s:=by
 obtain⟨its,r,pl,_⟩:=I.list hp;have ei:=b_E r;subst ei;have hlr:=hR.len;have j:(as.map Value.ref).length<=sizeLine:=by rw[r_X];exact s_i (m:=64) (by omega) (by decide)
 refine call_function_entry_kw kind_sorted plain_sorted entry_sorted (ksk_s1 _ _) ?_;unfold Builtin.«sorted»;refine wpAny_bind (m:=checkCount "sorted" 1 1 _) (wpAny_pure (wpAny_bind (collect_list pl.isList (wpAny_bind (wpAny_newList ?_ j)) j)));generalize eg:((s.heap.push (seqObj "list" #[] 0)).update s.heap.objs.size (Obj.mapSeq (·++(as.map Value.ref).toArray)))=g0;have d:g0.objs.size=s.heap.objs.size+1:=by rw[<-eg,Heap.size_update,size_push']
 have t:∀b o,s.heap.get? b=some o->g0.get? b=some o:=λb o e=>by
  have g:b < s.heap.objs.size:=Heap.lt_size e;rw[<-eg,Heap.get?_update_ne _ _ _ _ (s_l g),Heap.get?_push_ne _ _ _ (s_l g)];exact e
 clear eg;show wpAny _ _ _ _ _ { s with heap:=g0.push (seqObj "list" (as.map Value.ref).toArray 0) };have h:(g0.push (seqObj "list" (as.map Value.ref).toArray 0)).get? g0.objs.size=some (seqObj "list" (as.map Value.ref).toArray 0):=Heap.get?_push_size _ rfl;refine wpAny_bind (wpAny_holding (wpAny_call_entry_kw slot_list_sort ⟨_,h,rfl⟩ entry_list_sort ?body (ksk_l1 _ _)));show wpAny _ X.A.in1.in1 (Builtin.«list.sort» ⟨[.ref g0.objs.size], [(Str.ofString "key",.ref f)]⟩) _ _ _;rw[ksk_t1];unfold ksk_tree;refine wpAny_bind (listItems_at h rfl (wpAny_bind (listUpdate_at h rfl ?_ (by rw[r_7];exact j) (s_p _))));obtain⟨e1,hD2⟩:∃e1,((g0.push (seqObj "list" (as.map Value.ref).toArray 0)).update g0.objs.size (Obj.mapSeq λ_=>(#[]:Array Value))).get? g0.objs.size=some (seqObj "list" #[] e1):=⟨_,get?_update_seq h λ_=> #[]⟩;generalize B:(g0.push (seqObj "list" (as.map Value.ref).toArray 0)).update g0.objs.size (Obj.mapSeq λ_=>(#[]:Array Value))=g2 at hD2 ⊢
 have G:∀b o,s.heap.get? b=some o->g2.get? b=some o:=λb o e=>by
  have g:=Heap.lt_size (t b o e);rw[<-B,Heap.get?_update_ne _ _ _ _ (s_l g)];exact Heap.get?_push_of_some _ (t b o e)
 have R:g2.objs.size=s.heap.objs.size+2:=by rw[<-B,Heap.size_update,size_push',d]
 clear B;refine wpAny_bind (seqEpoch_at hD2 rfl (wpAny_bind (wpAny_newTuple (wpAny_bind (wpAny_newList (wpAny_holding ?_) (s_p _))) (by simpa using j))));have E:∀b o,s.heap.get? b=some o->((g2.push (seqObj "tuple" (as.map Value.ref).toArray 0)).push (seqObj "list" #[] 0)).get? b=some o:=λb o e=>Heap.get?_push_of_some _ (Heap.get?_push_of_some _ (G b o e));have y:(g2.push (seqObj "tuple" (as.map Value.ref).toArray 0)).objs.size=s.heap.objs.size+3:=by rw[size_push',R]
 have C:H (g2.push (seqObj "tuple" (as.map Value.ref).toArray 0)).objs.size=none:=I.hok.fresh (by rw[y];omega);have HD:H g0.objs.size=none:=I.hok.fresh (by rw[d];omega);have N:g0.objs.size≠(g2.push (seqObj "tuple" (as.map Value.ref).toArray 0)).objs.size:=by rw[y,d];omega
 have Z:=I.lt
 have W:Inv X pins σ (upd H (g2.push (seqObj "tuple" (as.map Value.ref).toArray 0)).objs.size (.lst [])) { s with heap:=(g2.push (seqObj "tuple" (as.map Value.ref).toArray 0)).push (seqObj "list" #[] 0),toks:=s.toks }:=
  I.laid (o:= .lst []) E (by rw[y];omega) ⟨s_p _, [],0,.nil,Heap.get?_push_size _ rfl⟩
 have T:=W.addPin (a:=g0.objs.size) (o:=seqObj "list" #[] e1) (Heap.get?_push_of_some _ (Heap.get?_push_of_some _ hD2)) (by rw[a_i N];exact HD) (by rw[d];exact Nat.ne_of_gt (Nat.lt_succ_of_lt Z)) (I.nofs (by rw[d];omega)) (λv z=>by cases z);refine q_U (H:=H) F hr hb T a_b (λb u e=>by rw[a_i (a_h e C)];exact e) hR C hn h64 (s_i I.sz (by rw[d];omega)) (λx c e z=> ?_) (λpp P z=> ?_) λis H' s' L U S hD' J=> ?_
 ·obtain⟨v,o,Y,_⟩:=I.cell x c e
  have:=Heap.lt_size Y;rw[z,d] at this;exact absurd this (Nat.not_lt.mpr (Nat.le_succ _))
 ·have:=Heap.lt_size (I.pin pp P).1
  rw[z,d] at this;exact absurd this (Nat.not_lt.mpr (Nat.le_succ _))
 ·refine⟨_,rfl,wpAny_pure ⟨_,rfl,.ref g0.objs.size,_,J,rfl,?_⟩⟩
  have M:∀i∈is,i < ρs.length:=λi hi=>List.mem_range.mp (L.mem_iff.mp hi);have O:Same H (upd H' g0.objs.size (.lst ((is.map λi=>as.getD i 0).map V.ref))):=λb u e=>by rw[a_i (a_h e HD)];exact S _ _ e
  exact q g0.objs.size (is.map λi=>ρs.getD i i_b) _ HD O ⟨_,a_b,(g_j hR M).same λb xs z=>O _ _ z⟩ (g_a L) (h_J L U)
def p_R (K:PySem.W.Frag) (te:TE):TE:=λσ H Q=>te σ H λv H1=>∃(p:Addr) (as:List Addr) (ρs:List Row),v= .ref p/\SqL K H1 p (as.map V.ref)/\RowsAt H1 as ρs/\(ρs.map (·.n)).Nodup/\as.length < 64/\
 ∀(l:Addr) (κs:List Row) (H':Hp),H1 l=none->Same H1 H'->LstAt H' l κs->κs.Perm ρs->Srt (ltR false) κs->Q (.ref l) H'
theorem l_t {k:Nat} {f:Addr} {fd:FuncData} {nm kn:Str} {e:Expr} {te:TE} {p kp kpos pos:Pos} (F:FnOk X.prog X.w X.K X.mg X.base CX0 k f fd [nm] o_V) (hr:Room k X.A.in1.in1) (hb:Binds X.K fd [nm] []) (hm:X.mg "sorted"=none) (ha:PE X e te) (hkm:X.mg kn=some (.ref f))
 (hg:Gl X "sorted":=by rfl) (hkg:Gl X kn:=by rfl) (hd:(kn == ("__debug__":Str))=false:=by decide) (hB:backTo pos (starEach [e] X.env)=(false,eval e X.env)::backTo pos (starEach [] X.env):=by rfl) (hP:(backTo pos (starEach [e] X.env)).any (·.1)=false:=by rfl) (hes:starEach [e] X.env=(false,eval e X.env)::starEach [] X.env:=by rfl):PE X (.Call (.Name "sorted" p) [e] [⟨some "key",.Name kn kp,kpos⟩] pos) (p_R X.K te):=by
 intro pins s σ H Q I h;refine wpAny_Call_Name_kw (e_9 I hg hm boot_sorted ?_)
 refine callWith_kw (thn ((a_a ha a_d (hs:=hes):PA X [e] _) pos pins s σ H (λvs a=>match vs with
  | [v]=>∃(p:Addr) (as:List Addr) (ρs:List Row),v= .ref p∧SqL X.K a p (as.map V.ref)∧RowsAt a as ρs∧(ρs.map (·.n)).Nodup∧as.length < 64∧
    ∀(l:Addr) (κs:List Row) (H':Hp),a l=none->Same a H'->LstAt H' l κs->κs.Perm ρs->Srt (ltR false) κs->Q (.ref l) H'
  | _=>False) I h) λus g ⟨vs,a,b,r,q⟩=> ?_) hB hP
 cases r with
 | nil=>exact q.elim
 | cons ru rt=>
   cases rt with
   | cons _ _=>exact q.elim
   | nil=>
     obtain⟨p,as,ρs,rfl,d,i,j,c,m⟩:=q;cases ru;show wpAny _ _ (evalAll [(do let v<-eval (.Name kn kp) X.env;standAt pos;pure v)]) _ _ g;refine wpAny_evalAll_cons (wpAny_bind (c_Y b hkg hkm (wpAny_bind (wpAny_standAt (wpAny_pure (wpAny_evalAll_nil ?_)))) hd));exact n_r F hr hb b d i j c m
end
end TO
namespace L2
open PySem PySem.Spec PyProof.Rows
structure f_E (X:Cx) (scope:Scope) (x x2:Str) (fns:List Str) (js:List Nat):Prop where
 kind:scope.kind= .function
 nocell:∀y∈scope.names,y.2≠ .cell
 locs:∀y∈scope.names,y.2= .local->scope.names.lookup y.1=some .local
 loc:scope.names.lookup x=some .local
 loc2:scope.names.lookup x2=some .local
 free:∀y∈scope.names,y.2= .free->y.1∈fns
 isfree:∀y∈fns,scope.names.lookup y=some .free
 clos:closureFor scope X.env=pure (l_L X.env fns)
 mine:∀y∈fns,X.env.kindOf y=some .cell
 js:js.map (λj=>X.N[j]?)=fns.map some
 nd:(x::x2::fns).Nodup
section
variable {X:Cx} {scope:Scope} {x x2:Str} {fns:List Str} {js:List Nat} {pins:List (Addr×Obj)} {σ:St} {H:Hp} {s:Shared} {fp:List Addr}
def b_5 (σ:St) (js:List Nat) (v v2:Option V):St:=v::v2::js.map λj=>(σ[j]?).join
theorem i_V (S:f_E X scope x x2 fns js) (I:Inv X pins σ H s) (hf:∀b∈fp,f_V X pins H b) (ho:∀b∈fp,b < s.heap.objs.size):(a_X X scope fns (x::x2::fns) fp pins s H).Ok where
 mod:=I.ok.mod
 kind:=S.kind
 glob:=I.ok.glob
 blt:=I.ok.blt
 above:=r_6 _
 inj:=λy z c i k=>I.ok.inj y z c (a_9 i).1 (a_9 k).1
 has:=λy d=>by
  have f:y∈fns:=by
   rcases d with d | d
   ·exact S.free _ (c_q (PySem.mem_of_lookup d) (.inl rfl) S.nocell) rfl
   ·exact S.free _ (c_q (PySem.mem_of_lookup d) (.inr rfl) S.nocell) rfl
  obtain⟨c,j⟩:=I.ok.has y (.inl (S.mine y f));exact⟨c,d_y f j⟩
 cab:=λ_ _ h=>nomatch h
 hd:=I.ok.hd
 frames:=I.ok.frames
 stk:= .inl rfl
 exf:=λb a=>⟨s_l (ho b a),λy c e=>(hf b a).2.2.2.2.1 y c (a_9 e).1⟩
 bs:=I.bs
 bsz:=s_i I.ok.bsz I.sz
 noex:=λb o e a=>by
  rcases (hf b a).2.2.2.1 with z | z
  ·exact I.ok.noex b o e z
  ·exact absurd (s_d (s_d (Heap.lt_size e) I.ok.bsz) z) (Nat.lt_irrefl _)
 exfs:=λb a g=>by
  rcases r_8.mp (I.stkSub b g) with z | z
  ·exact (hf b a).2.1 z
  ·exact (hf b a).2.2.1 z
 funs:=I.stack
 frf:=I.stkFree
theorem g_8 (S:f_E X scope x x2 fns js) (I:Inv X pins σ H s) (hf:∀b∈fp,f_V X pins H b) (ho:∀b∈fp,b < s.heap.objs.size) {h₁:Heap} {m:Str->Option Value} {tk:Nat} (hn:h₁.Ns s.heap.objs.size m)
 (hk:∀b o,s.heap.get? b=some o->h₁.get? b=some o):Inv (a_X X scope fns (x::x2::fns) fp pins s H) [] (b_5 σ js none none) H { s with heap:=h₁,toks:=tk }:=by
 have K:HOk X.prog X.w H h₁:=I.hok.kept hk;refine⟨i_V S I hf ho,rfl,I.bare,Un.kept hk,⟨m,hn,λi y v J A _=> ?_⟩,λy c e=> ?_, I.hok.fresh (r_6 _),λy c e=>I.freeC y c (a_9 e).1,λp B=> ?_, K,?_⟩
 ·cases i with
  | zero=>cases A
  | succ i=>
    cases i with
    | zero=>cases A
    | succ i=>
      have h:fns[i]? =some y:=J;have a:(js.map λj=>(σ[j]?).join)[i]? =some (some v):=A;rw[r_9] at a;cases ej:js[i]? with
      | none=>rw[ej] at a;cases a
      | some j=>
        rw[ej] at a;have g:(σ[j]?).join=some v:=r_4 a
        have G:σ[j]? =some (some v):=by
         cases q:σ[j]? with
         | none=>rw[q] at g;cases g
         | some o=>rw[q] at g;exact congrArg some g
        have L:X.N[j]? =some y:=by
         have q:=congrArg (λl=>l[i]?) S.js;simp only[r_9,ej,h,Option.map_some] at q;exact r_4 q
        have f:y∈fns:=s_n h;obtain⟨m',_,F⟩:=I.loc;obtain⟨u,r,l⟩:=F j y v L G (.inr (.inl (S.mine y f)));refine⟨u,r,.inr ⟨.inl (b_k I.ok.kind (S.isfree y f) (S.mine y f)),?_⟩⟩;rcases l with⟨k,_⟩ | ⟨k,c,ec,oc,C,t⟩
        ·rw[S.mine y f] at k;cases k
        ·exact⟨c,d_y f ec,oc,hk _ _ C,t⟩
 ·obtain⟨v,o,ho,t⟩:=I.cell y c (a_9 e).1
  exact⟨v,o,hk _ _ ho,t⟩
 ·have E:p∈X.pn++pins:=by rw[s_u] at B;exact B
  obtain⟨e,n,ne,nf,d⟩:=I.pin p E;refine⟨hk _ _ e,n,s_l (Heap.lt_size e),λz=> ?_, d⟩;rcases r_8.mp (I.stkSub p.1 z) with q | q
  ·exact ne q
  ·exact nf q
 ·unfold b_5
  have:=congrArg List.length S.js;simp only[r_X] at this;simp only[r_3,r_X,this,a_X]
theorem g_O (I:Inv X pins σ H s) (hf:∀b∈fp,f_V X pins H b) {σ':St} {H':Hp} {s':Shared} {pins':List (Addr×Obj)} (J:Inv (a_X X scope fns (x::x2::fns) fp pins s H) pins' σ' H' s'):Inv X pins σ H' s':=
 I.call' (ch:=fp) J.os J.base J.hok J.bare λb hb=>⟨(hf b hb).2.2.2.1,(hf b hb).2.1,(hf b hb).2.2.2.2.1,(hf b hb).2.2.2.2.2⟩
end
def j_e (J:It) (D:Addr) (σ:St) (js:List Nat) (tt:TT) (te:TE) (QQ:Hp->Prop) (W:Nat->Nat->Hp->Prop):Prop:=
 ∀i m H,W i m H->(J.stop i H/\QQ H)\/(J.go i H/\∃(N1:V->Hp->Prop) (N0:Hp->Prop),
  (∀y H3,N1 y H3->∃ys,H3 D=some (.lst ys)/\ys.length < sizeLine/\∃m',m' < m/\W (i+1) m' (upd H3 D (.lst (ys++ [y]))))/\(∀c,N0 c->∃m',m' < m/\W (i+1) m' c)/\
  ∀v H',J.yld i H v H'->∃t a b',v=V.ref t/\H' t=some (.tup [a,b'])/\tt (b_5 σ js (some a) (some b')) H' λb c=>if b=true then te (b_5 σ js (some a) (some b')) c N1 else N0 c)
section
variable {X:Cx} {scope:Scope} {x x2:Str} {fns:List Str} {js:List Nat} {pins:List (Addr×Obj)} {σ:St} {H:Hp} {s:Shared} {elt iter:Expr} {px py pt pos pos':Pos} {kt:Nat} {ifs:List Expr} {wi:TI} {tt:TT} {te:TE}
theorem i_J {use:Option (Value->Sem Unit)} {Qv:Value->Shared->Prop} {QQ:Addr->Hp->Prop} (hc:X.calm=true) (S:f_E X scope x x2 fns js) (hi:PI X (.Tuple [.Name x px,.Name x2 py] kt pt) iter wi)
 (ht:∀fp pins s H,n_W (a_X X scope fns (x::x2::fns) fp pins s H) ifs tt) (he:∀fp pins s H,PE (a_X X scope fns (x::x2::fns) fp pins s H) elt te) (I:Inv X pins σ H s)
 (h:wi σ H λJ H1=>∀D,H1 D=none->∃W:Nat->Nat->Hp->Prop,(∃m,W 0 m (upd H1 D (.lst [])))/\j_e J D σ js tt te (QQ D) W)
 (fin:∀D C H5 s5 m5,Inv X pins σ H5 s5->f_V X pins H5 C->s5.heap.Ns C m5->QQ D H5->compPost (model X.prog X.w) X.A X.xe use Qv (.ref D) C (.ok .next) s5)
 (hs:∀x,foldedSetIterable iter X.env x=pure x:=by intro _;rfl):
 wpAny (model X.prog X.w) X.A (comprehension (.ListComp elt [⟨.Tuple [.Name x px,.Name x2 py] kt pt,iter,ifs,0⟩] scope pos) scope X.env pos' (newList []) false (eval iter X.env) use) Qv X.xe s:=by
 refine wpAny_comprehension_free (use:=use) rfl hs S.clos S.kind S.locs (thn (hi pins s σ H _ I h) λv s1 h1=>thn h1 λitv a h2=> ?_);obtain⟨it,fp,tn,J,f,e,I2,T,Q,f2,hW⟩:=h2;subst e;obtain⟨W,⟨m0,w0⟩,turn⟩:=hW a.heap.objs.size I2.fresh;have j:Inv X pins σ (upd f a.heap.objs.size (.lst [])) { a with heap:=a.heap.push { cls:= .type "list",data:= .seq ([]:List Value).toArray } }:=I2.lnew (t':=a.toks) (its:= []) (ys:= []) .nil (s_p _)
 have O:∀b∈fp,b < a.heap.objs.size:=λb c=>by
  obtain⟨o,e,_⟩:=T.obj _ _ Q b c;exact Heap.lt_size e
 have G:∀b∈fp,f_V X pins (upd f a.heap.objs.size (.lst [])) b:=λb c=>⟨by rw[a_i (s_l (O b c))];exact (f2 b c).1,(f2 b c).2⟩;have a0:∀b∈fp,b < (a.heap.push { cls:= .type "list",data:= .seq ([]:List Value).toArray }).objs.size:=λb c=>by rw[Heap.size_push];exact Nat.lt_succ_of_lt (O b c)
 refine wpAny_newObj_type (wpAny_newFunctionEnv S.nocell (by intro y hy;simp at hy) (λh₁ hns₁ hsb₁=> ?_) S.kind);dsimp only at hns₁ hsb₁ ⊢
 have hk:∀b o,(a.heap.push { cls:= .type "list",data:= .seq ([]:List Value).toArray }).get? b=some o->h₁.get? b=some o:=λb o e=>
  hsb₁.extBut b o (s_l (Heap.lt_size e)) (Heap.get?_push_of_some _ e)
 have B:=g_8 (tk:=a.toks+([]:List (Str×Value)).length) S j G a0 hns₁ hk
 have stat:∀{H':Hp},(∀b∈fp,H' b=none)->∀b∈fp,f_V (a_X X scope fns (x::x2::fns) fp pins { a with heap:=a.heap.push { cls:= .type "list",data:= .seq ([]:List Value).toArray } } (upd f a.heap.objs.size (.lst []))) [] H' b:=λhn b c=>by
  refine⟨hn b c,(B.ok.exf b c).1,B.ok.exfs b c,.inl c,(B.ok.exf b c).2,λp hp=>(G b c).2.2.2.2.2 p ?_⟩;rw[s_u] at hp;exact hp
 have a1:∀b∈fp,(upd f a.heap.objs.size (.lst [])) b=none:=λb c=>(G b c).1;have P:tn 0 h₁:=T.keep _ _ _ Q λb c o e=>hk b o (Heap.get?_push_of_some _ e)
 have loop:∀s₃:Shared,s₃={ a with heap:=h₁,toks:=a.toks+([]:List (Str×Value)).length }->
  codeAny (model X.prog X.w) X.A (.compLoop (.ListComp elt [⟨.Tuple [.Name x px,.Name x2 py] kt pt,iter,ifs,0⟩] scope pos) 0 (.ref it) (.ref a.heap.objs.size) (compEnvC scope (l_L X.env fns) (a.heap.push { cls:= .type "list",data:= .seq ([]:List Value).toArray }).objs.size X.env))
   (compPost (model X.prog X.w) X.A X.xe use Qv (.ref a.heap.objs.size) (a.heap.push { cls:= .type "list",data:= .seq ([]:List Value).toArray }).objs.size) s₃:=by
  rintro s₃ rfl
  refine d_M (λn s'=>∃i o M H',Inv (a_X X scope fns (x::x2::fns) fp pins { a with heap:=a.heap.push { cls:= .type "list",data:= .seq ([]:List Value).toArray } } (upd f a.heap.objs.size (.lst []))) [] (b_5 σ js o M) H' s'/\tn i s'.heap/\(∀b∈fp,H' b=none)/\W i n H') ?_ m0
   ⟨0,none,none,_,B,P,a1,w0⟩
  rintro n s4 ⟨i,o,M,E,J4,R,N,w4⟩;rcases turn i n E w4 with⟨stop,qn⟩ | ⟨go,N1,N0,hN1,hN0,step⟩
  ·refine thn (T.done (a_X X scope fns (x::x2::fns) fp pins { a with heap:=a.heap.push { cls:= .type "list",data:= .seq ([]:List Value).toArray } } (upd f a.heap.objs.size (.lst []))) rfl rfl rfl hc i [] s4 _ E _ J4 (stat N) R stop) λr s5 ⟨U,L⟩=> ?_
   subst U;obtain⟨m5,hn5,_⟩:=id L.loc;have I5:=g_O j G L;exact fin _ _ E s5 m5 I5 ⟨L.free,Nat.ne_of_gt (s_d j.lt (r_6 _)),j.nofs (r_6 _),.inr j.sz,(j.fpOk (r_6 _) L.free).2.2.2.2⟩ hn5 qn
  ·refine thn (T.item (a_X X scope fns (x::x2::fns) fp pins { a with heap:=a.heap.push { cls:= .type "list",data:= .seq ([]:List Value).toArray } } (upd f a.heap.objs.size (.lst []))) rfl rfl rfl hc i [] s4 _ E _ J4 (stat N) R go) λr s5 ⟨u,U,h5⟩=> ?_
   subst U;refine thn h5 λ_ s6 ⟨v6,Y,J6,r6,y6,q,fr6⟩=> ?_;have J6':=J6.pinned (stat fr6) (T.obj _ _ q);obtain⟨t6,K,z,e6,ht6,step'⟩:=step v6 Y y6;have pg:=p_u (X:=a_X X scope fns (x::x2::fns) fp pins { a with heap:=a.heap.push { cls:= .type "list",data:= .seq ([]:List Value).toArray } } (upd f a.heap.objs.size (.lst []))) (k:=kt) (pos:=pt) hc (i_e (b_b (pos:=px) (i:=0) (x:=x) S.nd rfl (.inl (lookup_relabel_local S.loc)) (.inr (lookup_relabel_local S.loc))) (i_e (b_b (pos:=py) (i:=1) (x:=x2) S.nd rfl (.inl (lookup_relabel_local S.loc2)) (.inr (lookup_relabel_local S.loc2))) m_P));refine thn (pg _ s6 _ Y v6 u (λσ' H'=>σ'=b_5 σ js (some K) (some z)/\H'=Y) J6' r6 ⟨t6,_,e6,SqT.of ht6,rfl,K, [z],rfl,z, [],rfl,rfl,rfl,rfl⟩) λ_ s7 ⟨σ7,H7,J7,e7,e7'⟩=> ?_;subst e7 e7';refine thn (ht _ _ _ _ _ s7 _ H7 _ J7 step') λb s8 ⟨H8,J8,Z⟩=> ?_
   have again:∀{g:Hp} {l:Shared},Inv (a_X X scope fns (x::x2::fns) fp pins { a with heap:=a.heap.push { cls:= .type "list",data:= .seq ([]:List Value).toArray } } (upd f a.heap.objs.size (.lst []))) ([]++f_c fp s6.heap) (b_5 σ js (some K) (some z)) g l->
    (∃m',m' < n/\W (i+1) m' g)->∃m,m < n/\∃i o M H',Inv (a_X X scope fns (x::x2::fns) fp pins { a with heap:=a.heap.push { cls:= .type "list",data:= .seq ([]:List Value).toArray } } (upd f a.heap.objs.size (.lst []))) [] (b_5 σ js o M) H' l/\tn i l.heap/\(∀b∈fp,H' b=none)/\W i m H':=λ{g l} t ⟨m',hm,w9⟩=>by
    refine⟨m',hm,i+1,some K,some z,g,t.unpinned,T.keep _ _ _ q λb c o e=>(t.pin (b,o) (s_a _ (s_a _ (b_O c e)))).1,λb c=> ?_, w9⟩;obtain⟨o,e,d⟩:=T.obj _ _ q b c;exact (t.pin (b,o) (s_a _ (s_a _ (b_O c e)))).2.1
   cases b with
   | false=>exact again J8 (hN0 _ (by simpa using Z))
   | true=>
     simp only[if_true] at Z ⊢;refine thn (he _ _ _ _ _ s8 _ H8 _ J8 Z) λxv l ⟨F,g,t,r9,n9⟩=> ?_;obtain⟨ys,hD,hz,q9⟩:=hN1 F g n9;refine thn (a_O _ l _ g (.ref a.heap.objs.size) [F] (.ref a.heap.objs.size) [xv] (λ_ H'=>H'=upd g a.heap.objs.size (.lst (ys++ [F]))) t rfl (.cons r9 .nil) ⟨_,ys,F,rfl,rfl,hD,hz,rfl⟩) λ_ s10 ⟨_,H10,J10,_,e10⟩=> ?_;subst e10;exact again J10 q9
 exact codeAny_compStart_list (loop _ rfl) (T.self _ 0 _ _ _ P (loop _ rfl))
def p_G (wi:TI) (js:List Nat) (tt:TT) (te:TE):TE:=λσ H Q=>wi σ H λJ H1=>∀D,H1 D=none->∃W:Nat->Nat->Hp->Prop,(∃m,W 0 m (upd H1 D (.lst [])))/\j_e J D σ js tt te (Q (.ref D)) W
theorem l_z (hc:X.calm=true) (S:f_E X scope x x2 fns js) (hi:PI X (.Tuple [.Name x px,.Name x2 py] kt pt) iter wi)
 (ht:∀fp pins s H,n_W (a_X X scope fns (x::x2::fns) fp pins s H) ifs tt) (he:∀fp pins s H,PE (a_X X scope fns (x::x2::fns) fp pins s H) elt te) (hs:∀x,foldedSetIterable iter X.env x=pure x:=by intro _;rfl):
 PE X (.ListComp elt [⟨.Tuple [.Name x px,.Name x2 py] kt pt,iter,ifs,0⟩] scope pos) (p_G wi js tt te):=by
 intro pins s σ H Q I h;rw[eval_ListComp];refine i_J (use:=none) (QQ:=λD=>Q (.ref D)) hc S hi ht he I h (λD C i d f c fC g q=> ?_) hs;refine⟨f,g,λj sb=>⟨.ref D,i,?_, rfl,q⟩⟩;exact c.turned (t':=d.toks) (λb o a e=>(sb.2 b a).trans e) fC.1 fC.2.1 fC.2.2.2.1 fC.2.2.2.2.1 fC.2.2.2.2.2
end
theorem i_s {K:PySem.W.Frag} {a D:Addr} {xs:List V} {σ:St} {js:List Nat} {tt:TT} {te:TE} {QQ:Hp->Prop} {H:Hp} (Pv:Nat->List V->Hp->Prop) (h0:Pv 0 [] (upd H D (.lst [])))
 (hl:∀i ys H,i<=xs.length->H D=some (.lst ys)->Pv i ys H->SqL K H a xs)
 (hs:∀i v ys H,xs[i]? =some v→H D=some (.lst ys)→Pv i ys H→∃t p q,v=V.ref t∧H t=some (.tup [p,q])∧tt (b_5 σ js (some p) (some q)) H fun b H2=>
   if b=true then te (b_5 σ js (some p) (some q)) H2 λy H3=>H3 D=some (.lst ys)/\ys.length < sizeLine/\Pv (i+1) (ys++ [y]) (upd H3 D (.lst (ys++ [y]))) else H2 D=some (.lst ys)/\Pv (i+1) ys H2)
 (hd:∀ys H,H D=some (.lst ys)->Pv xs.length ys H->QQ H):
 ∃W:Nat->Nat->Hp->Prop,(∃m,W 0 m (upd H D (.lst [])))/\j_e (Itl K a) D σ js tt te QQ W:=by
 refine⟨λi m H=>i<=xs.length/\m=xs.length - i/\∃ys,H D=some (.lst ys)/\Pv i ys H,⟨_,s_p _,rfl, [],a_b,h0⟩,?_⟩;rintro i m j ⟨n,rfl,ys,h,f⟩;have g:=hl i ys j n h f;by_cases e:i=xs.length
 ·subst e
  exact .inl ⟨⟨xs,g,r_6 _⟩,hd ys j h f⟩
 ·have c:i < xs.length:=by omega
  refine .inr ⟨⟨xs,xs[i],g,r_Y c⟩,λy H3=>H3 D=some (.lst ys)/\ys.length < sizeLine/\Pv (i+1) (ys++ [y]) (upd H3 D (.lst (ys++ [y]))),λH2=>H2 D=some (.lst ys)/\Pv (i+1) ys H2,
   λy H3 d=>⟨ys,d.1,d.2.1,xs.length - (i+1),by omega,c,rfl,ys++ [y],a_b,d.2.2⟩,λH2 q=>⟨xs.length - (i+1),by omega,c,rfl,ys,q.1,q.2⟩,λv H' l=> ?_⟩
  obtain⟨rfl,k⟩:=l;exact hs i v ys H' (k xs g) h f
section
variable {X:Cx} {pins:List (Addr×Obj)} {σ:St} {H:Hp} {s:Shared} {d:Addr} {ob:Obj} {kvs:List (Key×V)}
theorem Inv.freeze (I:Inv X pins σ H s) (hd:H d=some (.dK kvs)) (ho:s.heap.get? d=some ob):Inv X pins σ (upd H d (.frz ob (.dK kvs))) s:=by
 have nn:∀b,H b=none->b≠d:=λb e z=>by rw[z,hd] at e;cases e
 have nt:∀b xs,H b=some (.tup xs)->b≠d:=λb xs e z=>by rw[z,hd] at e;cases e
 have nf:∀b o u,H b=some (.frz o u)->b≠d:=λb o u e z=>by rw[z,hd] at e;cases e
 have nb:∀b ps,H b=some (.tbl ps)->b≠d:=λb ps e z=>by rw[z,hd] at e;cases e
 have no:∀b y,H b=some (.own y)->b≠d:=λb y e z=>by rw[z,hd] at e;cases e
 refine⟨I.ok,I.os,I.bare,⟨I.base.keep,I.base.slot,λb o q n h=> ?_, I.base.there,λb xs q=> ?_, λb o u q=> ?_, λb ps q=> ?_⟩,I.loc,I.cell,?_, λx c e=> ?_, λp g=> ?_, λb u e=> ?_, I.len⟩
 ·have:=I.base.free b o q n h;rw[a_i (nn b this)];exact this
 ·have:=I.base.tups b xs q;rw[a_i (nt b _ this)];exact this
 ·have:=I.base.frzs b o u q;rw[a_i (nf b _ _ this)];exact this
 ·obtain⟨more,this⟩:=I.base.tbls b ps q;exact⟨more,by rw[a_i (nb b _ this)];exact this⟩
 ·rw[a_i (nn _ I.free)];exact I.free
 ·rw[a_i (nn _ (I.freeC x c e))];exact I.freeC x c e
 ·obtain⟨a,b,r⟩:=I.pin p g
  exact⟨a,by rw[a_i (nn _ b)];exact b,r⟩
 ·by_cases f:b=d
  ·subst f
   rw[a_b] at e;cases e;exact⟨ho,I.hok b _ hd⟩
  ·rw[a_i f] at e
   exact (I.hok b u e).stay (λ_ _ _ q=>q) (λc q=>by rw[a_i (no c _ q)];exact q) λc xs q=>by rw[a_i (nt c _ q)];exact q
theorem Inv.thaw (I:Inv X pins σ H s) (hd:H d=some (.frz ob (.dK kvs))) (hF:∀o u,X.H₀ d≠some (.frz o u)):Inv X pins σ (upd H d (.dK kvs)) s:=by
 have nn:∀b,H b=none->b≠d:=λb e z=>by rw[z,hd] at e;cases e
 have nt:∀b xs,H b=some (.tup xs)->b≠d:=λb xs e z=>by rw[z,hd] at e;cases e
 have nb:∀b ps,H b=some (.tbl ps)->b≠d:=λb ps e z=>by rw[z,hd] at e;cases e
 have no:∀b y,H b=some (.own y)->b≠d:=λb y e z=>by rw[z,hd] at e;cases e
 refine⟨I.ok,I.os,I.bare,⟨I.base.keep,I.base.slot,λb o q n h=> ?_, I.base.there,λb xs q=> ?_, λb o u q=> ?_, λb ps q=> ?_⟩,I.loc,I.cell,?_, λx c e=> ?_, λp g=> ?_, λb u e=> ?_, I.len⟩
 ·have:=I.base.free b o q n h;rw[a_i (nn b this)];exact this
 ·have:=I.base.tups b xs q;rw[a_i (nt b _ this)];exact this
 ·rw[a_i (λz=>hF o u (by rw[<-z];exact q))];exact I.base.frzs b o u q
 ·obtain⟨more,this⟩:=I.base.tbls b ps q;exact⟨more,by rw[a_i (nb b _ this)];exact this⟩
 ·rw[a_i (nn _ I.free)];exact I.free
 ·rw[a_i (nn _ (I.freeC x c e))];exact I.freeC x c e
 ·obtain⟨a,b,r⟩:=I.pin p g
  exact⟨a,by rw[a_i (nn _ b)];exact b,r⟩
 ·by_cases f:b=d
  ·subst f
   rw[a_b] at e;cases e;exact (I.hok b _ hd).2
  ·rw[a_i f] at e
   exact (I.hok b u e).stay (λ_ _ _ q=>q) (λc q=>by rw[a_i (no c _ q)];exact q) λc xs q=>by rw[a_i (nt c _ q)];exact q
end
def q_A (t:TS):TS:=λD σ H=>∃d kvs,H d=some (.dK kvs)/\t { D with nx:=λσ' H1=>∃ob,H1 d=some (.frz ob (.dK kvs))/\D.nx σ' (upd H1 d (.dK kvs)) } σ H
theorem n_5 {X:Cx} {st:Stmt} {t:TS} (h:PS X st t):PS X st (q_A t):=by
 rintro pins s σ H D I ⟨d,kvs,a,q⟩
 have b:∀o u,X.H₀ d≠some (.frz o u):=λo u e=>by
  have:=I.base.frzs d o u e;rw[a] at this;cases this
 refine thn (h pins s σ H _ I q) λf c r=> ?_;cases f with
 | next=>obtain⟨σ',H',I',ob,e,q'⟩:=r;exact⟨σ',_,I'.thaw e b,q'⟩
 | brk=>exact r
 | cont=>exact r
 | ret u=>exact r
def Itv (d:Addr) (ob:Obj) (kvs:List (Key×V)):It:=
 ⟨λi H=>H d=some (.frz ob (.dK kvs))/\i < kvs.length,λi H x H'=>H'=H/\∃k,kvs[i]? =some (k,x),λi H=>H d=some (.frz ob (.dK kvs))/\kvs.length<=i⟩
theorem l_8 {X:Cx} {pins:List (Addr×Obj)} {σ:St} {H:Hp} {s:Shared} {d:Addr} {ob:Obj} {es:Array DictEntry} {ep:Nat} {kvs:List (Key×V)} (I:Inv X pins σ H s) (hd:H d=some (.frz ob (.dK kvs))) (he:ob.data= .dict es ep):∃vs,KV kvs vs/\s.heap.DictAt (a_Y X.prog X.w) d vs ep:=by
 obtain⟨e,_,_,vs,rel,o,es',ep',b,f,a,c⟩:=I.hok d _ hd;rw[e] at b;cases b;rw[he] at a;cases a;exact⟨vs,rel,ob,es,e,f,he,c⟩
theorem j_k {P:Program} {w:World} {K:PySem.W.Frag} {tg:Expr} (d it:Addr) {ob:Obj} {es:Array DictEntry} {ep:Nat} (kvs:List (Key×V)) (he:ob.data= .dict es ep):p_W P w K tg (Itv d ob kvs) [it] it (λi h=>h.IsValIter it d i kvs.length ep) where
 mem:=by simp
 obj:=λi h st b f=>by
  have e:b=it:=by simpa using f
  subst e;obtain⟨o,e,c,d⟩:=st;exact⟨o,e,λv z=>by rw[d] at z;cases z⟩
 keep:=λi h l st k=>by
  obtain⟨o,e,r⟩:=st;exact⟨o,k it (by simp) o e,r⟩
 item:=by
  intro X B x M O i pins s σ H E I m st G;subst B x M;obtain⟨hd,R⟩:=G;obtain⟨vs,rel,dat⟩:=l_8 I hd he;have g:kvs.length=vs.length:=Paired.length rel;obtain⟨k,v,hv⟩:∃k v,kvs[i]? =some (k,v):=⟨_,_,r_Y R⟩
  have L:∃u,vs[i]? =some (k,u)/\RelV v u:=by
   have aux:∀{C:List (Key×V)} {A:List (Key×Value)} {j:Nat},KV C A->C[j]? =some (k,v)->∃u,A[j]? =some (k,u)/\RelV v u:=by
    intro C A j h;induction h generalizing j with
    | nil=>intro e;simp at e
    | cons a t ih=>
      intro e;cases j with
      | zero=>
        simp at e;obtain⟨N,Q⟩:=a;rw[e] at N Q;rename_i q _ _;obtain⟨Z,Y⟩:=q;exact⟨Y,by simp;exact N.symm,Q⟩
      | succ j=>exact ih (by simpa using e)
   exact aux rel hv
  obtain⟨u,T,ru⟩:=L;obtain⟨J,F,S,n,p,y⟩:=m it (by simp);rw[g] at st;refine wpAny_pyNext_values_item st dat T λl st' sb=> ?_;have U:Inv X pins σ H { s with heap:=l }:=I.turned (t':=s.toks) (λb o f e=>(sb.2 b f).trans e) J F n p y;obtain⟨o,e,c,dd⟩:=id st';exact⟨u,rfl,m_X (s:={ s with heap:=l }) e c dd (by decide) ⟨v,H,U,ru,⟨rfl,k,hv⟩,by rw[g];exact st',λb f=>(m b f).1⟩⟩
 done:=by
  intro X B x M O i pins s σ H E I m st G;subst B x M;obtain⟨hd,R⟩:=G;obtain⟨vs,rel,dat⟩:=l_8 I hd he;have g:kvs.length=vs.length:=Paired.length rel;obtain⟨J,F,S,n,p,y⟩:=m it (by simp);rw[g] at st;exact wpAny_pyNext_values_end (I.ok.hd O) st dat (by simp;omega) λl eb=>⟨rfl,I.turned (t':=s.toks) (λb o f e=>eb b o f e) J F n p y⟩
 self:=λ_ _ _ _ _ st h=>wpAny_pyIter_valiter st h
def p_4 (to:TE):TI:=λσ H R=>to σ H λx H1=>∃d kvs,x=V.ref d/\H1 d=some (.dK kvs)/\∀ob,R (Itv d ob kvs) (upd H1 d (.frz ob (.dK kvs)))
theorem j_f {X:Cx} {tg o:Expr} {to:TE} {apos cpos:Pos} (ho:PE X o to) (hbase:attributeBase o "values" X.env (eval o X.env)=eval o X.env:=by rfl) (hline:(apos.endLine == cpos.line)=true:=by rfl):PI X tg (.Call (.Attribute o "values" apos) [] [] cpos) (p_4 to):=by
 intro pins s σ H R I h;refine wpAny_Call_method0_late hbase hline (thn (ho pins s σ H _ I h) λv a ⟨x,y,f,k,n⟩=> ?_);obtain⟨d,kvs,rfl,g,q⟩:=n;obtain⟨E,A⟩:=k_m f k (T:="dict") (.inr (.inr (.inl ⟨rfl,.inl ⟨_,g⟩⟩)));cases k;obtain⟨z,j,vs,rel,dd⟩:=i_L f.hok g;have r:kvs.length=vs.length:=Paired.length rel;refine⟨"dict",_,PySem.F.plainAttrs_dict,PySem.F.slot_dict_values,PySem.F.type_dict_values,E,A,Calls.callWith_builtin rfl (PySem.evalArgs_none (call_meetsIn PySem.F.slot_dict_values dd.typeIs PySem.F.entry_dict_values (PySem.F.args_dict_values_1 _) (meets_dict_values (a_Y X.prog X.w) d j) ⟨⟨vs,dd⟩,?_⟩))⟩;obtain⟨ob,es,ep,m,C,l,B⟩:=id dd;refine wpAny_pyIter_values (knd:=a_Y X.prog X.w) (kvs:=vs) (ep:=ep) ⟨_,Heap.get?_push_size _ rfl,rfl,rfl⟩ ⟨ob,es,Heap.get?_push_of_some _ m,C,l,B⟩ ?_;have u:Inv X pins σ y _:=f.kept (t':=a.toks) (h':=(a.heap.push { cls:= .type "dict_values",data:= .fields #[.ref d] }).push { cls:= .type "dict_valueiterator",data:= .fields #[.ref d,.int 0 0,.int vs.length 0,.int ep 0] }) λb o e=>Heap.get?_push_of_some _ (Heap.get?_push_of_some _ e);have t:=u.freeze g (Heap.get?_push_of_some _ (Heap.get?_push_of_some _ m));refine⟨(a.heap.push { cls:= .type "dict_values",data:= .fields #[.ref d] }).objs.size, [(a.heap.push { cls:= .type "dict_values",data:= .fields #[.ref d] }).objs.size],_,_,_,rfl,t,j_k d _ kvs l,⟨_,Heap.get?_push_size _ rfl,rfl,by rw[r];rfl⟩,λb p=> ?_, q ob⟩;have e:b=(a.heap.push { cls:= .type "dict_values",data:= .fields #[.ref d] }).objs.size:=by simpa using p
 subst e;have i:a.heap.objs.size<=(a.heap.push { cls:= .type "dict_values",data:= .fields #[.ref d] }).objs.size:=by rw[Heap.size_push];exact Nat.le_succ _
 have c:=f.hok.fresh i;exact f.fpOk i (by rw[a_i (λzz=>by rw[zz,g] at c;cases c)];exact c)
theorem j_d {d D:Addr} {ob:Obj} {kvs:List (Key×V)} {σ:St} {js:List Nat} {tt:TT} {te:TE} {QQ:Hp->Prop} {H:Hp} (Pv:Nat->List V->Hp->Prop) (h0:Pv 0 [] (upd H D (.lst [])))
 (hl:∀i ys H,i<=kvs.length->H D=some (.lst ys)->Pv i ys H->H d=some (.frz ob (.dK kvs)))
 (hs:∀i k v ys H,kvs[i]? =some (k,v)→H D=some (.lst ys)→Pv i ys H→tt (b_r σ js (some v)) H fun b H2=>
   if b=true then te (b_r σ js (some v)) H2 λy H3=>H3 D=some (.lst ys)/\ys.length < sizeLine/\Pv (i+1) (ys++ [y]) (upd H3 D (.lst (ys++ [y]))) else H2 D=some (.lst ys)/\Pv (i+1) ys H2)
 (hd:∀ys H,H D=some (.lst ys)->Pv kvs.length ys H->QQ H):
 ∃W:Nat->Nat->Hp->Prop,(∃m,W 0 m (upd H D (.lst [])))/\e_U (Itv d ob kvs) D σ js tt te QQ W:=by
 refine⟨λi m H=>i<=kvs.length/\m=kvs.length - i/\∃ys,H D=some (.lst ys)/\Pv i ys H,⟨_,s_p _,rfl, [],a_b,h0⟩,?_⟩;rintro i m j ⟨o,rfl,ys,g,f⟩;have h:=hl i ys j o g f;by_cases e:i=kvs.length
 ·subst e
  exact .inl ⟨⟨h,r_6 _⟩,hd ys j g f⟩
 ·have a:i < kvs.length:=by omega
  refine .inr ⟨⟨h,a⟩,λy H3=>H3 D=some (.lst ys)/\ys.length < sizeLine/\Pv (i+1) (ys++ [y]) (upd H3 D (.lst (ys++ [y]))),λH2=>H2 D=some (.lst ys)/\Pv (i+1) ys H2,
   λy H3 c=>⟨ys,c.1,c.2.1,kvs.length - (i+1),by omega,a,rfl,ys++ [y],a_b,c.2.2⟩,λH2 q=>⟨kvs.length - (i+1),by omega,a,rfl,ys,q.1,q.2⟩,λv H' n=> ?_⟩
  obtain⟨rfl,k,l⟩:=n;exact hs i k v ys H' l g f
end L2
namespace K1
open PySem L2 TO
def e_A (w:Bool):Str:=if w=true then "text" else "rank"
theorem g_G:¬ (("text":Str)="rank"):=by decide+kernel
theorem wb:¬ (("word":Str)="blocks"):=by decide+kernel
def g_g (w:Bool) (bl:Addr):List (Str×V):=d_z "blocks" (.ref bl) (d_z "word" (.str (e_A w)) [])
theorem b_M (w:Bool) (bl:Addr):(g_g w bl).lookup ("word":Str)=some (.str (e_A w)):=by
 unfold g_g;rw[b_m,if_neg wb,b_m,if_pos rfl]
theorem a_z (w:Bool) (bl:Addr):(g_g w bl).lookup ("blocks":Str)=some (.ref bl):=by
 unfold g_g;rw[b_m,if_pos rfl]
theorem a_Z (w:Bool) (bl:Addr) {m:Str} (h1:¬ m="blocks") (h2:¬ m="word"):(g_g w bl).lookup m=none:=by
 unfold g_g;rw[b_m,if_neg h1,b_m,if_neg h2]
 all_goals rfl
structure Txt (K:PySem.W.Frag) (mg:Str->Option Value) (C:Addr):Prop where
 cl:Cls K C
 nW:NoAttr K C "word"
 nB:NoAttr K C "blocks"
 mgC:mg "Order"=some (.ref C)
 rank:∃t,mg "RANK_WORD"=some (.str "rank" t)
 text:∃t,mg "TEXT_WORD"=some (.str "text" t)
 most:∃t,mg "MOST_IN_A_BLOCK"=some (.int 8 t)
 least:∃t,mg "LEAST_IN_TWO_BLOCKS"=some (.int 5 t)
 len:mg "len"=none
 min:mg "min"=none
 sum:mg "sum"=none
theorem d_T {X:Cx} {x v:Str} {t:Tok} {pos:Pos} (hm:X.mg x=some (.str v t)) (hg:Gl X x:=by rfl) (hd:(x == ("__debug__":Str))=false:=by decide):PE X (.Name x pos) (tC (.str v)):=h_p hg hm ⟨t,rfl⟩ hd
theorem o_R {X:Cx} {x:Str} {v:Int} {t:Tok} {pos:Pos} (hm:X.mg x=some (.int v t)) (hg:Gl X x:=by rfl) (hd:(x == ("__debug__":Str))=false:=by decide):PE X (.Name x pos) (tC (.int v)):=h_p hg hm ⟨t,rfl⟩ hd
structure Gf (K:PySem.W.Frag) (mg:Str->Option Value) (x:Str) (f:Addr) (fd:FuncData) (ps:List Str):Prop where
 mg:mg x=some (.ref f)
 kp:PySem.W.keepIn K (.ref f)=true
 b:Binds K fd ps []
section
variable {P:Program} {w:World} {K:PySem.W.Frag} {mg:Str->Option Value} {base:Heap}
def r_e:Sp:=λvs H Q _=>∃w,vs= [.str (e_A w)]/\Q .non H
theorem q_4:a_s ["word"] ["word"] (a_n sCW):=⟨rfl,rfl,rfl,by decide+kernel,rfl,by decide+kernel,by decide+kernel⟩
theorem q_r {f C:Addr} {fd:FuncData} (F:Fun K "check_word" "check_word" sCW f fd) (T:Txt K mg C):FnOk P w K mg base CX0 1 f fd ["word"] r_e:=by
 refine F.ok q_4 (λvs H Q E h=> ?_) (λcdv A outer s H vs Q E e h=> ?_)
 ·obtain⟨w,rfl,_⟩:=h
  rfl
 ·obtain⟨w,rfl,k⟩:=h
  obtain⟨d,b⟩:=T.rank;obtain⟨c,a⟩:=T.text;refine⟨_,a_f (a_C (PW.pt (e_O (a_m d_m (pv 0) (d_T b) (a_q _)) (c_X (a_m d_m (pv 0) (d_T a) (a_q _))))) (a_f l_k) a_p),?_⟩;refine⟨_,rfl,rfl,_,rfl,?_⟩;cases w with
  | false=>exact k
  | true=>
    refine a_x (λ_=> ?_) (λ_=>k);refine⟨_,rfl,rfl,_,rfl,?_⟩;exact k
def k_G:Sp:=λvs H Q _=>∃w a ρ,vs= [.str (e_A w),.ref a]/\RowAt H a ρ/\Q (c_t w ρ) H
theorem p_f:a_s ["word","row"] ["word","row"] (a_n n_F):=⟨rfl,rfl,rfl,by decide+kernel,rfl,by decide+kernel,by decide+kernel⟩
theorem m_H {f C:Addr} {fd:FuncData} (F:Fun K "lead_of" "lead_of" n_F f fd) (T:Txt K mg C):FnOk P w K mg base CX0 1 f fd ["word","row"] k_G:=by
 refine F.ok p_f (λvs H Q E h=> ?_) (λcdv A outer s H vs Q E e h=> ?_)
 ·obtain⟨w,a,ρ,rfl,_⟩:=h
  rfl
 ·obtain⟨w,a,ρ,rfl,b,k⟩:=h
  obtain⟨d,c⟩:=T.rank
  refine⟨_,a_c (a_C (a_m a_J (pv 0) (d_T c) (a_q _)) (a_f (a_o (a_r (a_j K) (pv 1) a_g (λ_ _=>rfl)))) a_p)
   (a_f (a_o (a_r (a_j K) (pv 1) a_g (λ_ _=>rfl)))),?_⟩
  refine⟨_,rfl,rfl,_,rfl,?_⟩;cases w with
  | false=>exact⟨_,rfl,a,_,_,_,rfl,rfl,SqT.of b,a_e (j:=1) rfl,k⟩
  | true=>exact⟨_,rfl,a,_,_,_,rfl,rfl,SqT.of b,a_e (j:=2) rfl,k⟩
def g_R:Sp:=λvs H Q _=>∃w a ρ,vs= [.str (e_A w),.ref a]/\RowAt H a ρ/\∀k,H k=none->Q (.ref k) (upd H k (.tup (a_I w ρ)))
theorem q_v:a_s ["word","row"] ["word","row"] (a_n q_b):=⟨rfl,rfl,rfl,by decide+kernel,rfl,by decide+kernel,by decide+kernel⟩
theorem p_F {f fL C:Addr} {fd fdL:FuncData} (F:Fun K "key_of" "key_of" q_b f fd) (T:Txt K mg C) (gL:Gf K mg "lead_of" fL fdL ["word","row"]) (GL:FnOk P w K mg base CX0 1 fL fdL ["word","row"] k_G):
 FnOk P w K mg base CX0 2 f fd ["word","row"] g_R:=by
 refine F.ok q_v (λvs H Q E h=> ?_) (λcdv A outer s H vs Q E d h=> ?_)
 ·obtain⟨w,a,ρ,rfl,_⟩:=h
  rfl
 ·obtain⟨w,a,ρ,rfl,c,k⟩:=h
  refine⟨_,a_f (a_o (a_H (a_a (a_k GL d rfl gL.mg gL.kp gL.b .nil a_u (a_a (pv 0) (a_a (pv 1) a_d))) (a_a (a_r (a_j K) (pv 1) a_g (λ_ _=>rfl)) a_d)))),?_⟩;refine⟨_,rfl,_,rfl,w,a,ρ,rfl,c,?_⟩;exact⟨_,rfl,a,_,_,_,rfl,rfl,SqT.of c,a_e (j:=0) rfl,by show 2<=sizeLine;decide,k⟩
structure OrdAt (C:Addr) (w:Bool) (H:Hp) (o bl:Addr) (bas:List Addr) (B:List (List Row)):Prop where
 ob:∃dx,H o=some (.ins C dx (g_g w bl))
 ls:H bl=some (.lst (bas.map .ref))
 bs:Paired (LstAt H) bas B
 nd:(bl::bas).Nodup
structure Stp (H H':Hp) (fp fp':List Addr):Prop where
 keep:∀b u,H b=some u->b∉fp->H' b=some u
 new:∀b∈fp',b∈fp\/H b=none
theorem Stp.of_same {H H':Hp} {fp:List Addr} (s:Same H H'):Stp H H' fp fp:=⟨λb u h _=>s b u h,λb h=> .inl h⟩
theorem OrdAt.same {C:Addr} {w:Bool} {H H':Hp} {o bl:Addr} {bas:List Addr} {B:List (List Row)} (h:OrdAt C w H o bl bas B) (s:Same H H'):OrdAt C w H' o bl bas B:=by
 obtain⟨⟨dx,h1⟩,h2,h3,h4⟩:=h;exact⟨⟨dx,s _ _ h1⟩,s _ _ h2,Paired.mapP h3 λ_ _ q=>q.sameS s,h4⟩
theorem a_U {α β:Type} {F:α->β->Prop}:∀{l₁:List α} {l₂:List β} {i:Nat} {b:β},Paired F l₁ l₂->l₂[i]? =some b->∃a,l₁[i]? =some a/\F a b
 | _,_,_,_,.nil,e=>by simp at e
 | _,_,0,_,.cons r _,e=>by simp at e;subst e;exact⟨_,rfl,r⟩
 | _,_,i+1,_,.cons _ t,e=>by
   obtain⟨u,d,c⟩:=a_U (i:=i) t (by simpa using e);exact⟨u,by simpa using d,c⟩
theorem Same.upd_new {H:Hp} {a:Addr} {o:HO} (h:H a=none):Same H (upd H a o):=λb u e=>by rw[a_i (a_h e h)];exact e
theorem i_6 {α:Type} {P:α->Bool}:∀{l:List α} {i:Nat},(∀x∈l.take i,P x=true)->i<=l.length->(i=l.length\/∃x,l[i]? =some x/\P x=false)->(l.takeWhile P).length=i
 | [],i,_,h,_=>by simp at h;subst h;rfl
 | x::r,0,_,_,h=>by
   rcases h with h | ⟨y,b,c⟩
   ·simp at h
   ·simp at b;subst b;simp[c]
 | x::r,i+1,b,c,a=>by
   have f:P x=true:=b x (by simp);rw[List.takeWhile_cons];simp only[f,if_true,r_3];congr 1;refine i_6 (λy e=>b y (by simp[e])) (by simpa using c) ?_;rcases a with a | ⟨y,a,d⟩
   ·left;simpa using a
   ·right;exact⟨y,by simpa using a,d⟩
def p_1 (C:Addr):Sp:=λvs H Q _=>∃(w:Bool) (o bl dx b k:Addr) (ρs:List Row) (q:List V),vs= [.ref o,.ref b,.ref k]/\H o=some (.ins C dx (g_g w bl))/\LstAt H b ρs/\H k=some (.tup q)/\(∀ρ,d_Q (a_I w ρ) q)/\
 ∀H',Same H H'->Q (.int (ρs.takeWhile λx=>b_c (a_I w x) q).length) H'
theorem q_M:a_s ["self","block","key","ahead"] ["self","block","key"] (a_n sRA):=⟨rfl,rfl,rfl,by decide+kernel,rfl,by decide+kernel,by decide+kernel⟩
theorem q_o {f fK C:Addr} {fd fdK:FuncData} (F:Fun K "rows_ahead" "Order.rows_ahead" sRA f fd) (T:Txt K mg C) (gK:Gf K mg "key_of" fK fdK ["word","row"]) (GK:FnOk P w K mg base CX0 2 fK fdK ["word","row"] g_R):
 FnOk P w K mg base CX0 3 f fd ["self","block","key"] (p_1 C):=by
 refine F.ok q_M (λvs H Q E h=> ?_) (λcdv A outer s H vs Q E r h=> ?_)
 ·obtain⟨w,o,bl,dx,b,k,ρs,q,rfl,_⟩:=h
  rfl
 ·obtain⟨w,o,bl,dx,b,k,ρs,q,rfl,R,⟨as,u,G⟩,O,B,fin⟩:=h
  have X:=e_V r
  refine⟨_,a_c (a_w (i:=3) q_M.nd rfl (Or.inl rfl) a_g)
   (a_c (d_x PassesOwn.never (PW.pt (e_O (a_m e_R (pv 3) (a_t (a_B K) (by rfl) T.len s_G (a_a (pv 1) a_d)) (a_q _))
     (c_X (a_m (i_8 r.units0) (a_k GK r rfl gK.mg gK.kp gK.b .nil a_u (a_a (a_E (pv 0) rfl) (a_a (a_r (a_G K) (pv 1) (pv 3) (λ_ _=>rfl)) a_d))) (pv 2) (a_q _)))))
     (a_f (a_w (i:=3) q_M.nd rfl (Or.inl rfl) (a_v a_V (pv 3) a_g))))
   (a_f (a_o (pv 3)))),?_⟩
  have L:=G.len
  refine⟨λm σ v=>∃i:Nat,σ= [some (.ref o),some (.ref b),some (.ref k),some (.int i)]/\Same H v/\i<=ρs.length/\m=ρs.length - i/\∀x∈ρs.take i,b_c (a_I w x) q=true,
   ⟨_,0,rfl,Same.refl _,s_p _,rfl,by simp⟩,?_⟩
  rintro m σ v ⟨i,rfl,d,I,rfl,n⟩;refine⟨_,rfl,_,rfl,b,_,rfl,.inl (SqL.of (d _ _ u)),_,_,rfl,rfl,_,rfl,?_⟩;refine a_x (λc=> ?_) (λc=> ?_)
  ·have g:i < ρs.length:=by
    have:=s_F c;simp only[r_X] at this;omega
   obtain⟨x,hx⟩:∃x,ρs[i]? =some x:=⟨_,r_Y g⟩;obtain⟨a,N,t⟩:=G.get hx;refine⟨_,rfl,o,C,dx,_,_,rfl,d _ _ R,T.cl,T.nW,b_M _ _,_,rfl,_,rfl,b,_,_,_,rfl,rfl,SqL.of (d _ _ u),a_e (j:=i) (by rw[r_9,N];rfl),w,a,x,rfl,d _ _ t,λk' l=> ?_⟩;refine⟨_,rfl,k',k,_,_,rfl,rfl,SqT.of a_b,SqT.of ((Same.upd_new l) _ _ (d _ _ O)),B x,_,rfl,?_⟩;refine a_x (λp=> ?_) (λp=> ?_)
   ·refine⟨λσ' H'=>∃i':Nat,i < i'/\σ'= [some (.ref o),some (.ref b),some (.ref k),some (.int i')]/\Same H H'/\i'<=ρs.length/\∀x∈ρs.take i',b_c (a_I w x) q=true,?_, ?_⟩
    ·rintro σ' H' ⟨i',W,M,S,J,U⟩
     exact⟨ρs.length - i',by omega,i',M,S,J,rfl,U⟩
    ·refine⟨_,rfl,_,_,rfl,rfl,i+1,by omega,rfl,d.trans (Same.upd_new l),g,λy e=> ?_⟩
     rw[s_o,hx] at e;rcases s_f.mp e with e | e
     ·exact n y e
     ·simp at e;subst e;exact p
   ·refine⟨_,rfl,?_⟩
    rw[<-i_6 (P:=λx=>b_c (a_I w x) q) n I (.inr ⟨x,hx,by simpa using p⟩)];exact fin _ (d.trans (Same.upd_new l))
  ·refine i_W ?_
   refine⟨_,rfl,?_⟩
   have g:i=ρs.length:=by
    have:¬ ((i:Int) < _):=λz=>c (s_D z);simp only[r_X] at this;omega
   rw[<-i_6 (P:=λx=>b_c (a_I w x) q) n I (.inl g)];exact fin _ d
def b_o (w:Bool) (q:List V) (b:List Row):Bool:=match b.getLast? with
 | some z=>b_c (a_I w z) q
 | none=>false
theorem e_m {w:Bool} {q:List V} {B:List (List Row)} (hs:Srt (ltR w) B.flatten) (hne:∀b∈B,b≠ []) {i j:Nat} {b c:List Row} (hi:B[i]? =some b) (hj:B[j]? =some c) (hij:i<=j) (h:b_o w q c=true):b_o w q b=true:=by
 by_cases e:i=j
 ·subst e;rw[hi] at hj;cases hj;exact h
 ·obtain⟨l₁,l₂,rfl,rfl⟩:=d_6 hi
  have d:=hne b (by simp)
  have a:c∈l₂:=by
   rw[List.getElem?_append_right (by omega)] at hj;obtain⟨k,hk⟩:∃k,j - l₁.length=k+1:=⟨j - l₁.length - 1,by omega⟩;rw[hk,List.getElem?_cons_succ] at hj;exact s_n hj
  unfold b_o at h ⊢;cases eb:b.getLast? with
  | none=>rw[List.getLast?_eq_none_iff] at eb;exact absurd eb d
  | some z=>
    cases ec:c.getLast? with
    | none=>rw[ec] at h;cases h
    | some y=>
      rw[ec] at h;rw[s_k,s_q,Srt.app] at hs;have zb:z∈b:=by obtain⟨ys,rfl⟩:=List.getLast?_eq_some_iff.mp eb;simp
      have yc:y∈l₂.flatten:=List.mem_flatten.mpr ⟨c,a,by obtain⟨ys,rfl⟩:=List.getLast?_eq_some_iff.mp ec;simp⟩;exact b_0 w q z y ((Srt.app.mp hs.2.1).2.2 z zb y yc) h
def o_W (C:Addr):Sp:=λvs H Q _=>∃(w:Bool) (o bl k:Addr) (bas:List Addr) (B:List (List Row)) (q:List V),vs= [.ref o,.ref k]/\OrdAt C w H o bl bas B/\H k=some (.tup q)/\(∀ρ,d_Q (a_I w ρ) q)/\Srt (ltR w) B.flatten/\(∀b∈B,b≠ [])/\
 ∀(B₁ B₂:List (List Row)) H',Same H H'->B=B₁++B₂->(∀b∈B₁,b_o w q b=true)->(∀b∈B₂,b_o w q b=false)->Q (.int B₁.length) H'
theorem o_u:a_s ["self","key","low","high","middle"] ["self","key"] (a_n sBA):=⟨rfl,rfl,rfl,by decide+kernel,rfl,by decide+kernel,by decide+kernel⟩
theorem q_S {f fK C:Addr} {fd fdK:FuncData} (F:Fun K "blocks_ahead" "Order.blocks_ahead" sBA f fd) (T:Txt K mg C) (gK:Gf K mg "key_of" fK fdK ["word","row"]) (GK:FnOk P w K mg base CX0 2 fK fdK ["word","row"] g_R):
 FnOk P w K mg base CX0 3 f fd ["self","key"] (o_W C):=by
 refine F.ok o_u (λvs H Q E h=> ?_) (λcdv A outer s H vs Q E Z h=> ?_)
 ·obtain⟨w,o,bl,k,bas,B,q,rfl,_⟩:=h
  rfl
 ·obtain⟨w,o,bl,k,bas,B,q,rfl,O,hk,hal,hs,r,fin⟩:=h
  obtain⟨⟨dx,R⟩,x,G,hnd⟩:=id O
  refine⟨_,a_c (a_w (i:=2) o_u.nd rfl (Or.inl rfl) a_g)
   (a_c (a_w (i:=3) o_u.nd rfl (Or.inl rfl) (a_t (a_B K) (by rfl) T.len s_G (a_a (a_E (pv 0) rfl) a_d)))
   (a_c (d_x PassesOwn.never (a_m e_R (pv 2) (pv 3) (a_q _))
     (a_c (a_w (i:=4) o_u.nd rfl (Or.inl rfl) (a_v a_3 (a_v a_V (pv 2) (pv 3)) a_g))
     (a_f (a_C (a_m (i_8 Z.units0) (a_k GK Z rfl gK.mg gK.kp gK.b .nil a_u (a_a (a_E (pv 0) rfl) (a_a (a_r (a_G K) (a_r (a_G K) (a_E (pv 0) rfl) (pv 4) (fun _ _=>rfl)) (n_8 j_C a_g) (fun _ _=>rfl)) a_d))) (pv 1) (a_q _))
       (a_f (a_w (i:=2) o_u.nd rfl (Or.inl rfl) (a_v a_V (pv 4) a_g)))
       (a_f (a_w (i:=3) o_u.nd rfl (Or.inl rfl) (pv 4)))))))
   (a_f (a_o (pv 2))))),?_⟩
  have M:bas.length=B.length:=Paired.length G;refine⟨_,rfl,o,C,dx,_,_,rfl,R,T.cl,T.nB,a_z _ _,bl,_,rfl,.inl (SqL.of x),?_⟩
  refine⟨λm σ W=>∃(lo d:Nat) (v:Option V),σ= [some (.ref o),some (.ref k),some (.int lo),some (.int d),v]/\Same H W/\lo<=d/\d<=B.length/\m=d - lo/\(∀i b,i < lo->B[i]? =some b->b_o w q b=true)/\(∀i b,d<=i->B[i]? =some b->b_o w q b=false),
   ⟨_,0,B.length,none,by simp[L2.start,M],Same.refl _,s_p _,r_6 _,rfl,λ_ _ h=>by omega,λi b u n=> ?_⟩,?_⟩
  ·rw[List.getElem?_eq_none_iff.mpr u] at n;cases n
  rintro m σ W ⟨lo,d,v,rfl,j,u,n,rfl,h3,h4⟩;refine⟨_,rfl,_,rfl,_,_,rfl,rfl,_,rfl,?_⟩;refine a_x (λc=> ?_) (λc=> ?_)
  ·have I:lo < d:=by have:=s_F c;omega
   refine⟨λσ' H'=>∃(lo' g:Nat) (v:Option V),σ'= [some (.ref o),some (.ref k),some (.int lo'),some (.int g),v]/\Same H H'/\lo'<=g/\g<=B.length/\g - lo' < d - lo/\(∀i b,i < lo'->B[i]? =some b->b_o w q b=true)/\(∀i b,g<=i->B[i]? =some b->b_o w q b=false),?_, ?_⟩
   ·rintro σ' H' ⟨lo',g,v',e1,e2,e3,e4,e5,e6,e7⟩
    exact⟨g - lo',e5,lo',g,v',e1,e2,e3,e4,rfl,e6,e7⟩
   have hm1:(lo+d) / 2 < B.length:=by omega
   obtain⟨b,l⟩:∃b,B[(lo+d) / 2]? =some b:=⟨_,r_Y hm1⟩;obtain⟨a,ha,as,Y,L⟩:=a_U G l;have J:=r b (s_n l);obtain⟨ys,z,rfl⟩:∃ys z,b=ys++ [z]:=⟨b.dropLast,b.getLast J,(List.dropLast_concat_getLast J).symm⟩
   obtain⟨as',az,rfl,hza⟩:∃as' az,as=as'++ [az]/\RowAt H az z:=by
    have S:=L.len;rw[r_Z,s_v] at S;have X:as≠ []:=by intro e;subst e;simp at S
    refine⟨as.dropLast,as.getLast X,(List.dropLast_concat_getLast X).symm,?_⟩;obtain⟨az,u,n⟩:=L.get (i:=ys.length) (ρ:=z) (by simp)
    have:as.getLast X=az:=by
     rw[List.getLast_eq_getElem];have:as[as.length - 1]? =some az:=by rw[S,Nat.add_sub_cancel];exact u
     rw[r_Y (by omega)] at this;exact r_4 this
    rw[this];exact n
   have t:((lo:Int)+(d:Int)) / 2=(((lo+d) / 2:Nat):Int):=by omega
   refine⟨_,rfl,_,rfl,_,_,rfl,rfl,_,_,rfl,rfl,⟨by decide,by decide⟩,?_⟩;refine⟨_,rfl,o,C,dx,_,_,rfl,j _ _ R,T.cl,T.nW,b_M _ _,_,rfl,o,C,dx,_,_,rfl,j _ _ R,T.cl,T.nB,a_z _ _,_,rfl,bl,_,_,_,rfl,rfl,SqL.of (j _ _ x),(by rw[t];exact a_e (by rw[r_9,ha];rfl)),_,rfl,a,_,_,_,rfl,rfl,SqL.of (j _ _ Y),(by rw[r_5];exact k_Z _ _),w,az,z,rfl,j _ _ hza,λk' p=> ?_⟩;refine⟨_,rfl,k',k,_,_,rfl,rfl,SqT.of a_b,SqT.of ((Same.upd_new p) _ _ (j _ _ hk)),hal z,_,rfl,?_⟩;have y:b_o w q (ys++ [z])=b_c (a_I w z) q:=by unfold b_o;rw[List.getLast?_concat]
   refine a_x (λU=> ?_) (λU=> ?_)
   ·have e:((lo:Int)+d) / 2+1=(((lo+d) / 2+1:Nat):Int):=by omega
    refine⟨_,rfl,_,_,rfl,rfl,(lo+d) / 2+1,d,_,(by rw[<-e];rfl),j.trans (Same.upd_new p),by omega,n,by omega,λi c g N=> ?_, h4⟩;exact e_m hs r N l (by omega) (by rw[y];exact U)
   ·refine⟨_,rfl,lo,(lo+d) / 2,_,(by rw[<-t];rfl),j.trans (Same.upd_new p),by omega,by omega,by omega,h3,λi c g N=> ?_⟩
    cases q':b_o w q c with
    | false=>rfl
    | true=>
      have:=e_m hs r l N g q';rw[y] at this;exact absurd this U
  ·have I:lo=d:=by have:¬ (lo:Int) < d:=λz=>c (s_D z);omega
   subst I;refine⟨_,rfl,?_⟩;have hz:B=B.take lo++B.drop lo:=(s_A lo B).symm;have:=fin (B.take lo) (B.drop lo) W j hz (λb l=> ?_) (λb l=> ?_)
   ·rw[s_j,Nat.min_eq_left n] at this
    exact this
   ·obtain⟨i,d,e⟩:=List.mem_take_iff_getElem.mp l
    exact h3 i b (by omega) (by rw[<-e];exact r_Y (by omega))
   ·obtain⟨i,d,e⟩:=List.mem_drop_iff_getElem.mp l
    exact h4 (i+lo) b (by omega) (by rw[<-e,Nat.add_comm];exact r_Y (by omega))
end
def NoTup (H:Hp) (a:Addr):Prop:=∀xs,H a≠some (.tup xs)
theorem NoTup.none {H:Hp} {a:Addr} (h:H a=none):NoTup H a:=λxs e=>by rw[h] at e;cases e
theorem NoTup.lst {H:Hp} {a:Addr} {ys:List V} (h:H a=some (.lst ys)):NoTup H a:=λxs e=>by rw[h] at e;cases e
theorem NoTup.keep {H:Hp} {a:Addr} {o:HO} (h:NoTup H a):∀b xs,H b=some (.tup xs)->(upd H a o) b=some (.tup xs):=λb xs e=>by
 have hb:b≠a:=λq=>h xs (by rw[<-q];exact e);rw[a_i hb];exact e
theorem LstAt.upd {H:Hp} {a l:Addr} {o:HO} {ρs:List Row} (h:LstAt H l ρs) (hl:l≠a) (ha:NoTup H a):LstAt (upd H a o) l ρs:=h.same (a_i hl) ha.keep
theorem a_R {H:Hp} {a:Addr} {o:HO} (ha:NoTup H a):∀{bas:List Addr} {B:List (List Row)},Paired (LstAt H) bas B->(∀b∈bas,b≠a)->Paired (LstAt (upd H a o)) bas B
 | _,_,.nil,_=> .nil
 | _,_,.cons h t,hn=> .cons (LstAt.upd h (hn _ (r_1 ..)) ha) (a_R ha t λb hb=>hn b (r_0 _ hb))
theorem e_p {H:Hp}:∀{bas:List Addr} {B:List (List Row)},Paired (LstAt H) bas B->∀b∈bas,∃xs,H b=some (.lst xs)
 | _,_,.cons h t,b,hb=>by
   rcases r_8.mp hb with e | e
   ·subst e;obtain⟨as,q,_⟩:=h;exact⟨_,q⟩
   ·exact e_p t b e
theorem b_8 {H:Hp} {bas:List Addr} {B:List (List Row)} (h:Paired (LstAt H) bas B) {p:Addr} (hp:H p=none):∀b∈bas,b≠p:=λb hb e=>by
 obtain⟨xs,q⟩:=e_p h b hb;rw[e,hp] at q;cases q
theorem b_d {α β:Type} {F:α->β->Prop}:∀{B₁:List β} {l:List α} {b:β} {B₂:List β},Paired F l (B₁++b::B₂)->∃l₁ a l₂,l=l₁++a::l₂/\Paired F l₁ B₁/\F a b/\Paired F l₂ B₂
 | [],_,_,_,.cons h t=>⟨[],_,_,rfl,.nil,h,t⟩
 | c::B₁,_,_,_,.cons h t=>by
   obtain⟨l₁,a,l₂,rfl,h1,h2,h3⟩:=b_d t;exact⟨_::l₁,a,l₂,rfl,.cons h h1,h2,h3⟩
theorem a_D {α β:Type} {F:α->β->Prop}:∀{l₁ l₂:List α} {B₁ B₂:List β},Paired F l₁ B₁->Paired F l₂ B₂->Paired F (l₁++l₂) (B₁++B₂)
 | _,_,_,_,.nil,h=>h
 | _,_,_,_,.cons a t,h=> .cons a (a_D t h)
theorem h_8 {xs:List V} {h:Nat} (hh:h<=xs.length):g_Q xs none (some (h:Int))=xs.take h:=by
 unfold g_Q;rw[HT.sIx_none,HT.sIx_nat,Nat.min_eq_left hh];simp
theorem l_6 {xs:List V} {h:Nat} (hh:h<=xs.length):g_Q xs (some (h:Int)) none=xs.drop h:=by
 unfold g_Q;rw[HT.sIx_none,HT.sIx_nat,Nat.min_eq_left hh];exact s_h (by simp)
theorem i_3 {n j:Nat} (h:j < n):ixN n (j:Int)=some j:=by
 unfold ixN;rw[if_pos (by omega),if_pos (by omega)];simp
theorem l_a {α:Type} {l₁ l₂:List α} {a:α}:(l₁++a::l₂).take (l₁.length+1)=l₁++ [a]:=by
 rw[List.take_append,s_h (by omega),Nat.add_sub_cancel_left];simp
theorem l_0 {α:Type} {l₁ l₂:List α} {a:α}:(l₁++a::l₂).drop (l₁.length+1)=l₂:=by
 rw[List.drop_append,List.drop_of_length_le (by omega),Nat.add_sub_cancel_left];simp
theorem d_g {bl a:Addr} {l₁ l₂:List Addr} (h:(bl::(l₁++a::l₂)).Nodup):bl∉l₁/\bl≠a/\bl∉l₂/\a∉l₁/\a∉l₂/\(bl::(l₁++l₂)).Nodup:=by
 rw[s_r,List.nodup_append,s_r] at h;obtain⟨b,g,⟨f,d⟩,c⟩:=h;simp only[s_f,r_8,not_or] at b;refine⟨b.1,b.2.1,b.2.2,λz=>c a z a (r_1 ..) rfl,f,?_⟩;rw[s_r,List.nodup_append];refine⟨?_, g,d,λx i y e=>c x i y (r_0 _ e)⟩;simp only[s_f,not_or];exact⟨b.1,b.2.2⟩
theorem j_E {bl a:Addr} {l₁ l₂:List Addr} (h:(bl::(l₁++l₂)).Nodup) (h1:a≠bl) (h2:a∉l₁) (h3:a∉l₂):(bl::(l₁++a::l₂)).Nodup:=by
 rw[s_r,List.nodup_append] at h;rw[s_r,List.nodup_append,s_r];simp only[s_f,r_8,not_or] at h ⊢;refine⟨⟨h.1.1,h1.symm,h.1.2⟩,h.2.1,⟨h3,h.2.2.1⟩,λx b y c=> ?_⟩;rcases c with e | e
 ·subst e;intro e;subst e;exact h2 b
 ·exact h.2.2.2 x b y e
section
variable {P:Program} {w:World} {K:PySem.W.Frag} {mg:Str->Option Value} {base:Heap}
def j_u (C:Addr):Sp:=λvs H Q _=>∃(w:Bool) (o bl:Addr) (bas:List Addr) (B₁:List (List Row)) (b:List Row) (B₂:List (List Row)),vs= [.ref o,.int B₁.length]/\OrdAt C w H o bl bas (B₁++b::B₂)/\bas.length < 100000/\
 ∀(bas':List Addr) (H':Hp),OrdAt C w H' o bl bas' (B₁++b.take (b.length / 2)::b.drop (b.length / 2)::B₂)->Stp H H' (bl::bas) (bl::bas')->Q .non H'
theorem g_W:a_s ["self","place","block","half"] ["self","place"] (a_n j_z):=⟨rfl,rfl,rfl,by decide+kernel,rfl,by decide+kernel,by decide+kernel⟩
theorem l_G {f C:Addr} {fd:FuncData} (F:Fun K "split_block" "Order.split_block" j_z f fd) (T:Txt K mg C):FnOk P w K mg base CX0 1 f fd ["self","place"] (j_u C):=by
 refine F.ok g_W (λvs H Q E h=> ?_) (λcdv A outer s H vs Q E hr h=> ?_)
 ·obtain⟨w,o,bl,bas,B₁,b,B₂,rfl,_⟩:=h
  rfl
 ·obtain⟨w,o,bl,bas,B₁,b,B₂,rfl,O,hsz,fin⟩:=h
  obtain⟨⟨dx,t⟩,q,hbs,hnd⟩:=id O;obtain⟨l₁,a,l₂,rfl,B,⟨as,M,Y⟩,N⟩:=b_d hbs;have R:l₁.length=B₁.length:=Paired.length B;have W:=Y.len;obtain⟨n1,n2,n3,n4,n5,n6⟩:=d_g hnd
  refine⟨_,a_c (a_w (i:=2) g_W.nd rfl (Or.inl rfl) (a_r (a_G K) (a_E (pv 0) rfl) (pv 1) (λ_ _=>rfl)))
   (a_c (a_w (i:=3) g_W.nd rfl (Or.inl rfl) (a_v a_3 (a_t (a_B K) (by rfl) T.len s_G (a_a (pv 2) a_d)) a_g))
   (a_c (m_G (b_p (b_K K) (pv 2) b_6 (b_F (pv 3))) (m_k (a_E (pv 0) rfl) (pv 1) h_L))
   (a_f (a_y (b_x s_H PySem.F.slot_list_insert PySem.F.type_list_insert g_N (a_E (pv 0) rfl) (a_a (a_v a_V (pv 1) a_g) (a_a (b_p (b_K K) (pv 2) (b_F (pv 3)) b_6) a_d))))))),?_⟩
  refine⟨_,rfl,o,C,dx,_,_,rfl,t,T.cl,T.nB,a_z _ _,_,rfl,bl,_,_,_,rfl,rfl,SqL.of q,a_e (j:=B₁.length) (by rw[r_9,<-R,c_9];rfl),?_⟩;refine⟨_,rfl,a,_,rfl,.inl (SqL.of M),_,_,rfl,rfl,⟨by decide,by decide⟩,?_⟩;have eh:(((as.map V.ref).length:Int)) / 2=((b.length / 2:Nat):Int):=by rw[r_X,W];omega
  have hh:b.length / 2<=(as.map V.ref).length:=by rw[r_X,W];omega
  refine⟨_,rfl,_,rfl,_,rfl,a,_,rfl,SqL.of M,λd y=> ?_⟩;have I:o≠d:=a_h t y;have r:bl≠d:=a_h q y;have ha1:a≠d:=a_h M y;have L:o≠bl:=f_I t q (by intro z;cases z);have hoa:o≠a:=f_I t M (by intro z;cases z);refine⟨_,rfl,o,C,dx,_,_,rfl,(by rw[a_i I];exact t),T.cl,T.nB,a_z _ _,_,rfl,bl,_,_,B₁.length,rfl,rfl,(by rw[a_i r];exact q),(by rw[r_X];exact i_3 (by simp[R])),?_⟩;rw[eh,h_8 hh]
  have eset:((l₁++a::l₂).map V.ref).set B₁.length (.ref d)=(l₁++d::l₂).map V.ref:=by
   rw[<-R,r_5,s_c,r_5,s_c];have:=k_a (l₁:=l₁.map V.ref) (l₂:=l₂.map V.ref) (a:=V.ref a) (b:=V.ref d);rw[r_X] at this;exact this
  rw[eset];refine⟨_,rfl,o,C,dx,_,_,rfl,(by rw[a_i L,a_i I];exact t),T.cl,T.nB,a_z _ _,.inl ⟨rfl,_,SqL.of a_b⟩,_,rfl,_,_,rfl,rfl,_,rfl,_,rfl,_,rfl,a,_,rfl,SqL.of (by rw[a_i n2.symm,a_i ha1];exact M),λn U=> ?_⟩;rw[eh,l_6 hh];have v:bl≠n:=a_h (a_b (H:=upd H d (.lst ((as.map V.ref).take (b.length / 2)))) (o:= .lst ((l₁++d::l₂).map V.ref))) U;have S:(upd H d (.lst ((as.map V.ref).take (b.length / 2)))) n=none:=by rw[a_i v.symm] at U;exact U
  have J:d≠n:=a_h a_b S;have p:H n=none:=by rw[a_i J.symm] at S;exact S
  have ho2:o≠n:=a_h t p
  have el:((l₁++d::l₂).map V.ref).take ((B₁.length:Int)+1).toNat++V.ref n::((l₁++d::l₂).map V.ref).drop ((B₁.length:Int)+1).toNat=(l₁++d::n::l₂).map V.ref:=by
   have e1:((B₁.length:Int)+1).toNat=(l₁.map V.ref).length+1:=by rw[r_X];omega
   rw[e1];simp only[r_5,s_c];rw[l_a,l_0,List.append_assoc];rfl
  refine⟨bl,_,_,_,rfl,rfl,(by rw[a_i v];exact a_b),?_, by omega,?_, ?_⟩
  ·refine s_d (m:=100001) ?_ (by decide)
   simp only[r_X,r_Z,r_3] at hsz ⊢;omega
  ·simp only[r_X,r_Z,r_3]
   omega
  show Q .non _;rw[el];have l:∀x∈l₁,x≠d/\x≠n/\x≠bl:=λx g=>⟨b_8 B y x g,b_8 B p x g,λe=>n1 (e ▸ g)⟩;have k:∀x∈l₂,x≠d/\x≠n/\x≠bl:=λx g=>⟨b_8 N y x g,b_8 N p x g,λe=>n3 (e ▸ g)⟩;have t1:NoTup H d:=NoTup.none y;have X:NoTup (upd H d (.lst ((as.map V.ref).take (b.length / 2)))) bl:=NoTup.lst (ys:=(l₁++a::l₂).map V.ref) (by rw[a_i r];exact q);have Z:NoTup (upd (upd H d (.lst ((as.map V.ref).take (b.length / 2)))) bl (.lst ((l₁++d::l₂).map V.ref))) n:=NoTup.none U;have t4:NoTup (upd (upd (upd H d (.lst ((as.map V.ref).take (b.length / 2)))) bl (.lst ((l₁++d::l₂).map V.ref))) n (.lst ((as.map V.ref).drop (b.length / 2)))) bl:=NoTup.lst (ys:=(l₁++d::l₂).map V.ref) (by rw[a_i v];exact a_b)
  have tups:∀c xs,H c=some (.tup xs)->(upd (upd (upd (upd H d (.lst ((as.map V.ref).take (b.length / 2)))) bl (.lst ((l₁++d::l₂).map V.ref))) n (.lst ((as.map V.ref).drop (b.length / 2)))) bl (.lst ((l₁++d::n::l₂).map V.ref))) c=some (.tup xs):=
   λc xs h=>t4.keep _ _ (Z.keep _ _ (X.keep _ _ (t1.keep _ _ h)))
  refine fin (l₁++d::n::l₂) _ ⟨⟨dx,?_⟩,a_b,?_, ?_⟩ ⟨λc u G hn=> ?_, λc G=> ?_⟩
  ·rw[a_i L,a_i ho2,a_i L,a_i I];exact t
  ·refine a_D ?_ (.cons ⟨as.take (b.length / 2),?_, (Y.take _).same tups⟩ (.cons ⟨as.drop (b.length / 2),?_, (Y.drop _).same tups⟩ ?_))
   ·exact a_R t4 (a_R Z (a_R X (a_R t1 B λx g=>(l x g).1) λx g=>(l x g).2.2) λx g=>(l x g).2.1) λx g=>(l x g).2.2
   ·rw[a_i r.symm,a_i J,a_i r.symm,a_b,List.map_take]
   ·rw[a_i v.symm,a_b,List.map_drop]
   ·exact a_R t4 (a_R Z (a_R X (a_R t1 N λx g=>(k x g).1) λx g=>(k x g).2.2) λx g=>(k x g).2.1) λx g=>(k x g).2.2
  ·refine j_E (j_E n6 v.symm (λz=>(l _ z).2.1 rfl) λz=>(k _ z).2.1 rfl) r.symm (λz=>(l _ z).1 rfl) λz=> ?_
   rcases r_8.mp z with z | z
   ·exact J z
   ·exact (k _ z).1 rfl
  ·have c1:c≠bl:=λe=>hn (by rw[e];exact r_1 ..)
   rw[a_i c1,a_i (a_h G p),a_i c1,a_i (a_h G y)];exact G
  ·simp only[r_8,s_f] at G ⊢
   rcases G with e | e | e | e | e
   ·exact .inl (.inl e)
   ·exact .inl (.inr (.inl e))
   ·exact .inr (by rw[e];exact y)
   ·exact .inr (by rw[e];exact p)
   ·exact .inl (.inr (.inr (.inr e)))
end
structure Mf (K:PySem.W.Frag) (C:Addr) (m:Str) (f:Addr) (fd:FuncData) (ps:List Str):Prop where
 m:p_y K C m f
 b:Binds K fd ps []
structure GoodB (w:Bool) (B:List (List Row)):Prop where
 adj:Adj 8 (B.map List.length)
 srt:Srt (ltR w) B.flatten
theorem f_S:∀{l:List Nat} {p:Nat},Adj p l->∀n∈l,1<=n/\n<=8
 | m::r,p,⟨a,b,c,d⟩,n,hn=>by
   rcases r_8.mp hn with e | e
   ·subst e;exact⟨a,b⟩
   ·exact f_S d n e
theorem GoodB.ne {w:Bool} {B:List (List Row)} (g:GoodB w B):∀b∈B,b≠ []:=λb hb e=>by
 have:=f_S g.adj b.length (s_s.mpr ⟨b,hb,rfl⟩);rw[e] at this;simp at this
theorem GoodB.len {w:Bool} {B:List (List Row)} (g:GoodB w B):B.length<=B.flatten.length:=by
 have h:=g.ne;clear g;induction B with
 | nil=>simp
 | cons b r ih=>
   have:=ih λc hc=>h c (r_0 _ hc);have h1:b≠ []:=h b (r_1 ..);have h2:0 < b.length:=List.length_pos_iff.mpr h1;simp only[r_3,s_q,r_Z];omega
theorem Stp.trans {H H1 H2:Hp} {f f1 f2:List Addr} (a:Stp H H1 f f1) (b:Stp H1 H2 f1 f2):Stp H H2 f f2 where
 keep:=λc u g d=>b.keep c u (a.keep c u g d) λz=>by
  rcases a.new c z with q | q
  ·exact d q
  ·rw[q] at g;cases g
 new:=λc g=>by
  rcases b.new c g with q | q
  ·exact a.new c q
  ·cases e:H c with
   | none=>exact .inr rfl
   | some u=>
     by_cases d:c∈f
     ·exact .inl d
     ·rw[a.keep c u e d] at q;cases q
theorem c_B {w:Bool} {q:List V} {b:List Row} (h:b_o w q b=true):∃x,b.getLast? =some x/\b_c (a_I w x) q=true:=by
 unfold b_o at h;cases e:b.getLast? with
 | none=>rw[e] at h;cases h
 | some x=>rw[e] at h;exact⟨x,rfl,h⟩
theorem g_K {w:Bool} {q:List V} {b:List Row} (h:b_o w q b=false) (hb:b≠ []):∃x,b.getLast? =some x/\b_c (a_I w x) q=false:=by
 unfold b_o at h;cases e:b.getLast? with
 | none=>rw[List.getLast?_eq_none_iff] at e;exact absurd e hb
 | some x=>rw[e] at h;exact⟨x,rfl,h⟩
theorem h_0 {w:Bool} {q:List V} {B₁ B₂:List (List Row)} {b:List Row} (hs:Srt (ltR w) (B₁++b::B₂).flatten) (h1:∀c∈B₁,b_o w q c=true) (h2:b_o w q b=false) (hb:b≠ []):
 (∀y∈B₁.flatten,b_c (a_I w y) q=true)/\∀y∈B₂.flatten,b_c (a_I w y) q=false:=by
 rw[s_k,s_q,Srt.app] at hs;refine⟨c_c (P:=λy=>b_c (a_I w y) q) (b_0 w q) hs.1 λc a=>c_B (h1 c a),?_⟩;obtain⟨z,e,pz⟩:=g_K h2 hb;exact h_f (P:=λy=>b_c (a_I w y) q) (b_0 w q) hs.2.1 e pz
theorem i_U {w:Bool} {ρ:Row} {B B₁ B₂:List (List Row)} (hB:B=B₁++B₂) (hn:B≠ []) (hs:Srt (ltR w) B.flatten) (hb:∀b∈B,b≠ []) (h1:∀c∈B₁,b_o w (a_I w ρ) c=true) (h2:∀c∈B₂,b_o w (a_I w ρ) c=false):
 ∃L b R,B=L++b::R/\(if ((B.length:Int) - 1) < (B₁.length:Int) then ((B.length:Int) - 1) else (B₁.length:Int))=(L.length:Int)/\(∀y∈L.flatten,ltR w y ρ=true)/\∀y∈R.flatten,ltR w y ρ=false:=by
 cases B₂ with
 | nil=>
   rw[s_u] at hB;subst hB;refine⟨B.dropLast,B.getLast hn, [],(List.dropLast_concat_getLast hn).symm,?_, λy a=> ?_, λy a=>by cases a⟩
   ·have:0 < B.length:=List.length_pos_iff.mpr hn
    rw[if_pos (by omega),List.length_dropLast];omega
   ·refine c_c (lt:=ltR w) (P:=λy=>ltR w y ρ) (b_0 w (a_I w ρ)) hs (λc d=>c_B (h1 c d)) y ?_
    have e:=List.dropLast_concat_getLast hn;rw[<-e,s_k];exact s_w _ a
 | cons b R=>
   subst hB;have:=h_0 hs h1 (h2 b (r_1 ..)) (hb b (by simp));refine⟨B₁,b,R,rfl,?_, this.1,this.2⟩;rw[if_neg (by simp only[r_Z,r_3];omega)]
theorem f_2 {α:Type} {t d l:List α} (e:t++d=l):l.take t.length=t/\l.drop t.length=d:=by
 subst e;exact⟨by simp,by simp⟩
theorem o_c {α:Type} {P:α->Bool} {l:List α}:l.take (l.takeWhile P).length=l.takeWhile P/\l.drop (l.takeWhile P).length=l.dropWhile P:=f_2 (List.takeWhile_append_dropWhile)
theorem p_7 {α:Type} {P:α->Bool} {l:List α}:(l.takeWhile P).length<=l.length:=by
 have:=congrArg List.length (List.takeWhile_append_dropWhile (p:=P) (l:=l));rw[r_Z] at this;omega
section
variable {P:Program} {w:World} {K:PySem.W.Frag} {mg:Str->Option Value} {base:Heap}
def m_B (C:Addr):Sp:=λvs H Q _=>∃(w:Bool) (o bl a:Addr) (bas:List Addr) (B:List (List Row)) (ρ:Row),vs= [.ref o,.ref a]/\OrdAt C w H o bl bas B/\RowAt H a ρ/\GoodB w B/\(∀x∈B.flatten,x.n≠ρ.n)/\B.flatten.length < 10000/\
 ∀(bas':List Addr) (B':List (List Row)) (H':Hp),OrdAt C w H' o bl bas' B'->GoodB w B'->B'.flatten.Perm (ρ::B.flatten)->Stp H H' (bl::bas) (bl::bas')->Q .non H'
theorem h_M:a_s ["self","row","key","place","block"] ["self","row"] (a_n n_2):=⟨rfl,rfl,rfl,by decide+kernel,rfl,by decide+kernel,by decide+kernel⟩
theorem m_4 {f fK fBA fRA fSp C:Addr} {fd fdK fdBA fdRA fdSp:FuncData} (F:Fun K "take_in" "Order.take_in" n_2 f fd) (T:Txt K mg C) (gK:Gf K mg "key_of" fK fdK ["word","row"]) (GK:FnOk P w K mg base CX0 2 fK fdK ["word","row"] g_R)
 (mBA:Mf K C "blocks_ahead" fBA fdBA ["self","key"]) (GBA:FnOk P w K mg base CX0 3 fBA fdBA ["self","key"] (o_W C)) (mRA:Mf K C "rows_ahead" fRA fdRA ["self","block","key"]) (GRA:FnOk P w K mg base CX0 3 fRA fdRA ["self","block","key"] (p_1 C))
 (mSp:Mf K C "split_block" fSp fdSp ["self","place"]) (GSp:FnOk P w K mg base CX0 1 fSp fdSp ["self","place"] (j_u C)):
 FnOk P w K mg base CX0 4 f fd ["self","row"] (m_B C):=by
 refine F.ok h_M (λvs H Q E h=> ?_) (λcdv A outer s H vs Q E hr h=> ?_)
 ·obtain⟨w,o,bl,a,bas,B,ρ,rfl,_⟩:=h
  rfl
 ·obtain⟨w,o,bl,a,bas,B,ρ,rfl,O,ha,G,hnum,hsz,fin⟩:=h
  obtain⟨⟨dx,g⟩,d,hbs,hnd⟩:=id O;have hr1:Room 1 _:=hr.mono (by decide);have hr2:Room 2 _:=hr.mono (by decide);obtain⟨t8,h8⟩:=T.most
  refine⟨_,a_c (a_C (a_m a_J (a_t (a_B K) (by rfl) T.len s_G (a_a (a_E (pv 0) rfl) a_d)) a_g (a_q _))
   (a_c (a_y (b_x s_H s_J s_I a_O (a_E (pv 0) rfl) (a_a (a_P (a_a (pv 1) a_d)) a_d))) (a_f j_P)) a_p)
   (a_c (a_w (i:=2) h_M.nd rfl (Or.inl rfl) (a_k GK hr2 rfl gK.mg gK.kp gK.b .nil a_u (a_a (a_E (pv 0) rfl) (a_a (pv 1) a_d))))
   (a_c (a_w (i:=3) h_M.nd rfl (Or.inl rfl) (a_t (k_E rfl) (by rfl) T.min PyProof.Rows.boot_min (a_a (a_Q (pv 0) T.cl mBA.m GBA hr mBA.b .nil a_u (a_a (pv 2) a_d)) (a_a (a_v b_S (a_t (a_B K) (by rfl) T.len s_G (a_a (a_E (pv 0) rfl) a_d)) a_g) a_d))))
   (a_c (a_w (i:=4) h_M.nd rfl (Or.inl rfl) (a_r (a_G K) (a_E (pv 0) rfl) (pv 3) (λ_ _=>rfl)))
   (a_c (a_y (b_x s_H PySem.F.slot_list_insert PySem.F.type_list_insert g_N (pv 4) (a_a (a_Q (pv 0) T.cl mRA.m GRA hr mRA.b .nil a_u (a_a (pv 4) (a_a (pv 2) a_d))) (a_a (pv 1) a_d))))
   (a_f (a_C (a_m h_o (a_t (a_B K) (by rfl) T.len s_G (a_a (pv 4) a_d)) (o_R h8) (a_q _)) (a_f (a_y (a_Q (pv 0) T.cl mSp.m GSp hr1 mSp.b .nil a_u (a_a (pv 3) a_d)))) a_p)))))),?_⟩
  refine⟨_,rfl,o,C,dx,_,_,rfl,g,T.cl,T.nB,a_z _ _,bl,_,rfl,.inl (SqL.of d),rfl,_,rfl,?_⟩;have J:bas.length=B.length:=Paired.length hbs;refine a_x (λc=> ?_) (λc=> ?_)
  ·-- no block yet
   have c':=s_F c
   have hb0:bas= []:=by
    injection c' with c'
    rw[r_X] at c';exact List.eq_nil_of_length_eq_zero (by omega)
   subst hb0;cases hbs;refine⟨_,rfl,o,C,dx,_,_,rfl,g,T.cl,T.nB,a_z _ _,.inl ⟨rfl,_,SqL.of d⟩,_,rfl,by show 1<=sizeLine;decide,λl hl=> ?_⟩;have t:bl≠l:=a_h d hl;have ho1:o≠l:=a_h g hl;have hob:o≠bl:=f_I g d (by intro z;cases z);refine⟨bl,_,_,rfl,rfl,(by rw[a_i t];exact d),by show 0 < sizeLine;decide,?_⟩;have t1:NoTup H l:=NoTup.none hl;have t2:NoTup (upd H l (.lst [.ref a])) bl:=NoTup.lst (ys:= []) (by rw[a_i t];exact d);refine fin [l] [[ρ]] _ ⟨⟨dx,by rw[a_i hob,a_i ho1];exact g⟩,a_b,.cons ⟨[a],by rw[a_i t.symm,a_b];rfl,.cons (t2.keep _ _ (t1.keep _ _ ha)) .nil⟩ .nil,by simp[t]⟩ ⟨by simp[Adj],by simp⟩ (by simp) ⟨λb u Z hn=> ?_, λb Z=> ?_⟩
   ·have n1:b≠bl:=λe=>hn (by simp[e])
    rw[a_i n1,a_i (a_h Z hl)];exact Z
   ·simp at Z
    rcases Z with e | e
    ·exact .inl (by simp[e])
    ·exact .inr (by rw[e];exact hl)
  ·have hBn:B≠ []:=fun e=>c (by
    subst e;have:bas= []:=List.eq_nil_of_length_eq_zero (by simpa using J);subst this;exact s_D rfl)
   refine⟨_,rfl,o,C,dx,_,_,rfl,g,T.cl,T.nW,b_M _ _,_,rfl,w,a,ρ,rfl,ha,λk hk=> ?_⟩;have s1:Same H (upd H k (.tup (a_I w ρ))):=Same.upd_new hk;refine⟨_,rfl,o,dx,_,rfl,s1 _ _ g,a_Z _ _ (by decide+kernel) (by decide+kernel),_,rfl,w,o,bl,k,bas,B,a_I w ρ,rfl,O.same s1,a_b,λρ'=>c_x w ρ' ρ,G.srt,G.ne,λB₁ B₂ H2 s2 eB hB1 hB2=> ?_⟩;have p:Same H H2:=s1.trans s2;refine⟨_,rfl,o,C,dx,_,_,rfl,p _ _ g,T.cl,T.nB,a_z _ _,bl,_,rfl,.inl (SqL.of (p _ _ d)),_,_,rfl,rfl,_,_,rfl,?_⟩;obtain⟨L,b,R,rfl,ep,hL,hRr⟩:=i_U eB hBn G.srt G.ne hB1 hB2;obtain⟨l₁,ab,l₂,rfl,hp1,hab0,hp2⟩:=b_d hbs;obtain⟨as,U,Y⟩:=id hab0;have hl1:l₁.length=L.length:=Paired.length hp1
   have ep':(if ((((l₁++ab::l₂).map V.ref).length:Int) - 1) < (B₁.length:Int) then ((((l₁++ab::l₂).map V.ref).length:Int) - 1) else (B₁.length:Int))=(L.length:Int):=by
    rw[r_X,J];exact ep
   obtain⟨n1,n2,n3,n4,n5,n6⟩:=d_g hnd
   refine⟨_,rfl,o,C,dx,_,_,rfl,p _ _ g,T.cl,T.nB,a_z _ _,_,rfl,bl,_,_,_,rfl,rfl,SqL.of (p _ _ d),(by
    show atI _ (if ((((l₁++ab::l₂).map V.ref).length:Int) - 1) < (B₁.length:Int) then ((((l₁++ab::l₂).map V.ref).length:Int) - 1) else (B₁.length:Int))=_;rw[ep'];exact a_e (j:=L.length) (v:=V.ref ab) (by rw[r_9,<-hl1,c_9];rfl)),?_⟩
   refine⟨_,rfl,.inl ⟨rfl,_,SqL.of (p _ _ U)⟩,_,rfl,o,dx,_,rfl,p _ _ g,a_Z _ _ (by decide+kernel) (by decide+kernel),_,rfl,_,rfl,w,o,bl,dx,ab,k,b,a_I w ρ,rfl,p _ _ g,hab0.sameS p,s2 _ _ a_b,λρ'=>c_x w ρ' ρ,λW s3=> ?_⟩;have n:Same H W:=p.trans s3;have hlb:=Y.len;have htw:(b.takeWhile λx=>b_c (a_I w x) (a_I w ρ)).length<=as.length:=by rw[hlb];exact p_7
   have hbb:b∈L++b::R:=by simp
   have hb8:=f_S G.adj b.length (s_s.mpr ⟨b,hbb,rfl⟩);refine⟨_,rfl,ab,_,_,_,rfl,rfl,n _ _ U,?_, by omega,by rw[r_X];omega,?_⟩
   ·exact a_F (by rw[r_X,hlb];omega)
   rw[Int.toNat_natCast,<-List.map_take,<-List.map_drop,<-s_c (f:=V.ref),<-r_5];have hab3:=n _ _ U;have t4:NoTup W ab:=NoTup.lst hab3;have hob:o≠bl:=f_I g d (by intro z;cases z);have hoa:o≠ab:=f_I g U (by intro z;cases z)
   have I:RowsAt (upd W ab (.lst ((as.take (b.takeWhile λx=>b_c (a_I w x) (a_I w ρ)).length++a::as.drop (b.takeWhile λx=>b_c (a_I w x) (a_I w ρ)).length).map V.ref))) (as.take (b.takeWhile λx=>b_c (a_I w x) (a_I w ρ)).length++a::as.drop (b.takeWhile λx=>b_c (a_I w x) (a_I w ρ)).length)
    ((b.takeWhile λx=>b_c (a_I w x) (a_I w ρ))++ρ::b.dropWhile λx=>b_c (a_I w x) (a_I w ρ)):=by
    have e:=o_c (P:=λx=>b_c (a_I w x) (a_I w ρ)) (l:=b);have z:=RowsAt.app (Y.take (b.takeWhile λx=>b_c (a_I w x) (a_I w ρ)).length) (.cons ha (Y.drop (b.takeWhile λx=>b_c (a_I w x) (a_I w ρ)).length));rw[e.1,e.2] at z;exact RowsAt.same (t4.keep) (RowsAt.same (λb xs q=>n _ _ q) z)
   generalize S:upd W ab (.lst ((as.take (b.takeWhile λx=>b_c (a_I w x) (a_I w ρ)).length++a::as.drop (b.takeWhile λx=>b_c (a_I w x) (a_I w ρ)).length).map V.ref))=H4 at I ⊢;have e4:H4 ab=some (.lst ((as.take (b.takeWhile λx=>b_c (a_I w x) (a_I w ρ)).length++a::as.drop (b.takeWhile λx=>b_c (a_I w x) (a_I w ρ)).length).map V.ref)):=by rw[<-S];exact a_b
   have k4:∀c u,c≠ab->W c=some u->H4 c=some u:=λc u X q=>by rw[<-S,a_i X];exact q
   have hfl:=i_t (P:=λx=>b_c (a_I w x) (a_I w ρ)) (x:=ρ) (b:=b) hL hRr
   have N:Srt (ltR w) (L++((b.takeWhile λx=>b_c (a_I w x) (a_I w ρ))++ρ::b.dropWhile λx=>b_c (a_I w x) (a_I w ρ))::R).flatten:=by
    rw[hfl];exact Srt.ins (λa b c=>c_y w a b c) G.srt λy hy=>g_2 (hnum y hy)
   have r:((L++((b.takeWhile λx=>b_c (a_I w x) (a_I w ρ))++ρ::b.dropWhile λx=>b_c (a_I w x) (a_I w ρ))::R).flatten).Perm (ρ::(L++b::R).flatten):=by
    rw[hfl];exact h_P
   have hlb':((b.takeWhile λx=>b_c (a_I w x) (a_I w ρ))++ρ::b.dropWhile λx=>b_c (a_I w x) (a_I w ρ)).length=b.length+1:=(h_P (P:=λx=>b_c (a_I w x) (a_I w ρ)) (l:=b) (x:=ρ)).length_eq;have hla4:=I.len;generalize (b.takeWhile λx=>b_c (a_I w x) (a_I w ρ))++ρ::b.dropWhile (λx=>b_c (a_I w x) (a_I w ρ))=b' at I N r hlb' hla4;generalize as.take (b.takeWhile λx=>b_c (a_I w x) (a_I w ρ)).length++a::as.drop (b.takeWhile λx=>b_c (a_I w x) (a_I w ρ)).length=as' at I e4 hla4
   have O4:OrdAt C w H4 o bl (l₁++ab::l₂) (L++b'::R):=by
    refine⟨⟨dx,k4 _ _ hoa (n _ _ g)⟩,k4 _ _ n2 (n _ _ d),a_D ?_ (.cons ⟨as',e4,I⟩ ?_),hnd⟩
    ·rw[<-S]
     exact a_R t4 (Paired.mapP hp1 λ_ _ q=>q.sameS n) λx hx e=>n4 (e ▸ hx)
    ·rw[<-S]
     exact a_R t4 (Paired.mapP hp2 λ_ _ q=>q.sameS n) λx hx e=>n5 (e ▸ hx)
   have S4:Stp H H4 (bl::(l₁++ab::l₂)) (bl::(l₁++ab::l₂)):=⟨λc u X hn=>k4 c u (λe=>hn (by simp[e])) (n c u X),λc X=> .inl X⟩;refine⟨_,rfl,ab,_,rfl,.inl (SqL.of e4),_,_,rfl,rfl,_,rfl,?_⟩;have M:=G.adj;rw[r_5,s_c] at M;refine a_x (λc9=> ?_) (λc9=> ?_)
   ·have h9:b'.length=9:=by
     have:=s_F c9;rw[r_X] at this;omega
    refine⟨_,rfl,o,dx,_,rfl,k4 _ _ hoa (n _ _ g),a_Z _ _ (by decide+kernel) (by decide+kernel),_,rfl,w,o,bl,_,L,b',R,?_, O4,?_, λbas' H5 O5 S5=> ?_⟩
    ·show [V.ref o,V.int _]=_
     rw[ep']
    ·have:=G.len
     rw[J];omega
    ·rw[h9] at O5
     refine fin bas' _ H5 O5 ⟨?_, ?_⟩ ?_ (S4.trans S5)
     ·rw[r_5,s_c,s_c,s_j,List.length_drop,h9]
      exact Adj.split (by decide) M
     ·have e:(L++b'.take (9 / 2)::b'.drop (9 / 2)::R).flatten=(L++b'::R).flatten:=by simp[<-List.append_assoc (b'.take 4),s_A]
      rw[e];exact N
     ·have e:(L++b'.take (9 / 2)::b'.drop (9 / 2)::R).flatten=(L++b'::R).flatten:=by simp[<-List.append_assoc (b'.take 4),s_A]
      rw[e];exact r
   ·refine fin _ _ H4 O4 ⟨?_, N⟩ r S4
    have h9:b'.length<=8:=by
     have:¬ ((8:Int) < _):=λz=>c9 (s_D z);rw[r_X] at this;omega
    rw[r_5,s_c];exact M.put (by omega) h9
def e_D (B:List (List Row)) (p:Int) (B':List (List Row)):Prop:=
 ((p < 0\/(B.length:Int)<=p+1)/\B'=B)\/∃(B₁:List (List Row)) (x y:List Row) (B₂:List (List Row)),p=B₁.length/\B=B₁++x::y::B₂/\B'=if x.length+y.length < 5 then B₁++(x++y)::B₂ else B
def l_9 (C:Addr):Sp:=λvs H Q _=>∃(w:Bool) (o bl:Addr) (bas:List Addr) (B:List (List Row)) (p:Int),vs= [.ref o,.int p]/\OrdAt C w H o bl bas B/\(∀b∈B,b.length<=8)/\bas.length < 100000/\
 ∀(bas':List Addr) (B':List (List Row)) (H':Hp),OrdAt C w H' o bl bas' B'->Stp H H' (bl::bas) (bl::bas')->e_D B p B'->Q .non H'
theorem m_s:a_s ["self","place","joined"] ["self","place"] (a_n n_A):=⟨rfl,rfl,rfl,by decide+kernel,rfl,by decide+kernel,by decide+kernel⟩
theorem p_C {α:Type} {l:List α} {i:Nat} (h:i+1 < l.length):∃l₁ x y l₂,l=l₁++x::y::l₂/\l₁.length=i:=by
 obtain⟨l₁,l₂,e,e2⟩:=d_6 (r_Y (show i < l.length by omega));cases l₂ with
 | nil=>rw[e] at h;simp at h;omega
 | cons y l₂=>exact⟨l₁,_,y,l₂,e,e2⟩
theorem m_7 {f C:Addr} {fd:FuncData} (F:Fun K "join_if_few" "Order.join_if_few" n_A f fd) (T:Txt K mg C):FnOk P w K mg base CX0 1 f fd ["self","place"] (l_9 C):=by
 refine F.ok m_s (λvs H Q E h=> ?_) (λcdv A outer s H vs Q E hr h=> ?_)
 ·obtain⟨w,o,bl,bas,B,p,rfl,_⟩:=h
  rfl
 ·obtain⟨w,o,bl,bas,B,p,rfl,O,h8,hsz,fin⟩:=h
  obtain⟨⟨dx,q⟩,k,U,hnd⟩:=id O;obtain⟨t5,h5⟩:=T.least;have G:bas.length=B.length:=Paired.length U
  refine⟨_,a_c (a_C (PW.pt (c_D (a_m e_R (pv 1) a_g (a_q _)) (b_I (a_m j_c (a_v a_V (pv 1) a_g) (a_t (a_B K) (by rfl) T.len s_G (a_a (a_E (pv 0) rfl) a_d)) (a_q _))))) (a_f j_P) a_p)
   (a_c (a_w (i:=2) m_s.nd rfl (Or.inl rfl) (a_v c_T (a_r (a_G K) (a_E (pv 0) rfl) (pv 1) (λ_ _=>rfl)) (a_r (a_G K) (a_E (pv 0) rfl) (a_v a_V (pv 1) a_g) (λ_ _=>rfl))))
   (a_f (a_C (a_m e_R (a_t (a_B K) (by rfl) T.len s_G (a_a (pv 2) a_d)) (o_R h5) (a_q _))
     (a_c (m_G (pv 2) (m_k (a_E (pv 0) rfl) (pv 1) h_L)) (a_f (a_y (b_x s_H PySem.F.slot_list_pop PySem.F.type_list_pop i_c (a_E (pv 0) rfl) (a_a (a_v a_V (pv 1) a_g) a_d))))) a_p))),?_⟩
  refine⟨_,rfl,_,_,rfl,rfl,_,rfl,?_⟩;refine a_x (λc=> ?_) (λc=> ?_)
  ·exact fin bas B H O (Stp.of_same (Same.refl _)) (.inl ⟨.inl (s_F c),rfl⟩)
  have hp0:0<=p:=by have:¬ p < 0:=λz=>c (s_D z);omega
  refine⟨_,rfl,_,_,rfl,rfl,_,rfl,o,C,dx,_,_,rfl,q,T.cl,T.nB,a_z _ _,bl,_,rfl,.inl (SqL.of k),_,_,rfl,rfl,_,rfl,?_⟩;refine a_x (λY=> ?_) (λY=> ?_)
  ·refine fin bas B H O (Stp.of_same (Same.refl _)) (.inl ⟨.inr ?_, rfl⟩)
   have:=s_F Y;rw[r_X,G] at this;exact this
  have hp1:p+1 < B.length:=by
   have:¬ ((_:Int)<=p+1):=λz=>Y (s_D z);rw[r_X,G] at this;omega
  obtain⟨B₁,x,y,B₂,rfl,eB⟩:=p_C (l:=B) (i:=p.toNat) (by omega);have ep:p=(B₁.length:Int):=by omega
  subst ep;obtain⟨l₁,ax,l₂',rfl,q1,hx0,N⟩:=b_d U;cases N with
  | @cons ay _ l₂ _ hy0 N=>
  obtain⟨xs,hx,R⟩:=id hx0;obtain⟨ys,hy,S⟩:=id hy0;have m:l₁.length=B₁.length:=Paired.length q1;have lx:=R.len;have ly:=S.len;have x8:=h8 x (by simp);have y8:=h8 y (by simp);have gx:((l₁++ax::ay::l₂).map V.ref)[B₁.length]? =some (V.ref ax):=by rw[r_9,<-m,c_9];rfl
  have gy:((l₁++ax::ay::l₂).map V.ref)[B₁.length+1]? =some (V.ref ay):=by
   rw[r_9,<-m,show l₁++ax::ay::l₂=(l₁++ [ax])++ay::l₂ by simp,show l₁.length+1=(l₁++ [ax]).length by simp,c_9];rfl
  refine⟨_,rfl,o,C,dx,_,_,rfl,q,T.cl,T.nB,a_z _ _,_,rfl,bl,_,_,_,rfl,rfl,SqL.of k,a_e gx,_,rfl,o,C,dx,_,_,rfl,q,T.cl,T.nB,a_z _ _,_,rfl,_,_,rfl,rfl,bl,_,_,_,rfl,rfl,SqL.of k,(a_e (j:=B₁.length+1) gy),
   ax,ay,_,_,rfl,rfl,hx,hy,?_, λd n=> ?_⟩
  ·rw[r_X,r_X]
   exact Nat.le_of_lt (a_F (by omega))
  rw[<-r_5];obtain⟨n1,n2,n3,n4,n5,n6⟩:=d_g hnd;have I:o≠d:=a_h q n;have r:bl≠d:=a_h k n;have M:o≠bl:=f_I q k (by intro z;cases z);refine⟨_,rfl,d,_,rfl,.inl (SqL.of a_b),_,_,rfl,rfl,_,rfl,?_⟩;refine a_x (λX=> ?_) (λX=> ?_)
  ·have L:x.length+y.length < 5:=by
    have:=s_F X;rw[r_X,r_Z] at this;omega
   have eset:((l₁++ax::ay::l₂).map V.ref).set B₁.length (.ref d)=(l₁++d::ay::l₂).map V.ref:=by
    rw[<-m,r_5,s_c,r_5,s_c];have:=k_a (l₁:=l₁.map V.ref) (l₂:=(ay::l₂).map V.ref) (a:=V.ref ax) (b:=V.ref d);rw[r_X] at this;exact this
   refine⟨_,rfl,_,rfl,o,C,dx,_,_,rfl,(by rw[a_i I];exact q),T.cl,T.nB,a_z _ _,_,rfl,bl,_,_,B₁.length,rfl,rfl,(by rw[a_i r];exact k),(by rw[r_X];exact i_3 (by simp[m])),?_⟩;rw[eset]
   have ge:((l₁++d::ay::l₂).map V.ref)[B₁.length+1]? =some (V.ref ay):=by
    rw[r_9,<-m,show l₁++d::ay::l₂=(l₁++ [d])++ay::l₂ by simp,show l₁.length+1=(l₁++ [d]).length by simp,c_9];rfl
   have er:((l₁++d::ay::l₂).map V.ref).eraseIdx (B₁.length+1)=(l₁++d::l₂).map V.ref:=by
    rw[<-m,d_r,show l₁++d::ay::l₂=(l₁++ [d])++ay::l₂ by simp,show l₁.length+1=(l₁++ [d]).length by simp,g_d];simp
   have hls:B₁.length+1 < ((l₁++d::ay::l₂).map V.ref).length:=by
    simp only[r_X,r_Z,r_3];omega
   have h63:((B₁.length:Int)+1) < 2 ^ 63:=by
    have:B₁.length < 100000:=by simp only[r_Z,r_3] at hsz;omega
    omega
   refine⟨_,rfl,o,C,dx,_,_,rfl,(by rw[a_i M,a_i I];exact q),T.cl,T.nB,a_z _ _,.inl ⟨rfl,_,SqL.of a_b⟩,_,rfl,_,_,rfl,rfl,bl,_,_,B₁.length+1,_,rfl,rfl,a_b,by omega,h63,?_, ge,?_⟩
   ·rw[PySem.seqIndex_of (by omega) (by omega)]
    rfl
   rw[er];have nay:bl≠ay:=λe=>n3 (by simp[e]);have t:∀z∈l₁,z≠d/\z≠bl:=λz g=>⟨b_8 q1 n z g,λe=>n1 (e ▸ g)⟩;have v:∀z∈l₂,z≠d/\z≠bl:=λz g=>⟨b_8 N n z g,λe=>n3 (by rw[<-e];simp[g])⟩;have W:NoTup H d:=NoTup.none n;have t2:NoTup (upd H d (.lst ((xs++ys).map V.ref))) bl:=NoTup.lst (ys:=(l₁++ax::ay::l₂).map V.ref) (by rw[a_i r];exact k);have Z:NoTup (upd (upd H d (.lst ((xs++ys).map V.ref))) bl (.lst ((l₁++d::ay::l₂).map V.ref))) bl:=NoTup.lst a_b
   have nd':(bl::(l₁++l₂)).Nodup:=by
    have:=d_g (bl:=bl) (a:=ay) (l₁:=l₁) (l₂:=l₂) n6;exact this.2.2.2.2.2
   refine fin (l₁++d::l₂) (B₁++(x++y)::B₂) _ ⟨⟨dx,?_⟩,a_b,?_, ?_⟩ ⟨λc u J hn=> ?_, λc J=> ?_⟩ (.inr ⟨B₁,x,y,B₂,rfl,rfl,by rw[if_pos L]⟩)
   ·rw[a_i M,a_i M,a_i I];exact q
   ·refine a_D ?_ (.cons ⟨xs++ys,?_, ?_⟩ ?_)
    ·exact a_R Z (a_R t2 (a_R W q1 λz g=>(t z g).1) λz g=>(t z g).2) λz g=>(t z g).2
    ·rw[a_i r.symm,a_i r.symm,a_b]
    ·exact (RowsAt.app R S).same λb zs h=>Z.keep _ _ (t2.keep _ _ (W.keep _ _ h))
    ·exact a_R Z (a_R t2 (a_R W N λz g=>(v z g).1) λz g=>(v z g).2) λz g=>(v z g).2
   ·exact j_E nd' r.symm (λz=>(t _ z).1 rfl) λz=>(v _ z).1 rfl
   ·have c1:c≠bl:=λe=>hn (by rw[e];exact r_1 ..)
    rw[a_i c1,a_i c1,a_i (a_h J n)];exact J
   ·simp only[r_8,s_f] at J ⊢
    rcases J with e | e | e | e
    ·exact .inl (.inl e)
    ·exact .inl (.inr (.inl e))
    ·exact .inr (by rw[e];exact n)
    ·exact .inl (.inr (.inr (.inr (.inr e))))
  ·have L:¬ (x.length+y.length < 5):=λz=>X (s_D (by rw[r_X,r_Z];omega))
   exact fin _ _ _ (O.same (Same.upd_new n)) (Stp.of_same (Same.upd_new n)) (.inr ⟨B₁,x,y,B₂,rfl,rfl,by rw[if_neg L]⟩)
end
theorem g_p {B₁ B₂ B':List (List Row)} {x y:List Row} (h:e_D (B₁++x::y::B₂) (B₁.length:Int) B'):B'=if x.length+y.length < 5 then B₁++(x++y)::B₂ else B₁++x::y::B₂:=by
 rcases h with⟨h,e⟩ | ⟨C₁,u,v,C₂,l,i,g⟩
 ·simp only[r_Z,r_3] at h
  omega
 ·have a:B₁.length=C₁.length:=by omega
  obtain⟨d,f⟩:=List.append_inj i a;subst d;injection f with c j
  injection j with b k
  subst c b k;exact g
theorem i_v {B₁ B':List (List Row)} {x:List Row} (h:e_D (B₁++ [x]) (B₁.length:Int) B'):B'=B₁++ [x]:=by
 rcases h with⟨h,e⟩ | ⟨C₁,u,v,C₂,h1,h2,h3⟩
 ·exact e
 ·have:=congrArg List.length h2
  simp only[r_Z,r_3,s_x] at this;omega
theorem i_z {B B':List (List Row)} {p:Int} (hp:p < 0) (h:e_D B p B'):B'=B:=by
 rcases h with⟨h,e⟩ | ⟨C₁,u,v,C₂,h1,h2,h3⟩
 ·exact e
 ·omega
theorem h_v {B B':List (List Row)} {p:Int} (g:Adj 8 (B.map List.length)) (h:e_D B p B'):B'=B:=by
 rcases h with⟨h,e⟩ | ⟨C₁,u,v,C₂,h1,h2,h3⟩
 ·exact e
 ·subst h2
  rw[r_5,s_c,s_c,Adj.app] at g;obtain⟨_,_,_,_,_,_,g,_⟩:=g;rw[if_neg (by omega)] at h3;exact h3
theorem l_r {B₁ B₂ By Bz:List (List Row)} {b b':List Row} (g:Adj 8 ((B₁++b::B₂).map List.length)) (hb:b.length=b'.length+1) (h1:1<=b'.length)
 (j1:e_D (B₁++b'::B₂) (B₁.length:Int) By) (j2:e_D By ((B₁.length:Int) - 1) Bz):Adj 8 (Bz.map List.length)/\Bz.flatten=(B₁++b'::B₂).flatten:=by
 rw[r_5,s_c,hb] at g
 -- where the block's right neighbour is not joined
 have right:By=B₁++b'::B₂->(∀c r,B₂.map List.length=c::r->5<=b'.length+c)->Adj 8 (Bz.map List.length)/\Bz.flatten=(B₁++b'::B₂).flatten:=by
  intro e f;subst e;rcases List.eq_nil_or_concat B₁ with e | ⟨A,a,e⟩
  ·subst e
   have z:=i_z (by simp) j2;subst z;exact⟨by simpa using Adj.less (l₁:= []) g h1 (by simp[f_G];omega) f,rfl⟩
  ·rw[List.concat_eq_append] at e
   subst e;have ep:((A++ [a]).length:Int) - 1=(A.length:Int):=by simp
   rw[ep,List.append_assoc] at j2;have z:=g_p (B₁:=A) (x:=a) (y:=b') (B₂:=B₂) j2;by_cases c:a.length+b'.length < 5
   ·rw[if_pos c] at z
    subst z;refine⟨?_, by simp⟩;rw[r_5,s_c,r_Z];rw[r_5,List.append_assoc] at g;exact Adj.less_join_l g c
   ·rw[if_neg c] at z
    subst z;refine⟨?_, by simp⟩;have q:=Adj.less (l₁:=(A++ [a]).map List.length) g h1 (by rw[r_5];simp only[s_c,List.map_nil];rw[e_1];omega) f;simpa using q
 cases B₂ with
 | nil=>exact right (i_v j1) (λc r h=>by cases h)
 | cons y R=>
   have z:=g_p j1;by_cases c:b'.length+y.length < 5
   ·rw[if_pos c] at z
    subst z
    have g':Adj 8 ((B₁++(b'++y)::R).map List.length):=by
     rw[r_5,s_c,r_Z];exact Adj.less_join g h1 c
    have i:=h_v g' j2;subst i;exact⟨g',by simp⟩
   ·rw[if_neg c] at z
    exact right z λd r h=>by
     injection h with h _
     omega
theorem h_W {α:Type} [DecidableEq α] {a:α}:∀{l:List α},a∈l->l.eraseIdx (l.idxOf a)=l.erase a
 | x::r,h=>by
   rw[List.idxOf_cons,List.erase_cons];cases e:x == a with
   | true=>simp
   | false=>
     have:a∈r:=by
      rcases r_8.mp h with q | q
      ·subst q;simp at e
      ·exact q
     simp only[cond_false,List.eraseIdx_cons_succ];rw[h_W this];simp
section
variable {P:Program} {w:World} {K:PySem.W.Frag} {mg:Str->Option Value} {base:Heap}
def p_g (C:Addr):Sp:=λvs H Q _=>∃(w:Bool) (o bl a:Addr) (bas:List Addr) (B:List (List Row)) (ρ:Row),vs= [.ref o,.ref a]/\OrdAt C w H o bl bas B/\RowAt H a ρ/\GoodB w B/\ρ∈B.flatten/\B.flatten.length < 10000/\
 ∀(bas':List Addr) (B':List (List Row)) (H':Hp),OrdAt C w H' o bl bas' B'->GoodB w B'->(ρ::B'.flatten).Perm B.flatten->Stp H H' (bl::bas) (bl::bas')->Q .non H'
theorem m_3:a_s ["self","row","place","block"] ["self","row"] (a_n q_O):=⟨rfl,rfl,rfl,by decide+kernel,rfl,by decide+kernel,by decide+kernel⟩
theorem p_r {f fK fBA fJ C:Addr} {fd fdK fdBA fdJ:FuncData} (F:Fun K "let_out" "Order.let_out" q_O f fd) (T:Txt K mg C) (gK:Gf K mg "key_of" fK fdK ["word","row"]) (GK:FnOk P w K mg base CX0 2 fK fdK ["word","row"] g_R)
 (mBA:Mf K C "blocks_ahead" fBA fdBA ["self","key"]) (GBA:FnOk P w K mg base CX0 3 fBA fdBA ["self","key"] (o_W C)) (mJ:Mf K C "join_if_few" fJ fdJ ["self","place"]) (GJ:FnOk P w K mg base CX0 1 fJ fdJ ["self","place"] (l_9 C)):
 FnOk P w K mg base CX0 4 f fd ["self","row"] (p_g C):=by
 refine F.ok m_3 (λvs H Q E h=> ?_) (λcdv A outer s H vs Q E hr h=> ?_)
 ·obtain⟨w,o,bl,a,bas,B,ρ,rfl,_⟩:=h
  rfl
 ·obtain⟨w,o,bl,a,bas,B,ρ,rfl,O,ha,G,hm,hsz,fin⟩:=h
  obtain⟨⟨dx,n⟩,l,hbs,hnd⟩:=id O;have hr1:Room 1 _:=hr.mono (by decide);have hr2:Room 2 _:=hr.mono (by decide);have hlen:bas.length=B.length:=Paired.length hbs
  refine⟨_,a_c (a_w (i:=2) m_3.nd rfl (Or.inl rfl) (a_Q (pv 0) T.cl mBA.m GBA hr mBA.b .nil a_u (a_a (a_k GK hr2 rfl gK.mg gK.kp gK.b .nil a_u (a_a (a_E (pv 0) rfl) (a_a (pv 1) a_d))) a_d)))
   (a_c (a_w (i:=3) m_3.nd rfl (Or.inl rfl) (a_r (a_G K) (a_E (pv 0) rfl) (pv 2) (λ_ _=>rfl)))
   (a_c (a_y (b_x s_H PySem.F.slot_list_remove PySem.F.type_list_remove (k_u (e_V hr)) (pv 3) (a_a (pv 1) a_d)))
   (a_f (a_C (a_m h_o (a_t (a_B K) (by rfl) T.len s_G (a_a (pv 3) a_d)) a_g (a_q _))
     (a_c (a_y (a_Q (pv 0) T.cl mJ.m GJ hr1 mJ.b .nil a_u (a_a (pv 2) a_d))) (a_f (a_y (a_Q (pv 0) T.cl mJ.m GJ hr1 mJ.b .nil a_u (a_a (a_v b_S (pv 2) a_g) a_d)))))
     (a_f (a_y (b_x s_H PySem.F.slot_list_pop PySem.F.type_list_pop i_c (a_E (pv 0) rfl) (a_a (pv 2) a_d)))))))),?_⟩
  refine⟨_,rfl,o,dx,_,rfl,n,a_Z _ _ (by decide+kernel) (by decide+kernel),_,rfl,o,C,dx,_,_,rfl,n,T.cl,T.nW,b_M _ _,_,rfl,w,a,ρ,rfl,ha,λk hk=> ?_⟩;have s1:Same H (upd H k (.tup (a_I w ρ))):=Same.upd_new hk;refine⟨w,o,bl,k,bas,B,a_I w ρ,rfl,O.same s1,a_b,λρ'=>c_x w ρ' ρ,G.srt,G.ne,λB₁ B₂ W s2 eB hB1 hB2=> ?_⟩;have d:Same H W:=s1.trans s2
  have U:∀y∈B₁.flatten,ltR w y ρ=true:=by
   have:=G.srt;rw[eB,s_k,Srt.app] at this;exact c_c (P:=λy=>ltR w y ρ) (b_0 w (a_I w ρ)) this.1 λc j=>c_B (hB1 c j)
  cases B₂ with
  | nil=>
    rw[s_u] at eB;subst eB;exact (o_H (b_L w) hm U).elim
  | cons b B₂=>
  subst eB;obtain⟨z,ez,pz⟩:=g_K (hB2 b (r_1 ..)) (G.ne b (by simp));have hρb:ρ∈b:=h_u (b_L w) G.srt hm U ez pz;obtain⟨l₁,ab,l₂,rfl,hp1,hab0,hp2⟩:=b_d hbs;obtain⟨as,t,hRb⟩:=id hab0;have hl1:l₁.length=B₁.length:=Paired.length hp1;obtain⟨n1,X,n3,n4,n5,n6⟩:=d_g hnd;have gb:((l₁++ab::l₂).map V.ref)[B₁.length]? =some (V.ref ab):=by rw[r_9,<-hl1,c_9];rfl
  refine⟨_,rfl,o,C,dx,_,_,rfl,d _ _ n,T.cl,T.nB,a_z _ _,_,rfl,bl,_,_,_,rfl,rfl,SqL.of (d _ _ l),a_e gb,?_⟩;refine⟨_,rfl,.inl ⟨rfl,_,SqL.of (d _ _ t)⟩,_,rfl,ab,as,a,b,ρ,rfl,rfl,d _ _ t,hRb.same (λb xs q=>d _ _ q),d _ _ ha,hρb,?_⟩;have r:=((hRb.eraseIdx (b.idxOf ρ)).same λb xs q=>d _ _ q).same (NoTup.keep (o:= .lst ((as.eraseIdx (b.idxOf ρ)).map V.ref)) (NoTup.lst (d _ _ t)));rw[h_W hρb] at r;have J:o≠ab:=f_I n t (by intro z;cases z);have hob:o≠bl:=f_I n l (by intro z;cases z);have t4:NoTup W ab:=NoTup.lst (d _ _ t)
  have hle:b.length=(b.erase ρ).length+1:=by
   have:=List.length_erase_of_mem hρb;have:0 < b.length:=List.length_pos_of_mem hρb;omega
  have Z:=g_h G.srt hρb;generalize as.eraseIdx (b.idxOf ρ)=as' at r ⊢;generalize L:upd W ab (.lst (as'.map V.ref))=H4 at r ⊢;have e4:H4 ab=some (.lst (as'.map V.ref)):=by rw[<-L];exact a_b
  have p:∀c u,c≠ab->W c=some u->H4 c=some u:=λc u j q=>by rw[<-L,a_i j];exact q
  have hla:=r.len
  have N:Paired (LstAt H4) l₁ B₁:=by
   rw[<-L];exact a_R t4 (Paired.mapP hp1 λ_ _ q=>q.sameS d) λx I e=>n4 (e ▸ I)
  have R:Paired (LstAt H4) l₂ B₂:=by
   rw[<-L];exact a_R t4 (Paired.mapP hp2 λ_ _ q=>q.sameS d) λx I e=>n5 (e ▸ I)
  have O4:OrdAt C w H4 o bl (l₁++ab::l₂) (B₁++b.erase ρ::B₂):=⟨⟨dx,p _ _ J (d _ _ n)⟩,p _ _ X (d _ _ l),a_D N (.cons ⟨as',e4,r⟩ R),hnd⟩;have S4:Stp H H4 (bl::(l₁++ab::l₂)) (bl::(l₁++ab::l₂)):=⟨λc u j hn=>p c u (λe=>hn (by simp[e])) (d c u j),λc j=> .inl j⟩;refine⟨_,rfl,ab,_,rfl,.inl (SqL.of e4),_,_,rfl,rfl,_,rfl,?_⟩;have S:∀c∈B₁++b::B₂,c.length<=8:=λc j=>(f_S G.adj c.length (s_s.mpr ⟨c,j,rfl⟩)).2;have hBl:=G.len;refine a_x (λc0=> ?_) (λc0=> ?_)
  ·have Y:1≤(b.erase ρ).length:=by
    have:=s_F c0;rw[r_X] at this;omega
   have M:∀c∈B₁++b.erase ρ::B₂,c.length<=8:=λc j=>by
    simp only[s_f,r_8] at j;rcases j with q | q | q
    ·exact S c (by simp[q])
    ·have:=S b (by simp);subst q;omega
    ·exact S c (by simp[q])
   refine⟨_,rfl,o,dx,_,rfl,p _ _ J (d _ _ n),a_Z _ _ (by decide+kernel) (by decide+kernel),_,rfl,w,o,bl,_,_,_,rfl,O4,M,by omega,λbas5 B5 H5 O5 S5 j5=> ?_⟩;obtain⟨⟨dx5,ho5⟩,hbl5,hbs5,_⟩:=id O5
   have hb5:(∀c∈B5,c.length<=8)/\B5.length<=(B₁++b.erase ρ::B₂).length:=by
    rcases j5 with⟨_,e⟩ | ⟨C₁,u,v,C₂,h1,h2,h3⟩
    ·subst e;exact⟨M,r_6 _⟩
    ·by_cases q:u.length+v.length < 5
     ·rw[if_pos q] at h3
      subst h3;rw[h2] at M ⊢;refine⟨λc j=> ?_, by simp⟩;simp only[s_f,r_8] at j;rcases j with z | z | z
      ·exact M c (by simp[z])
      ·subst z;rw[r_Z];omega
      ·exact M c (by simp[z])
     ·rw[if_neg q] at h3
      subst h3;exact⟨M,r_6 _⟩
   have hl5:bas5.length=B5.length:=Paired.length hbs5;refine⟨_,rfl,o,dx5,_,rfl,ho5,a_Z _ _ (by decide+kernel) (by decide+kernel),_,rfl,_,_,rfl,rfl,w,o,bl,_,_,_,rfl,O5,hb5.1,?_, λbas6 B6 H6 O6 S6 j6=> ?_⟩
   ·have:=hb5.2
    simp only[r_Z,r_3] at this hBl;omega
   ·have LG:=l_r G.adj hle Y j5 j6
    refine fin bas6 B6 H6 O6 ⟨LG.1,?_⟩ ?_ ((S4.trans S5).trans S6)
    ·rw[LG.2];exact Z.1
    ·rw[LG.2];exact Z.2
  ·have Y:(b.erase ρ).length=0:=by
    have:¬ ((0:Int) < _):=λz=>c0 (s_D z);rw[r_X] at this;omega
   have he:b.erase ρ= []:=List.eq_nil_of_length_eq_zero Y
   have er:((l₁++ab::l₂).map V.ref).eraseIdx B₁.length=(l₁++l₂).map V.ref:=by
    rw[<-hl1,d_r,g_d]
   have h63:(B₁.length:Int) < 2 ^ 63:=by
    simp only[r_Z,r_3] at hBl;omega
   refine⟨_,rfl,o,C,dx,_,_,rfl,p _ _ J (d _ _ n),T.cl,T.nB,a_z _ _,.inl ⟨rfl,_,SqL.of (p _ _ X (d _ _ l))⟩,_,rfl,bl,_,_,B₁.length,_,rfl,rfl,p _ _ X (d _ _ l),by omega,h63,?_, gb,?_⟩
   ·rw[PySem.seqIndex_of (by omega) (by simp;omega)]
    rfl
   rw[er];have t5:NoTup H4 bl:=NoTup.lst (p _ _ X (d _ _ l));refine fin (l₁++l₂) (B₁++B₂) _ ⟨⟨dx,by rw[a_i hob];exact p _ _ J (d _ _ n)⟩,a_b,a_D (a_R t5 N λx I e=>n1 (e ▸ I)) (a_R t5 R λx I e=>n3 (e ▸ I)),n6⟩ ⟨?_, ?_⟩ ?_ ?_
   ·have g:=G.adj
    rw[r_5,s_c,hle,Y] at g;rw[r_5];exact Adj.gone g
   ·have:=Z.1
    rw[he] at this;simpa using this
   ·have:=Z.2
    rw[he] at this;simpa using this
   ·refine⟨λc u j hn=> ?_, λc j=> .inl ?_⟩
    ·rw[a_i (λe=>hn (by simp[e]))]
     exact S4.keep c u j hn
    ·simp only[r_8,s_f] at j ⊢
     rcases j with q | q | q
     ·exact .inl q
     ·exact .inr (.inl q)
     ·exact .inr (.inr (.inr q))
end
section
variable {P:Program} {w:World} {K:PySem.W.Frag} {mg:Str->Option Value} {base:Heap}
theorem f_r {B:List (List Row)}:∀i,((B.take i).flatten).length<=B.flatten.length:=λi=>by
 have e:(B.take i++B.drop i).flatten=B.flatten:=by rw[s_A]
 rw[<-e,s_k,r_Z];omega
def j_F (C:Addr):Sp:=λvs H Q _=>∃(w:Bool) (o bl a:Addr) (bas:List Addr) (B:List (List Row)) (ρ:Row),vs= [.ref o,.ref a]/\OrdAt C w H o bl bas B/\RowAt H a ρ/\GoodB w B/\B.flatten.length < 10000/\
 ∀(H':Hp),Same H H'->Q (.int ((B.flatten.filter λx=>ltR w x ρ).length:Nat)) H'
theorem e_s:a_s ["self","row","key","place","ahead"] ["self","row"] (a_n k_D):=⟨rfl,rfl,rfl,by decide+kernel,rfl,by decide+kernel,by decide+kernel⟩
theorem g_f (l:List Nat):(l.map λn:Nat=>(n:Int)).sum=((l.sum:Nat):Int):=by
 induction l with
 | nil=>rfl
 | cons a r ih=>simp only[s_c,List.sum_cons,ih];omega
theorem l_Z {f fK fBA fRA C:Addr} {fd fdK fdBA fdRA:FuncData} (F:Fun K "ahead_of" "Order.ahead_of" k_D f fd) (T:Txt K mg C) (gK:Gf K mg "key_of" fK fdK ["word","row"]) (GK:FnOk P w K mg base CX0 2 fK fdK ["word","row"] g_R)
 (mBA:Mf K C "blocks_ahead" fBA fdBA ["self","key"]) (GBA:FnOk P w K mg base CX0 3 fBA fdBA ["self","key"] (o_W C)) (mRA:Mf K C "rows_ahead" fRA fdRA ["self","block","key"]) (GRA:FnOk P w K mg base CX0 3 fRA fdRA ["self","block","key"] (p_1 C)):
 FnOk P w K mg base CX0 4 f fd ["self","row"] (j_F C):=by
 refine F.ok e_s (λvs H Q E h=> ?_) (λcdv A outer s H vs Q E Y h=> ?_)
 ·obtain⟨w,o,bl,a,bas,B,ρ,rfl,_⟩:=h
  rfl
 ·obtain⟨w,o,bl,a,bas,B,ρ,rfl,O,ha,G,hsz,fin⟩:=h
  obtain⟨⟨dx,j⟩,p,t,hnd⟩:=id O;have hr2:Room 2 _:=Y.mono (by decide);have n:bas.length=B.length:=Paired.length t
  refine⟨_,a_c (a_w (i:=2) e_s.nd rfl (Or.inl rfl) (a_k GK hr2 rfl gK.mg gK.kp gK.b .nil a_u (a_a (a_E (pv 0) rfl) (a_a (pv 1) a_d))))
   (a_c (a_w (i:=3) e_s.nd rfl (Or.inl rfl) (a_Q (pv 0) T.cl mBA.m GBA Y mBA.b .nil a_u (a_a (pv 2) a_d)))
   (a_c (a_w (i:=4) e_s.nd rfl (Or.inl rfl) (a_t (j_p rfl) (by rfl) T.sum PyProof.Rows.boot_sum (a_a (c_G (x:="block") (fns:= []) (js:= []) rfl
     ⟨rfl,by decide+kernel,by decide+kernel,rfl,by decide+kernel,by simp,rfl,by simp,rfl,by decide+kernel⟩ (a_T K (b_p (b_K K) (a_E (pv 0) rfl) b_6 (b_F (pv 3)))) (λ_ _ _ _=>b_J)
     (λ_ _ _ _=>a_t (a_B K) (by rfl) T.len s_G (a_a (pv 0) a_d))) a_d)))
   (a_c (a_C (a_m e_R (pv 3) (a_t (a_B K) (by rfl) T.len s_G (a_a (a_E (pv 0) rfl) a_d)) (a_q _))
     (a_f (a_w (i:=4) e_s.nd rfl (Or.inl rfl) (a_v a_V (pv 4) (a_Q (pv 0) T.cl mRA.m GRA Y mRA.b .nil a_u (a_a (a_r (a_G K) (a_E (pv 0) rfl) (pv 3) (λ_ _=>rfl)) (a_a (pv 2) a_d)))))) a_p)
   (a_f (a_o (pv 4)))))),?_⟩
  refine⟨_,rfl,o,C,dx,_,_,rfl,j,T.cl,T.nW,b_M _ _,_,rfl,w,a,ρ,rfl,ha,λk hk=> ?_⟩;have X:Same H (upd H k (.tup (a_I w ρ))):=Same.upd_new hk;refine⟨_,rfl,o,dx,_,rfl,X _ _ j,a_Z _ _ (by decide+kernel) (by decide+kernel),_,rfl,w,o,bl,k,bas,B,a_I w ρ,rfl,O.same X,a_b,λρ'=>c_x w ρ' ρ,G.srt,G.ne,λB₁ B₂ U s2 eB M hB2=> ?_⟩;have l:Same H U:=X.trans s2;have W:B₁.length<=bas.length:=by rw[n,eB,r_Z];omega
  refine⟨_,rfl,o,C,dx,_,_,rfl,l _ _ j,T.cl,T.nB,a_z _ _,_,rfl,_,rfl,bl,_,rfl,SqL.of (l _ _ p),λc1 f1=> ?_⟩;rw[h_8 (by rw[r_X];exact W),<-List.map_take];refine⟨c1,rfl,⟨_,SqL.of a_b⟩,λD fD=> ?_⟩;have q:c1≠D:=a_h a_b fD;have fD2:U D=none:=by rw[a_i q.symm] at fD;exact fD
  refine c_C (K:=K) (xs:=(bas.take B₁.length).map V.ref)
   (λi ys g=>Same U g/\g c1=some (.lst ((bas.take B₁.length).map V.ref))/\ys=((B.take i).map λb=>V.int b.length)) ?_ ?_ ?_ ?_
  ·refine⟨(Same.upd_new f1).trans (Same.upd_new fD),?_, by simp⟩
   rw[a_i q];exact a_b
  ·rintro i ys g _ _ ⟨_,h,_⟩
   exact SqL.of h
  ·rintro i v ys g J y ⟨r,L,rfl⟩
   rw[r_9] at J;cases e:(bas.take B₁.length)[i]? with
   | none=>rw[e] at J;cases J
   | some ab=>
     rw[e] at J;obtain rfl:V.ref ab=v:=r_4 J;have hil:=(s_b.mp e).1;rw[s_j] at hil;have e0:bas[i]? =some ab:=by rw[List.getElem?_take_of_lt (by omega)] at e;exact e
     obtain⟨b,hb⟩:∃b,B[i]? =some b:=⟨_,r_Y (by omega)⟩;obtain⟨ab',e',bs,Z,R⟩:=a_U t hb;rw[e0] at e';obtain rfl:ab=ab':=r_4 e';have hlb:=R.len;refine⟨_,rfl,ab,_,rfl,.inl (SqL.of (r _ _ (l _ _ Z))),y,?_, λc u h=> ?_, ?_, ?_⟩
     ·have:=G.len
      rw[r_X,s_j];exact s_d (m:=10000) (by omega) (by decide)
     ·rw[a_i (a_h h fD2)]
      exact r _ _ h
     ·rw[a_i q]
      exact L
     ·rw[s_o,hb,r_5,r_X,hlb]
      rfl
  ·rintro ys g y ⟨r,L,rfl⟩
   have hl':((bas.take B₁.length).map V.ref).length=B₁.length:=by rw[r_X,s_j];omega
   rw[hl'] at y;have eT:B.take B₁.length=B₁:=by rw[eB];exact (f_2 rfl).1
   rw[eT] at y;have d:Same H g:=l.trans r;refine⟨D,B₁.map λb=>(b.length:Int),rfl,SqL.of (by rw[List.map_map];exact y),?_⟩
   have esum:(B₁.map λb=>(b.length:Int)).sum=(((B₁.map List.length).sum:Nat):Int):=by
    rw[<-g_f,List.map_map];rfl
   rw[esum];refine⟨_,rfl,_,rfl,o,C,dx,_,_,rfl,d _ _ j,T.cl,T.nB,a_z _ _,bl,_,rfl,.inl (SqL.of (d _ _ p)),_,_,rfl,rfl,_,rfl,?_⟩;have z:=G.srt;cases B₂ with
   | nil=>
     rw[s_u] at eB;subst eB;refine a_x (λc=> ?_) (λc=> ?_)
     ·have:=s_F c
      rw[r_X,n] at this;omega
     ·refine⟨_,rfl,?_⟩
      rw[<-d_S (P:=λx=>ltR w x ρ) (c_c (P:=λx=>ltR w x ρ) (b_0 w (a_I w ρ)) z λc L=>c_B (M c L))];exact fin g d
   | cons b B₂=>
     subst eB;have S:=h_0 z M (hB2 b (r_1 ..)) (G.ne b (by simp));obtain⟨l₁,ab,l₂,rfl,hp1,I,hp2⟩:=b_d t;obtain⟨as,hab,R⟩:=id I;have N:l₁.length=B₁.length:=Paired.length hp1;have gb:((l₁++ab::l₂).map V.ref)[B₁.length]? =some (V.ref ab):=by rw[r_9,<-N,c_9];rfl
     refine a_x (λc=> ?_) (λc=> ?_)
     ·refine⟨_,rfl,_,rfl,o,dx,_,rfl,d _ _ j,a_Z _ _ (by decide+kernel) (by decide+kernel),_,rfl,o,C,dx,_,_,rfl,d _ _ j,T.cl,T.nB,a_z _ _,_,rfl,bl,_,_,_,rfl,rfl,SqL.of (d _ _ p),a_e gb,_,rfl,w,o,bl,dx,ab,k,b,a_I w ρ,rfl,d _ _ j,I.sameS d,r _ _ (s2 _ _ a_b),λρ'=>c_x w ρ' ρ,λH4 s4=> ?_⟩
      refine⟨_,_,rfl,rfl,_,rfl,?_⟩;have ec:=f_1 (P:=λx=>ltR w x ρ) (b_0 w (a_I w ρ)) z S.1 S.2;have:=fin H4 (d.trans s4);rw[ec] at this;exact this
     ·exact absurd (s_D (by rw[r_X];simp[N];omega)) c
def m_w (C:Addr):Sp:=λvs H Q _=>∃(w:Bool) (o bl:Addr) (bas:List Addr) (B:List (List Row)),vs= [.ref o]/\OrdAt C w H o bl bas B/\B.flatten.length < 10000/\∀(l:Addr) (H':Hp),H l=none->Same H H'->LstAt H' l B.flatten->Q (.ref l) H'
theorem j_0:a_s ["self","found","block"] ["self"] (a_n n_h):=⟨rfl,rfl,rfl,by decide+kernel,rfl,by decide+kernel,by decide+kernel⟩
theorem n_E {f C:Addr} {fd:FuncData} (F:Fun K "rows" "Order.rows" n_h f fd) (T:Txt K mg C):FnOk P w K mg base CX0 1 f fd ["self"] (m_w C):=by
 refine F.ok j_0 (λvs H Q E h=> ?_) (λcdv A outer s H vs Q E Z h=> ?_)
 ·obtain⟨w,o,bl,bas,B,rfl,_⟩:=h
  rfl
 ·obtain⟨w,o,bl,bas,B,rfl,O,Y,fin⟩:=h
  obtain⟨⟨dx,S⟩,t,z,U⟩:=id O;have k:bas.length=B.length:=Paired.length z
  refine⟨_,a_c (a_w (i:=1) j_0.nd rfl (Or.inl rfl) (a_P a_d))
   (a_c (b_Z PassesOwn.never rfl (a_T K (a_E (pv 0) rfl)) (b_b (i:=2) j_0.nd rfl (Or.inl rfl))
     (a_f (a_y (b_x s_H PySem.F.slot_list_extend PySem.F.type_list_extend d_h (pv 1) (a_a (pv 2) a_d)))))
   (a_f (a_o (pv 1)))),?_⟩
  refine⟨by show 0<=sizeLine;decide,λl r=> ?_⟩;have I:Same H (upd H l (.lst [])):=Same.upd_new r
  refine⟨_,rfl,o,C,dx,_,_,rfl,I _ _ S,T.cl,T.nB,a_z _ _,bl,rfl,⟨_,SqL.of (I _ _ t)⟩,b_X (K:=K) (a:=bl) (xs:=bas.map V.ref)
   (λi σ g=>∃v,σ= [some (.ref o),some (.ref l),v]/\Same H g/\LstAt g l (B.take i).flatten) ⟨none,rfl,I, [],a_b,.nil⟩ (λi σ g _ ⟨_,_,d,_⟩=>SqL.of (d _ _ t)) ?_ ?_⟩
  ·rintro i x σ g p ⟨v,rfl,d,as,j,y⟩
   rw[r_9] at p;cases e:bas[i]? with
   | none=>rw[e] at p;cases p
   | some ab=>
     rw[e] at p;obtain rfl:V.ref ab=x:=r_4 p;have J:i < B.length:=by rw[<-k];exact (s_b.mp e).1
     obtain⟨b,hb⟩:∃b,B[i]? =some b:=⟨_,r_Y J⟩;obtain⟨ab',e',bs,n,G⟩:=a_U z hb;rw[e] at e';obtain rfl:ab=ab':=r_4 e';have W:l≠ab:=(a_h n r).symm;have R:=y.len;have X:=G.len;have L:=f_r (B:=B) (i+1);rw[s_o,hb,s_k] at L;simp only[Option.toList_some,s_q,List.flatten_nil,s_u,r_Z] at L;refine⟨_,rfl,.inl ⟨rfl,_,SqL.of j⟩,_,rfl,l,ab,_,_,rfl,rfl,j,d _ _ n,?_, ?_⟩
     ·rw[r_X,r_X]
      exact Nat.le_of_lt (s_d (m:=10001) (by omega) (by decide))
     ·refine⟨_,rfl,λc u M=> ?_, as++bs,by rw[r_5];exact a_b,?_⟩
      ·rw[a_i (a_h M r)]
       exact d _ _ M
      ·rw[s_o,hb,s_k]
       simp only[Option.toList_some,s_q,List.flatten_nil,s_u];exact (RowsAt.app y (G.same λb xs q=>d _ _ q)).same (NoTup.keep (NoTup.lst j))
  ·rintro σ g ⟨v,rfl,d,N⟩
   rw[r_X,k,s_h (r_6 _)] at N;exact⟨_,rfl,fin l g r d N⟩
end
def btw (w:Bool) (lo hi:V) (x:Row):Bool:= !ltV (c_t w x) lo&& !ltV hi (c_t w x)
theorem p_v {a b c:V} (h:ltV a b=true) (hbc:b_j b c=true) (h2:ltV c b=false):ltV a c=true:=by
 by_cases e:b=c
 ·rw[<-e];exact h
 ·have:b_j c b=true:=by
   cases b <;> cases c <;> first | rfl | cases hbc
  exact e_i h (h_j this h2 (λq=>e q.symm))
theorem n_L {w:Bool} {lo hi:V} {x:Row} {t:List Row} (hs:Srt (ltR w) (x::t)) (h:ltV hi (c_t w x)=true):(x::t).filter (btw w lo hi)= []:=by
 rw[List.filter_eq_nil_iff];intro y hy
 have:ltV hi (c_t w y)=true:=by
  rcases r_8.mp hy with e | e
  ·rw[e];exact h
  ·exact p_v h (c_I w x y) (l_5 ((s_B.mp hs).1 y e))
 simp[btw,this]
theorem n_p {w:Bool} {lo hi:V} {l:List Row} (h:∀x∈l,ltV (c_t w x) lo=true):l.filter (btw w lo hi)= []:=by
 rw[List.filter_eq_nil_iff];intro y hy;simp[btw,h y hy]
section
variable {P:Program} {w:World} {K:PySem.W.Frag} {mg:Str->Option Value} {base:Heap}
def k_c (C:Addr):Sp:=λvs H Q _=>∃(w:Bool) (o bl:Addr) (bas:List Addr) (B:List (List Row)) (lo hi:V),vs= [.ref o,lo,hi]/\OrdAt C w H o bl bas B/\(∀ρ,b_j (c_t w ρ) lo=true)/\(∀ρ,b_j (c_t w ρ) hi=true)/\GoodB w B/\B.flatten.length < 10000/\
 ∀(l:Addr) (H':Hp),H l=none->Same H H'->LstAt H' l (B.flatten.filter (btw w lo hi))->Q (.ref l) H'
theorem f_j:a_s ["self","low","high","found","place","row","lead"] ["self","low","high"] (a_n n_Y):=⟨rfl,rfl,rfl,by decide+kernel,rfl,by decide+kernel,by decide+kernel⟩
theorem m_2 {f fL fBA C:Addr} {fd fdL fdBA:FuncData} (F:Fun K "between" "Order.between" n_Y f fd) (T:Txt K mg C) (gL:Gf K mg "lead_of" fL fdL ["word","row"]) (GL:FnOk P w K mg base CX0 1 fL fdL ["word","row"] k_G)
 (mBA:Mf K C "blocks_ahead" fBA fdBA ["self","key"]) (GBA:FnOk P w K mg base CX0 3 fBA fdBA ["self","key"] (o_W C)):
 FnOk P w K mg base CX0 4 f fd ["self","low","high"] (k_c C):=by
 refine F.ok f_j (λvs H Q E h=> ?_) (λcdv A outer s H vs Q E hr h=> ?_)
 ·obtain⟨w,o,bl,bas,B,lo,p,rfl,_⟩:=h
  rfl
 ·obtain⟨w,o,bl,bas,B,lo,p,rfl,O,alo,ahi,G,hsz,fin⟩:=h
  obtain⟨⟨dx,X⟩,a0,a4,hnd⟩:=id O;have hr1:Room 1 _:=hr.mono (by decide);have M:bas.length=B.length:=Paired.length a4
  refine⟨_,a_c (a_w (i:=3) f_j.nd rfl (Or.inl rfl) (a_P a_d))
   (a_c (a_w (i:=4) f_j.nd rfl (Or.inl rfl) (a_Q (pv 0) T.cl mBA.m GBA hr mBA.b .nil a_u (a_a (a_H (a_a (pv 1) a_d)) a_d)))
   (a_c (d_x PassesOwn.never (a_m e_R (pv 4) (a_t (a_B K) (by rfl) T.len s_G (a_a (a_E (pv 0) rfl) a_d)) (a_q _))
     (a_c (b_Z PassesOwn.never rfl (a_T K (a_r (a_G K) (a_E (pv 0) rfl) (pv 4) (fun _ _=>rfl))) (b_b (i:=5) f_j.nd rfl (Or.inl rfl))
       (a_c (a_w (i:=6) f_j.nd rfl (Or.inl rfl) (a_k GL hr1 rfl gL.mg gL.kp gL.b .nil a_u (a_a (a_E (pv 0) rfl) (a_a (pv 5) a_d))))
       (a_c (a_C (a_m o_6 (pv 6) (pv 2) (a_q _)) (a_f (a_o (pv 3))) a_p)
       (a_f (a_C (a_m p_o (pv 6) (pv 1) (a_q _)) (a_f (a_y (b_x s_H s_J s_I a_O (pv 3) (a_a (pv 5) a_d)))) a_p)))))
     (a_f (a_w (i:=4) f_j.nd rfl (Or.inl rfl) (a_v a_V (pv 4) a_g)))))
   (a_f (a_o (pv 3))))),?_⟩
  refine⟨by show 0<=sizeLine;decide,λl Z=> ?_⟩;have s1:Same H (upd H l (.lst [])):=Same.upd_new Z;refine⟨_,rfl,o,dx,_,rfl,s1 _ _ X,a_Z _ _ (by decide+kernel) (by decide+kernel),_,rfl,by show 1<=sizeLine;decide,λk hk=> ?_⟩;have hlk:l≠k:=a_h a_b hk;have s2:Same (upd H l (.lst [])) (upd (upd H l (.lst [])) k (.tup [lo])):=Same.upd_new hk;refine⟨w,o,bl,k,bas,B, [lo],rfl,(O.same s1).same s2,a_b,λρ=>⟨alo ρ,trivial⟩,G.srt,G.ne,λB₁ B₂ H2 n eB hB1 hB2=> ?_⟩;have s02:Same H H2:=(s1.trans s2).trans n;have hl2:H2 l=some (.lst []):=n _ _ (s2 _ _ a_b)
  refine⟨λm σ W=>∃(i:Nat) (t q:Option V),σ= [some (.ref o),some lo,some p,some (.ref l),some (.int i),t,q]/\Same H W/\i<=B.length/\m=B.length - i/\LstAt W l ((B.take i).flatten.filter (btw w lo p)),
   ⟨_,B₁.length,none,none,rfl,s02,by rw[eB,r_Z];omega,rfl, [],hl2,?_⟩,?_⟩
  ·have:B.take B₁.length=B₁:=by rw[eB];exact (f_2 rfl).1
   rw[this];have R:=G.srt;rw[eB,s_k,Srt.app] at R;have ha:=c_c (P:=λy=>b_c (a_I w y) [lo]) (b_0 w [lo]) R.1 λc hc=>c_B (hB1 c hc);rw[n_p λx hx=>by rw[<-l_2];exact ha x hx];exact .nil
  rintro m σ W ⟨i,t,q,rfl,n,hi',rfl,U⟩;refine⟨_,rfl,_,rfl,o,C,dx,_,_,rfl,n _ _ X,T.cl,T.nB,a_z _ _,bl,_,rfl,.inl (SqL.of (n _ _ a0)),_,_,rfl,rfl,_,rfl,?_⟩;refine a_x (λc=> ?_) (λc=> ?_)
  ·have I:i < B.length:=by
    have:=s_F c;rw[r_X,M] at this;omega
   obtain⟨b,hb⟩:∃b,B[i]? =some b:=⟨_,r_Y I⟩;obtain⟨ab,e,bs,a5,a2⟩:=a_U a4 hb;obtain⟨C₁,C₂,eC,lC⟩:=d_6 hb;have gb:(bas.map V.ref)[i]? =some (V.ref ab):=by rw[r_9,e];rfl
   have eT:B.take i=C₁:=by rw[eC,<-lC];exact (f_2 rfl).1
   have a3:(B.take (i+1)).flatten=C₁.flatten++b:=by rw[s_o,hb,eT];simp
   refine⟨λσ' H'=>∃(t q:Option V),σ'= [some (.ref o),some lo,some p,some (.ref l),some (.int (i+1:Nat)),t,q]/\Same H H'/\LstAt H' l ((B.take (i+1)).flatten.filter (btw w lo p)),?_, ?_⟩
   ·rintro σ' H' ⟨t,q,h1,h2,h3⟩
    exact⟨B.length - (i+1),by omega,i+1,t,q,h1,h2,I,rfl,h3⟩
   rw[eT] at U;have Y:=f_r (B:=B) (i+1);rw[a3,r_Z] at Y
   refine⟨_,rfl,o,C,dx,_,_,rfl,n _ _ X,T.cl,T.nB,a_z _ _,_,rfl,bl,_,_,_,rfl,rfl,SqL.of (n _ _ a0),a_e gb,ab,rfl,⟨_,SqL.of (n _ _ a5)⟩,b_X (K:=K) (a:=ab) (xs:=bs.map V.ref)
    (λj σ L=>∃(t q:Option V),σ= [some (.ref o),some lo,some p,some (.ref l),some (.int i),t,q]/\Same H L/\LstAt L l ((C₁.flatten++b.take j).filter (btw w lo p))) ⟨t,q,rfl,n,by simpa using U⟩ (λj σ L _ ⟨_,_,_,g,_⟩=>SqL.of (g _ _ a5)) ?_ ?_⟩
   ·rintro j x σ L S ⟨u1,u2,rfl,g,as,v,J⟩
    rw[r_9] at S;cases ej:bs[j]? with
    | none=>rw[ej] at S;cases S
    | some r=>
      rw[ej] at S;obtain rfl:V.ref r=x:=r_4 S;obtain⟨ρ,hρ,a1⟩:=a2.get' ej;have hla:=J.len;refine⟨_,rfl,o,C,dx,_,_,rfl,g _ _ X,T.cl,T.nW,b_M _ _,_,rfl,w,r,ρ,rfl,g _ _ a1,?_⟩;refine⟨_,rfl,_,rfl,ahi ρ,_,rfl,?_⟩;refine a_x (λc1=> ?_) (λc1=> ?_)
      ·-- behind the last
       refine⟨_,rfl,fin l L Z g ⟨as,v,?_⟩⟩;have R:=G.srt;obtain⟨b₁,b₂,eb,lb⟩:=d_6 hρ;have etb:b.take j=b₁:=by rw[eb,<-lb];exact (f_2 rfl).1
       have eall:B.flatten=(C₁.flatten++b₁)++(ρ::(b₂++C₂.flatten)):=by rw[eC,eb];simp
       rw[eall,Srt.app] at R;rw[eall,List.filter_append,n_L R.2.1 c1,s_u,<-etb];exact J
      ·refine⟨_,rfl,_,rfl,alo ρ,_,rfl,?_⟩
       have c1':ltV p (c_t w ρ)=false:=by simpa using c1
       have etb:b.take (j+1)=b.take j++ [ρ]:=by rw[s_o,hρ];rfl
       refine a_x (λc2=> ?_) (λc2=> ?_)
       ·refine⟨_,rfl,.inl ⟨rfl,_,SqL.of v⟩,_,rfl,l,_,_,rfl,rfl,v,?_, ?_⟩
        ·rw[r_X,hla]
         refine s_C (s_y _ _) ?_;rw[r_Z,s_j];exact s_d (m:=10000) (by omega) (by decide)
        ·refine⟨_,_,rfl,λd u hd=> ?_, as++ [r],by rw[r_5];exact a_b,?_⟩
         ·rw[a_i (a_h hd Z)]
          exact g _ _ hd
         ·have N:ltV (c_t w ρ) lo=false:=by simpa using c2
          rw[etb,<-List.append_assoc,List.filter_append,s_m];have:btw w lo p ρ=true:=by simp[btw,c1',N]
          rw[if_pos this];exact (RowsAt.app J (.cons (g _ _ a1) .nil)).same (NoTup.keep (NoTup.lst v))
       ·refine⟨_,_,rfl,g,as,v,?_⟩
        have N:ltV (c_t w ρ) lo=true:=by simpa using c2
        rw[etb,<-List.append_assoc,List.filter_append,s_m];have:¬ btw w lo p ρ=true:=by simp[btw,N]
        rw[if_neg this];simpa using J
   ·rintro σ L ⟨u1,u2,rfl,g,h4⟩
    have hlb:=a2.len;rw[r_X,hlb,s_h (r_6 _)] at h4;refine⟨_,rfl,_,_,rfl,rfl,_,_,rfl,g,?_⟩;rw[a3];exact h4
  ·have I:i=B.length:=by
    have:¬ ((i:Int) < _):=λz=>c (s_D z);rw[r_X,M] at this;omega
   refine⟨_,rfl,fin l W Z n ?_⟩;rw[I,s_h (r_6 _)] at U;exact U
def m_t (C:Addr):Sp:=λvs H Q _=>∃(w:Bool) (p dx:Addr),vs= [.ref p,.str (e_A w)]/\H p=some (.ins C dx [])/\∀(bl:Addr) (H':Hp),H bl=none->OrdAt C w H' p bl [] []->(∀b u,H b=some u->b≠p->H' b=some u)->Q .non H'
theorem o_C:a_s ["self","word"] ["self","word"] (a_n n_w):=⟨rfl,rfl,rfl,by decide+kernel,rfl,by decide+kernel,by decide+kernel⟩
theorem o_d {f fCW C:Addr} {fd fdCW:FuncData} (F:Fun K "__init__" "Order.__init__" n_w f fd) (T:Txt K mg C) (gCW:Gf K mg "check_word" fCW fdCW ["word"]) (GCW:FnOk P w K mg base CX0 1 fCW fdCW ["word"] r_e):FnOk P w K mg base CX0 2 f fd ["self","word"] (m_t C):=by
 refine F.ok o_C (λvs H Q E h=> ?_) (λcdv A outer s H vs Q E j h=> ?_)
 ·obtain⟨w,p,dx,rfl,_⟩:=h
  rfl
 ·obtain⟨w,p,dx,rfl,i,fin⟩:=h
  refine⟨_,a_c (a_y (a_k GCW j rfl gCW.mg gCW.kp gCW.b .nil a_u (a_a (pv 1) a_d)))
   (a_c (d_u (pv 0) (pv 1) rfl) (a_f (d_u (pv 0) (a_P a_d) rfl))),?_⟩
  refine⟨_,rfl,w,rfl,?_⟩;refine⟨_,rfl,_,rfl,p,C,dx,_,rfl,i,T.cl,T.nW,(by show 0 < 1000;decide),?_⟩;refine⟨by show 0<=sizeLine;decide,λbl a=> ?_⟩;have d:p≠bl:=a_h a_b a;have c:H bl=none:=by rw[a_i d.symm] at a;exact a
  refine⟨_,rfl,p,C,dx,_,rfl,(by rw[a_i d];exact a_b),T.cl,T.nB,(by show 1 < 1000;decide),?_⟩;refine fin bl _ c ⟨⟨dx,a_b⟩,by rw[a_i d.symm];exact a_b,.nil,by simp⟩ λb u e g=> ?_;rw[a_i g,a_i (a_h e c),a_i g];exact e
end
end K1
namespace TO
open PySem L2
inductive D where
 | int (i:Int)
 | str (x:Str)
 | lst (ds:List D)
 | tup (ds:List D)
mutual
inductive Bears (H:Hp):D->V->Prop
 | int (i:Int):Bears H (.int i) (.int i)
 | str (x:Str):Bears H (.str x) (.str x)
 | lst {a:Addr} {ds:List D} {vs:List V}:H a=some (.lst vs)->BearsL H ds vs->Bears H (.lst ds) (.ref a)
 | tup {a:Addr} {ds:List D} {vs:List V}:H a=some (.tup vs)->BearsL H ds vs->Bears H (.tup ds) (.ref a)
inductive BearsL (H:Hp):List D->List V->Prop
 | nil:BearsL H [] []
 | cons {d:D} {v:V} {ds:List D} {vs:List V}:Bears H d v->BearsL H ds vs->BearsL H (d::ds) (v::vs)
end
mutual
def D.wt:D->Nat
 | .int _=>1
 | .str _=>1
 | .lst ds=>1+D.wts ds
 | .tup ds=>1+D.wts ds
def D.wts:List D->Nat
 | []=>0
 | d::r=>D.wt d+D.wts r
end
theorem D.wt_pos:∀d:D,1<=d.wt
 | .int _=>r_6 _
 | .str _=>r_6 _
 | .lst ds=>by simp only[D.wt];omega
 | .tup ds=>by simp only[D.wt];omega
theorem D.wts_app:∀a b:List D,D.wts (a++b)=D.wts a+D.wts b
 | [],b=>by simp[D.wts]
 | d::r,b=>by simp only[List.cons_append,D.wts,D.wts_app r b];omega
theorem D.wts_len:∀a:List D,a.length<=D.wts a
 | []=>s_p _
 | d::r=>by
   have h1:=D.wt_pos d;have h2:=D.wts_len r;simp only[r_3,D.wts];omega
theorem BearsL.len {H:Hp}:∀{ds:List D} {vs:List V},BearsL H ds vs->ds.length=vs.length
 | _,_,.nil=>rfl
 | _,_,.cons _ t=>by simp[BearsL.len t]
theorem BearsL.app {H:Hp}:∀{ds es:List D} {vs us:List V},BearsL H ds vs->BearsL H es us->BearsL H (ds++es) (vs++us)
 | _,_,_,_,.nil,h=>h
 | _,_,_,_,.cons a t,h=> .cons a (BearsL.app t h)
theorem BearsL.snoc {H:Hp}:∀{ds:List D} {d:D} {vs:List V},BearsL H (ds++ [d]) vs->∃us v,vs=us++ [v]/\BearsL H ds us/\Bears H d v
 | [],d,_,.cons h .nil=>⟨[],_,rfl,.nil,h⟩
 | e::ds,d,_,.cons h t=>by
   obtain⟨us,v,rfl,h1,h2⟩:=BearsL.snoc (ds:=ds) t;exact⟨_::us,v,rfl,.cons h h1,h2⟩
def j_W (ρ:Row):D:= .tup [.int ρ.n,.int ρ.r,.str ρ.t]
theorem RowAt.bears {H:Hp} {a:Addr} {ρ:Row} (h:RowAt H a ρ):Bears H (j_W ρ) (.ref a):= .tup h (.cons (.int _) (.cons (.int _) (.cons (.str _) .nil)))
theorem RowsAt.bears {H:Hp}:∀{as:List Addr} {ρs:List Row},RowsAt H as ρs->BearsL H (ρs.map j_W) (as.map .ref)
 | _,_,.nil=> .nil
 | _,_,.cons h t=> .cons (RowAt.bears h) (RowsAt.bears t)
theorem LstAt.bears {H:Hp} {l:Addr} {ρs:List Row} (h:LstAt H l ρs):Bears H (.lst (ρs.map j_W)) (.ref l):=by
 obtain⟨as,h1,h2⟩:=h;exact .lst h1 (RowsAt.bears h2)
theorem j_U:∀ρs:List Row,D.wts (ρs.map j_W)=4 * ρs.length
 | []=>rfl
 | ρ::r=>by simp only[s_c,D.wts,j_U r,j_W,D.wt,r_3];omega
end TO
namespace K1
open PySem L2 TO
theorem a_1 {X:Cx} (K:PySem.W.Frag) (hK:X.K=K:=by rfl):d_a X (.builtin "isinstance") (λxs H Q=>∃x n t b,xs= [x,.ty n]/\g_0 K H x t/\PySem.W.kitOne K t (.type n)=some b/\Q (.bl b) H):=by subst hK;exact l_I
structure Bt (mg:Str->Option Value):Prop where
 len:mg "len"=none
 min:mg "min"=none
 isi:mg "isinstance"=none
 int:mg "int"=none
 bool:mg "bool"=none
 list:mg "list"=none
 tuple:mg "tuple"=none
 str:mg "str"=none
 sorted:mg "sorted"=none
 range:mg "range"=none
theorem b_G {X:Cx} {x:Str} {n:String} {pos:Pos} (hm:X.mg x=none) (hv:bootBuiltins x=some (.type n)) (hg:Gl X x:=by rfl) (hn:x≠"__name__":=by decide) (hd:(x == ("__debug__":Str))=false:=by decide):PE X (.Name x pos) (tC (.ty n)):=n_o hg hm hv rfl hn hd
theorem f_X:bootBuiltins "int"=some (.type "int"):=by decide+kernel
theorem p_a:bootBuiltins "bool"=some (.type "bool"):=by decide+kernel
theorem e_N:bootBuiltins "list"=some (.type "list"):=by decide+kernel
theorem e_P:bootBuiltins "tuple"=some (.type "tuple"):=by decide+kernel
theorem n_e:bootBuiltins "str"=some (.type "str"):=by decide+kernel
theorem c_V:bootBuiltins "isinstance"=some (.builtin "isinstance"):=by decide+kernel
section
variable {P:Program} {w:World} {K:PySem.W.Frag} {mg:Str->Option Value} {base:Heap}
def g_3:Sp:=λvs H Q _=>∃i,vs= [.int i]/\Q (.bl true) H
theorem m_N:a_s ["_law_found"] ["_law_found"] (a_n j_x):=⟨rfl,rfl,rfl,by decide+kernel,rfl,by decide+kernel,by decide+kernel⟩
theorem l_B {f:Addr} {fd:FuncData} (F:Fun K "_law_whole" "_law_whole" j_x f fd) (B:Bt mg):FnOk P w K mg base CX0 1 f fd ["_law_found"] g_3:=by
 refine F.ok m_N (λvs H Q E h=> ?_) (λcdv A outer s H vs Q E a h=> ?_)
 ·obtain⟨i,rfl,_⟩:=h
  rfl
 ·obtain⟨i,rfl,k⟩:=h
  refine⟨_,a_f (a_o (i_9 (a_t (a_1 K) (by rfl) B.isi c_V (a_a (pv 0) (a_a (b_G B.int f_X) a_d))) (j_V (o_9 (a_t (a_1 K) (by rfl) B.isi c_V (a_a (pv 0) (a_a (b_G B.bool p_a) a_d))))))),?_⟩;refine⟨_,rfl,_,_,_,_,rfl,.int i,rfl,_,rfl,?_⟩;exact⟨_,rfl,_,_,_,_,rfl,.int i,rfl,_,rfl,k⟩
theorem r_O:a_s ["_law_script","_law_k"] ["_law_script","_law_k"] (a_n sAt):=⟨rfl,rfl,rfl,by decide+kernel,rfl,by decide+kernel,by decide+kernel⟩
theorem k_d {α:Type} (us:List α) (v:α):(us++ [v])[(us++ [v]).length - 1]? =some v:=by simp
def m_m:Sp:=λvs H Q _=>∃(t:D) (f d:V),vs= [f,d]/\Bears H t f/\Bears H t d/\t.wt < 100000/\∀H',Same H H'->Q (.bl true) H'
theorem g_k:a_s ["_law_found","_law_due","_law_left","_law_right","_law_one","_law_two"] ["_law_found","_law_due"] (a_n o_q):=⟨rfl,rfl,rfl,by decide+kernel,rfl,by decide+kernel,by decide+kernel⟩
theorem n_g {f fW:Addr} {fd fdW:FuncData} (F:Fun K "_law_same" "_law_same" o_q f fd) (B:Bt mg) (gW:Gf K mg "_law_whole" fW fdW ["_law_found"]) (GW:FnOk P w K mg base CX0 1 fW fdW ["_law_found"] g_3):
 FnOk P w K mg base CX0 2 f fd ["_law_found","_law_due"] m_m:=by
 refine F.ok g_k (λvs H Q E h=> ?_) (λcdv A outer s H vs Q E hr h=> ?_)
 ·obtain⟨t,f,d,rfl,_⟩:=h
  rfl
 ·obtain⟨t,x,y,rfl,hx,hy,hw,fin⟩:=h
  refine⟨_,a_c (a_w (i:=2) g_k.nd rfl (Or.inl rfl) (a_P (a_a (pv 0) a_d)))
   (a_c (a_w (i:=3) g_k.nd rfl (Or.inl rfl) (a_P (a_a (pv 1) a_d)))
   (a_c (d_x PassesOwn.never (a_m (l_j hr.units0) (pv 3) (a_P a_d) (a_q _))
     (a_c (a_w (i:=4) g_k.nd rfl (Or.inl rfl) (e_v s_H PySem.F.slot_list_pop PySem.F.type_list_pop f_3 (pv 2)))
     (a_c (a_w (i:=5) g_k.nd rfl (Or.inl rfl) (e_v s_H PySem.F.slot_list_pop PySem.F.type_list_pop f_3 (pv 3)))
     (a_f (a_C (b_s (a_t j_i (by rfl) B.isi c_V (a_a (pv 5) (a_a (a_H (a_a (b_G B.list e_N) (a_a (b_G B.tuple e_P) a_d))) a_d))))
       (a_c (a_C (a_m d_m (a_t (a_1 K) (by rfl) B.isi c_V (a_a (pv 4) (a_a (b_G B.list e_N) a_d))) (a_t (a_1 K) (by rfl) B.isi c_V (a_a (pv 5) (a_a (b_G B.list e_N) a_d))) (a_q _)) (a_f (a_o d_o)) a_p)
       (a_c (a_C (PW.pt (c_D (a_m d_m (a_t (a_1 K) (by rfl) B.isi c_V (a_a (pv 4) (a_a (b_G B.tuple e_P) a_d))) (a_t (a_1 K) (by rfl) B.isi c_V (a_a (pv 5) (a_a (b_G B.tuple e_P) a_d))) (a_q _))
         (b_I (a_m d_m (a_t (a_B K) (by rfl) B.len s_G (a_a (pv 4) a_d)) (a_t (a_B K) (by rfl) B.len s_G (a_a (pv 5) a_d)) (a_q _))))) (a_f (a_o d_o)) a_p)
       (a_c (a_y (b_x s_H PySem.F.slot_list_extend PySem.F.type_list_extend (MtR.or d_h f_h) (pv 2) (a_a (pv 4) a_d)))
       (a_f (a_y (b_x s_H PySem.F.slot_list_extend PySem.F.type_list_extend (MtR.or d_h f_h) (pv 3) (a_a (pv 5) a_d)))))))
       (a_f (a_C (b_s (a_t (a_1 K) (by rfl) B.isi c_V (a_a (pv 5) (a_a (b_G B.str n_e) a_d))))
         (a_f (a_C (PW.pt (c_D (b_1 (b_s (a_t (a_1 K) (by rfl) B.isi c_V (a_a (pv 4) (a_a (b_G B.str n_e) a_d))))) (b_I (a_m d_m (pv 4) (pv 5) (a_q _))))) (a_f (a_o d_o)) a_p))
         (a_f (a_C (PW.pt (c_D (b_1 (b_s (a_k GW hr rfl gW.mg gW.kp gW.b .nil a_u (a_a (pv 4) a_d)))) (b_I (a_m d_m (pv 4) (pv 5) (a_q _))))) (a_f (a_o d_o)) a_p)))))))))
   (a_f (a_o d_o)))),?_⟩
  refine⟨_,rfl,by show 1<=sizeLine;decide,λl J=> ?_⟩;refine⟨_,rfl,by show 1<=sizeLine;decide,λr S=> ?_⟩;have o:l≠r:=a_h a_b S;have L:H r=none:=by rw[a_i o.symm] at S;exact S
  refine⟨λm σ M=>∃(ts:List D) (ls rs:List V) (X W:Option V),σ= [some x,some y,some (.ref l),some (.ref r),X,W]/\Same H M/\M l=some (.lst ls)/\M r=some (.lst rs)/\BearsL H ts ls/\BearsL H ts rs/\m=D.wts ts/\D.wts ts < 100000,
   ⟨_, [t], [x], [y],none,none,rfl,(Same.upd_new J).trans (Same.upd_new S),by rw[a_i o];exact a_b,a_b,.cons hx .nil,.cons hy .nil,rfl,by simp only[D.wts];omega⟩,?_⟩
  rintro m σ M ⟨ts,ls,rs,X,W,rfl,s2,a0,U,b1,b2,rfl,hwt⟩;refine⟨_,rfl,by show 0<=sizeLine;decide,λn hn=> ?_⟩;have O:Same M (upd M n (.lst [])):=Same.upd_new hn;refine⟨r,n,rs,rfl,rfl,SqL.of (O _ _ U),a_b,_,rfl,?_⟩;rcases List.eq_nil_or_concat ts with e | ⟨ts',t',e⟩
  ·subst e
   cases b2;exact fin _ (s2.trans O)
  ·rw[List.concat_eq_append] at e
   subst e;obtain⟨ls',one,rfl,c1,c2⟩:=b1.snoc;obtain⟨rs',two,rfl,d1,d2⟩:=b2.snoc;have hne:(!(rs'++ [two]).isEmpty)=true:=by simp
   rw[show (if true=true then !(rs'++ [two]).isEmpty else (rs'++ [two]).isEmpty)=true from hne];refine k_S ?_;have hnl:l≠n:=a_h a0 hn;have hnr:r≠n:=a_h U hn;rw[D.wts_app] at hwt;have C:D.wts [t']=t'.wt:=by simp[D.wts]
   rw[C] at hwt;have hwp:=t'.wt_pos
   -- what a turn has to reach
   refine⟨λσ' H'=>∃(ts:List D) (ls rs:List V) (X W:Option V),σ'= [some x,some y,some (.ref l),some (.ref r),X,W]/\Same H H'/\H' l=some (.lst ls)/\H' r=some (.lst rs)/\BearsL H ts ls/\BearsL H ts rs/\D.wts ts < D.wts (ts'++ [t']),?_, ?_⟩
   ·rintro σ' H' ⟨us,ls,rs,X,W,Y,Z,e3,e4,e5,e6,e7⟩
    have:=e7;rw[D.wts_app,C] at this;exact⟨D.wts us,e7,us,ls,rs,X,W,Y,Z,e3,e4,e5,e6,rfl,by omega⟩
   refine⟨_,rfl,.inl ⟨rfl,_,SqL.of (O _ _ a0)⟩,l,_,_,rfl,rfl,O _ _ a0,k_d _ _,?_⟩;rw[List.dropLast_concat];refine⟨_,rfl,.inl ⟨rfl,_,SqL.of (by rw[a_i o.symm];exact O _ _ U)⟩,r,_,_,rfl,rfl,(by rw[a_i o.symm];exact O _ _ U),k_d _ _,?_⟩;rw[List.dropLast_concat];generalize a3:upd (upd (upd M n (.lst [])) l (.lst ls')) r (.lst rs')=H4
   have s4:Same H H4:=λb u q=>by
    rw[<-a3,a_i (a_h q L),a_i (a_h q J)];exact O _ _ (s2 _ _ q)
   have hl4:H4 l=some (.lst ls'):=by rw[<-a3,a_i o];exact a_b
   have hr4:H4 r=some (.lst rs'):=by rw[<-a3];exact a_b
   have hlz:ls'.length < 100000:=by have:=D.wts_len ts';rw[<-c1.len];omega
   have hrz:rs'.length < 100000:=by have:=D.wts_len ts';rw[<-d1.len];omega
   refine⟨_,rfl,by show 2<=sizeLine;decide,λk hk=> ?_⟩;have s5:Same H4 (upd H4 k (.tup [.ty "list",.ty "tuple"])):=Same.upd_new hk;generalize hH5:upd H4 k (.tup [.ty "list",.ty "tuple"])=H5 at s5;have T:H5 k=some (.tup [.ty "list",.ty "tuple"]):=by rw[<-hH5];exact a_b
   have g:Same H H5:=s4.trans s5;have v:=s5 _ _ hl4;have R:=s5 _ _ hr4;cases c2 with
   | int i=>
     cases d2;refine⟨_,k, ["list","tuple"],"int",false,rfl,.int i,.inl rfl,T,rfl,_,rfl,?_⟩;refine⟨_,rfl,_,_,_,_,rfl,.int i,rfl,_,rfl,?_⟩;refine⟨_,rfl,i,rfl,_,rfl,?_⟩;refine⟨_,rfl,_,rfl,rfl,_,rfl,?_⟩;refine a_x (λc=>absurd c (by simp)) (λc=> ?_);exact⟨ts',ls',rs',_,_,rfl,g,v,R,c1,d1,by rw[D.wts_app,C];omega⟩
   | str z=>
     cases d2;refine⟨_,k, ["list","tuple"],"str",false,rfl,.str z,.inr (.inl rfl),T,rfl,_,rfl,?_⟩;refine⟨_,rfl,_,_,_,_,rfl,.str z,rfl,_,rfl,?_⟩;refine⟨_,rfl,_,_,_,_,rfl,.str z,rfl,_,rfl,?_⟩;refine⟨_,rfl,_,rfl,rfl,_,rfl,?_⟩;refine a_x (λc=>absurd c (by simp)) (λc=> ?_);exact⟨ts',ls',rs',_,_,rfl,g,v,R,c1,d1,by rw[D.wts_app,C];omega⟩
   | @lst a1 ds vs1 ha1 hv1=>
     cases d2 with
     | @lst N _ p j G=>
     have Y:=hv1.len;have Z:=G.len;have hdw:(D.lst ds).wt=1+D.wts ds:=rfl;have hds:=D.wts_len ds;have n1:a1≠l:=a_h ha1 J;have n2:N≠l:=a_h j J;have n3:a1≠r:=a_h ha1 L;refine⟨_,k, ["list","tuple"],"list",true,rfl,.lst (g _ _ j),.inr (.inr (.inl rfl)),T,rfl,_,rfl,?_⟩;refine⟨_,rfl,_,_,_,_,rfl,.lst (g _ _ ha1),rfl,_,rfl,_,_,_,_,rfl,.lst (g _ _ j),rfl,rfl,_,rfl,?_⟩;refine a_x (λc=>absurd c (by simp)) (λ_=> ?_);refine⟨_,rfl,_,_,_,_,rfl,.lst (g _ _ ha1),rfl,_,rfl,_,_,_,_,rfl,.lst (g _ _ j),rfl,rfl,_,rfl,?_⟩;refine a_x (λc=>absurd c (by simp)) (λ_=> ?_);refine⟨_,rfl,a1,_,rfl,.inl (SqL.of (g _ _ ha1)),_,rfl,N,_,rfl,.inl (SqL.of (g _ _ j)),rfl,_,rfl,?_⟩;refine a_x (λc=>absurd c (by simp[<-Y,<-Z])) (λ_=> ?_);have z1:ls'.length+vs1.length<=sizeLine:=s_i (m:=200000) (by omega) (by decide);have z2:rs'.length+p.length<=sizeLine:=s_i (m:=200000) (by omega) (by decide);refine⟨_,rfl,.inl ⟨rfl,_,SqL.of v⟩,_,rfl,.inl ⟨l,a1,ls',vs1,rfl,rfl,v,g _ _ ha1,z1,?_⟩⟩;have I:(upd H5 l (.lst (ls'++vs1))) r=some (.lst rs'):=by rw[a_i o.symm];exact R
     refine⟨_,rfl,.inl ⟨rfl,_,SqL.of I⟩,_,rfl,.inl ⟨r,N,rs',p,rfl,rfl,I,by rw[a_i n2];exact g _ _ j,z2,?_⟩⟩;refine⟨ts'++ds,ls'++vs1,rs'++p,_,_,rfl,λb u q=> ?_, by rw[a_i o];exact a_b,a_b,c1.app hv1,d1.app G,?_⟩
     ·rw[a_i (a_h q L),a_i (a_h q J)]
      exact g _ _ q
     ·rw[D.wts_app,D.wts_app,C,hdw]
      omega
   | @tup a1 ds vs1 ha1 hv1=>
     cases d2 with
     | @tup N _ p j G=>
     have Y:=hv1.len;have Z:=G.len;have hdw:(D.tup ds).wt=1+D.wts ds:=rfl;have hds:=D.wts_len ds;have n1:a1≠l:=a_h ha1 J;have n2:N≠l:=a_h j J;have n3:a1≠r:=a_h ha1 L;refine⟨_,k, ["list","tuple"],"tuple",true,rfl,.tup (g _ _ j),.inr (.inr (.inr rfl)),T,rfl,_,rfl,?_⟩;refine⟨_,rfl,_,_,_,_,rfl,.tup (g _ _ ha1),rfl,_,rfl,_,_,_,_,rfl,.tup (g _ _ j),rfl,rfl,_,rfl,?_⟩;refine a_x (λc=>absurd c (by simp)) (λ_=> ?_);refine⟨_,rfl,_,_,_,_,rfl,.tup (g _ _ ha1),rfl,_,rfl,_,_,_,_,rfl,.tup (g _ _ j),rfl,rfl,_,rfl,?_⟩;refine a_x (λc=>absurd c (by simp)) (λ_=> ?_);refine⟨_,rfl,a1,_,rfl,.inr (SqT.of (g _ _ ha1)),_,rfl,N,_,rfl,.inr (SqT.of (g _ _ j)),rfl,_,rfl,?_⟩;refine a_x (λc=>absurd c (by simp[<-Y,<-Z])) (λ_=> ?_);have z1:ls'.length+vs1.length<=sizeLine:=s_i (m:=200000) (by omega) (by decide);have z2:rs'.length+p.length<=sizeLine:=s_i (m:=200000) (by omega) (by decide);refine⟨_,rfl,.inl ⟨rfl,_,SqL.of v⟩,_,rfl,.inr ⟨l,a1,ls',vs1,rfl,rfl,v,g _ _ ha1,z1,?_⟩⟩;have I:(upd H5 l (.lst (ls'++vs1))) r=some (.lst rs'):=by rw[a_i o.symm];exact R
     refine⟨_,rfl,.inl ⟨rfl,_,SqL.of I⟩,_,rfl,.inr ⟨r,N,rs',p,rfl,rfl,I,by rw[a_i n2];exact g _ _ j,z2,?_⟩⟩;refine⟨ts'++ds,ls'++vs1,rs'++p,_,_,rfl,λb u q=> ?_, by rw[a_i o];exact a_b,a_b,c1.app hv1,d1.app G,?_⟩
     ·rw[a_i (a_h q L),a_i (a_h q J)]
      exact g _ _ q
     ·rw[D.wts_app,D.wts_app,C,hdw]
      omega
end
def o_t:List Str:= ["","a","ab","b","B","~"]
theorem j_K:∀{i:Nat} {t:Str},o_t[i]? =some t->t.length<=2
 | 0,t,h=>by obtain rfl:=r_4 h;decide
 | 1,t,h=>by obtain rfl:=r_4 h;decide
 | 2,t,h=>by obtain rfl:=r_4 h;decide
 | 3,t,h=>by obtain rfl:=r_4 h;decide
 | 4,t,h=>by obtain rfl:=r_4 h;decide
 | 5,t,h=>by obtain rfl:=r_4 h;decide
 | n+6,t,h=>by simp[o_t] at h
theorem h_4 (z:Int):∃t:Str,atI (o_t.map V.str) (z % 6)=some (.str t)/\t.length<=2:=by
 have b:=Int.emod_nonneg z (show (6:Int)≠0 by decide);have c:=Int.emod_lt_of_pos z (show (0:Int) < 6 by decide);obtain⟨j,hj⟩:∃j:Nat,z % 6=(j:Int):=⟨(z % 6).toNat,by omega⟩;have a:j < o_t.length:=by show _ < 6;omega
 refine⟨o_t[j],?_, j_K (r_Y a)⟩;rw[hj];refine a_e ?_;rw[r_9,r_Y a];rfl
def i1 (b:Bool):Int:=if b=true then 1 else 0
theorem i_a (b:Bool): -(2 ^ 64) < i1 b/\i1 b < 2 ^ 64:=by cases b <;> decide
def far (n:Int):Int:=if n=25 then 10 ^ 20 else if n=24 then 0 - 10 ^ 20 else n
def f_b (s:Int):Int:=1000 * (s / 7 % 10 ^ 27) * i1 (decide (V.int (s % 3)=V.int 1))
def b_w (n s:Int):Int:=n+f_b s * i1 (decide (9 < n))
theorem p_h (n:Int):atI [V.int n,V.int (10 ^ (20:Int).toNat),V.int (0 - 10 ^ (20:Int).toNat)] (i1 (decide (V.int n=V.int 25))+2 * i1 (decide (V.int n=V.int 24)))=some (V.int (far n)):=by
 unfold far;by_cases b:n=25
 ·subst b
  exact a_e (j:=1) rfl
 ·by_cases a:n=24
  ·subst a
   exact a_e (j:=2) rfl
  ·have c:decide (V.int n=V.int 25)=false:=s_E λq=>b (by injection q)
   have d:decide (V.int n=V.int 24)=false:=s_E λq=>a (by injection q);rw[c,d,if_neg b,if_neg a];exact a_e (j:=0) rfl
section
variable {P:Program} {w:World} {K:PySem.W.Frag} {mg:Str->Option Value} {base:Heap}
def g_Y:Sp:=λvs H Q _=>vs= []/\∀(l:Addr) (H':Hp),H l=none->Same H H'->H' l=some (.lst (o_t.map V.str))->Q (.ref l) H'
theorem n_0:a_s [] [] (a_n k_q):=⟨rfl,rfl,rfl,by decide+kernel,rfl,by decide+kernel,by decide+kernel⟩
theorem l_R {f:Addr} {fd:FuncData} (F:Fun K "_law_texts" "_law_texts" k_q f fd):FnOk P w K mg base CX0 1 f fd [] g_Y:=by
 refine F.ok n_0 (λvs H Q E h=> ?_) (λcdv A outer s H vs Q E b h=> ?_)
 ·obtain⟨rfl,_⟩:=h
  rfl
 ·obtain⟨rfl,k⟩:=h
  refine⟨_,a_f (a_o (a_P (a_a a_l (a_a a_l (a_a a_l (a_a a_l (a_a a_l (a_a a_l a_d)))))))),?_⟩;exact⟨by show 6<=sizeLine;decide,λl a=>k l _ a (Same.upd_new a) a_b⟩
def h_t:Sp:=λvs H Q _=>∃(n c:Int),vs= [.int n,.int c]/\∀(a:Addr) (ρ:Row) (H':Hp),H a=none->Same H H'->RowAt H' a ρ->ρ.n=n->ρ.t.length<=2->Q (.ref a) H'
theorem h_i:a_s ["_law_number","_law_cell","_law_rank"] ["_law_number","_law_cell"] (a_n k_f):=⟨rfl,rfl,rfl,by decide+kernel,rfl,by decide+kernel,by decide+kernel⟩
theorem l_4 {f fT:Addr} {fd fdT:FuncData} (F:Fun K "_law_drawn_row" "_law_drawn_row" k_f f fd) (gT:Gf K mg "_law_texts" fT fdT []) (GT:FnOk P w K mg base CX0 1 fT fdT [] g_Y):FnOk P w K mg base CX0 2 f fd ["_law_number","_law_cell"] h_t:=by
 refine F.ok h_i (λvs H Q E h=> ?_) (λcdv A outer s H vs Q E r h=> ?_)
 ·obtain⟨n,c,rfl,_⟩:=h
  rfl
 ·obtain⟨n,c,rfl,k⟩:=h
  refine⟨_,a_c (a_w (i:=2) h_i.nd rfl (Or.inl rfl) (a_v b_S (a_v a_S (pv 1) a_g) a_g))
   (a_c (a_C (a_m a_J (pv 2) a_g (a_q _)) (a_f (a_w (i:=2) h_i.nd rfl (Or.inl rfl) a_g)) a_p)
   (a_f (a_o (a_H (a_a (pv 0) (a_a (pv 2) (a_a (a_r (a_G K) (d_d GT r rfl gT.mg gT.kp gT.b .nil a_u) (a_v a_S (a_v a_3 (pv 1) a_g) a_g) (λ_ _=>rfl)) a_d))))))),?_⟩
  obtain⟨t,m,j⟩:=h_4 (c / 8);refine⟨_,rfl,_,_,rfl,rfl,(show (0:Int) < 8 by decide),_,_,rfl,rfl,_,rfl,rfl,_,rfl,?_⟩;refine a_x (λq=> ?_) (λq=> ?_)
  ·refine⟨_,rfl,_,rfl,rfl,λl p o d g=>⟨_,rfl,_,_,rfl,rfl,⟨by decide,by decide⟩,_,_,rfl,rfl,(show (0:Int) < 6 by decide),l,_,_,_,rfl,rfl,SqL.of g,m,by show 3<=sizeLine;decide,λa e=> ?_⟩⟩
   exact k a ⟨n,1000000000000,t⟩ _ (d.free e) (d.trans (Same.upd_new e)) a_b rfl j
  ·refine⟨_,rfl,_,rfl,rfl,λl p o d g=>⟨_,rfl,_,_,rfl,rfl,⟨by decide,by decide⟩,_,_,rfl,rfl,(show (0:Int) < 6 by decide),l,_,_,_,rfl,rfl,SqL.of g,m,by show 3<=sizeLine;decide,λa e=> ?_⟩⟩
   exact k a ⟨n,c % 8 - 3,t⟩ _ (d.free e) (d.trans (Same.upd_new e)) a_b rfl j
def k_L:Sp:=λvs H Q _=>∃n,vs= [.int n]/\∀H',Same H H'->Q (.int (far n)) H'
theorem q_h:a_s ["_law_number"] ["_law_number"] (a_n q_Y):=⟨rfl,rfl,rfl,by decide+kernel,rfl,by decide+kernel,by decide+kernel⟩
theorem o_x {f:Addr} {fd:FuncData} (F:Fun K "_law_far" "_law_far" q_Y f fd) (B:Bt mg):FnOk P w K mg base CX0 1 f fd ["_law_number"] k_L:=by
 refine F.ok q_h (λvs H Q E h=> ?_) (λcdv A outer s H vs Q E b h=> ?_)
 ·obtain⟨n,rfl,_⟩:=h
  rfl
 ·obtain⟨n,rfl,k⟩:=h
  refine⟨_,a_f (a_o (a_r (a_G K) (a_P (a_a (pv 0) (a_a (a_v h_O a_g a_g) (a_a (a_v b_S a_g (a_v h_O a_g a_g)) a_d))))
   (a_v a_V (b_B b_T (by rfl) B.int f_X (a_a (c_n a_J (pv 0) a_g (a_q _)) a_d)) (a_v b_H a_g (b_B b_T (by rfl) B.int f_X (a_a (c_n a_J (pv 0) a_g (a_q _)) a_d)))) (λ_ _=>rfl))),?_⟩
  refine⟨_,rfl,_,_,rfl,rfl,⟨by decide,by decide,by decide⟩,_,_,rfl,rfl,⟨by decide,by decide,by decide⟩,_,_,rfl,rfl,by show 3<=sizeLine;decide,λl a=> ?_⟩;refine⟨_,rfl,rfl,.inr ⟨_,rfl,_,rfl,rfl,.inr ⟨_,rfl,_,_,rfl,rfl,.inr (i_a _),_,_,rfl,rfl,l,_,_,_,rfl,rfl,SqL.of a_b,p_h n,k _ (Same.upd_new a)⟩⟩⟩
def j_t:Sp:=λvs H Q _=>∃n,vs= [.int n]/\Q (.int (f_b n)) H
theorem p_s:a_s ["_law_seed"] ["_law_seed"] (a_n n_J):=⟨rfl,rfl,rfl,by decide+kernel,rfl,by decide+kernel,by decide+kernel⟩
theorem m_5 {f:Addr} {fd:FuncData} (F:Fun K "_law_step_by" "_law_step_by" n_J f fd) (B:Bt mg):FnOk P w K mg base CX0 1 f fd ["_law_seed"] j_t:=by
 refine F.ok p_s (λvs H Q E h=> ?_) (λcdv A outer s H vs Q E a h=> ?_)
 ·obtain⟨n,rfl,_⟩:=h
  rfl
 ·obtain⟨n,rfl,k⟩:=h
  refine⟨_,a_f (a_o (a_v b_H (a_v b_H a_g (a_v a_S (a_v a_3 (pv 0) a_g) (a_v h_O a_g a_g))) (b_B b_T (by rfl) B.int f_X (a_a (c_n a_J (a_v a_S (pv 0) a_g) a_g (a_q _)) a_d)))),?_⟩;refine⟨_,rfl,_,_,rfl,rfl,⟨by decide,by decide⟩,_,_,rfl,rfl,⟨by decide,by decide,by decide⟩,_,_,rfl,rfl,(show (0:Int) < 10 ^ 27 by decide),_,_,rfl,rfl,.inl ⟨by decide,by decide⟩,?_⟩;exact⟨_,rfl,_,_,rfl,rfl,(show (0:Int) < 3 by decide),rfl,.inr ⟨_,rfl,_,_,rfl,rfl,.inr (i_a _),k⟩⟩
def d_2:Sp:=λvs H Q _=>∃n s,vs= [.int n,.int s]/\Q (.int (b_w n s)) H
theorem k_U:a_s ["_law_number","_law_seed"] ["_law_number","_law_seed"] (a_n g_U):=⟨rfl,rfl,rfl,by decide+kernel,rfl,by decide+kernel,by decide+kernel⟩
theorem i_4 {f fS:Addr} {fd fdS:FuncData} (F:Fun K "_law_raised" "_law_raised" g_U f fd) (B:Bt mg) (gS:Gf K mg "_law_step_by" fS fdS ["_law_seed"]) (GS:FnOk P w K mg base CX0 1 fS fdS ["_law_seed"] j_t):FnOk P w K mg base CX0 2 f fd ["_law_number","_law_seed"] d_2:=by
 refine F.ok k_U (λvs H Q E h=> ?_) (λcdv A outer s H vs Q E a h=> ?_)
 ·obtain⟨n,s,rfl,_⟩:=h
  rfl
 ·obtain⟨n,sd,rfl,k⟩:=h
  refine⟨_,a_f (a_o (a_v a_V (pv 0) (a_v b_H (a_k GS a rfl gS.mg gS.kp gS.b .nil a_u (a_a (pv 1) a_d)) (b_B b_T (by rfl) B.int f_X (a_a (c_n h_o (pv 0) a_g (a_q _)) a_d))))),?_⟩;exact⟨_,rfl,_,rfl,_,rfl,_,rfl,_,_,rfl,rfl,.inr ⟨_,rfl,_,_,rfl,rfl,.inr (i_a _),_,_,rfl,rfl,k⟩⟩
def d_3:Sp:=λvs H Q _=>∃n s,vs= [.int n,.int s]/\∀r,Q (.int r) H
theorem l_q:a_s ["_law_rank","_law_seed"] ["_law_rank","_law_seed"] (a_n h_k):=⟨rfl,rfl,rfl,by decide+kernel,rfl,by decide+kernel,by decide+kernel⟩
theorem j_8 {f fS:Addr} {fd fdS:FuncData} (F:Fun K "_law_ranked" "_law_ranked" h_k f fd) (B:Bt mg) (gS:Gf K mg "_law_step_by" fS fdS ["_law_seed"]) (GS:FnOk P w K mg base CX0 1 fS fdS ["_law_seed"] j_t):FnOk P w K mg base CX0 2 f fd ["_law_rank","_law_seed"] d_3:=by
 refine F.ok l_q (λvs H Q E h=> ?_) (λcdv A outer s H vs Q E a h=> ?_)
 ·obtain⟨n,s,rfl,_⟩:=h
  rfl
 ·obtain⟨n,sd,rfl,k⟩:=h
  refine⟨_,a_f (a_o (a_v a_V (pv 0) (a_v b_H (a_k GS a rfl gS.mg gS.kp gS.b .nil a_u (a_a (a_v a_3 (pv 1) a_g) a_d)) (b_B b_T (by rfl) B.int f_X (a_a (c_n h_o (pv 0) a_g (a_q _)) a_d))))),?_⟩;exact⟨_,rfl,_,rfl,_,_,rfl,rfl,⟨by decide,by decide⟩,_,rfl,_,rfl,_,_,rfl,rfl,.inr ⟨_,rfl,_,_,rfl,rfl,.inr (i_a _),_,_,rfl,rfl,k _⟩⟩
end
end K1
namespace L2
open PySem PySem.Spec PyProof.Rows
section
variable {X:Cx}
theorem tk {α:Type} {M:Model} {A:Around} {t:Sem α} {Q:α->Shared->Prop} {E:Value->Shared->Prop} {s:Shared} (h:wpAny M A t Q E s):wpAny M A t (λa s'=>s.toks<=s'.toks/\Q a s') E s:=wpAny_mono (wpAny_toks h) (λ_ _ x=>x) λ_ _ x=>x.2
def p_U (X:Cx) (st:List Stmt) (t:TS):Prop:=∀(pins:List (Addr×Obj)) (s:Shared) (σ:St) (H:Hp) (D:i_O),Inv X pins σ H s->0 < s.toks->t D σ H->wpAny (model X.prog X.w) X.A (execs st X.env) (SP X pins D) X.xe s
def PS1 (X:Cx) (st:Stmt) (t:TS):Prop:=∀(pins:List (Addr×Obj)) (s:Shared) (σ:St) (H:Hp) (D:i_O),Inv X pins σ H s->0 < s.toks->t D σ H->wpAny (model X.prog X.w) X.A (exec st X.env) (SP X pins D) X.xe s
def PE1 (X:Cx) (e:Expr) (t:TE):Prop:=∀(pins:List (Addr×Obj)) (s:Shared) (σ:St) (H:Hp) (Q:VK),Inv X pins σ H s->0 < s.toks->t σ H Q->wpAny (model X.prog X.w) X.A (eval e X.env) (EP X pins σ Q) X.xe s
def h_Q (n:Nat) (u:Value):Prop:=∀x t,u= .str x t->n<=t
def PEF (X:Cx) (e:Expr) (t:TE):Prop:=∀(pins:List (Addr×Obj)) (s:Shared) (σ:St) (H:Hp) (Q:VK),Inv X pins σ H s->t σ H Q->wpAny (model X.prog X.w) X.A (eval e X.env) (λu s'=>h_Q s.toks u/\EP X pins σ Q u s') X.xe s
theorem PSs.one {st:List Stmt} {t:TS} (h:PSs X st t):p_U X st t:=λpins s σ H D I _ q=>h pins s σ H D I q
theorem g_m {st:Stmt} {e_r:List Stmt} {t u:TS} (h1:PS1 X st t) (h2:p_U X e_r u):p_U X (st::e_r) (q_j t u):=by
 intro pins s σ H D I a h;refine wpAny_execs_cons (thn (tk (h1 pins s σ H { D with nx:=u D } I a h)) λf b ⟨le,q⟩=> ?_);cases f with
 | next=>
   obtain⟨σ',H',I',q⟩:=q;exact h2 pins b σ' H' D I' (s_d a le) q
 | ret v=>exact q
 | brk=>exact q
 | cont=>exact q
theorem j_5 {i:Nat} {x c:Str} {k:Nat} {pos pos' pc:Pos} {e_r:List Stmt} {u:TS} (hN:X.N.Nodup) (hi:X.N[i]? =some x) (hx:Loc X.env.scope x) (h2:p_U X e_r u)
 (hs:swapsWith (.Constant (.str c) k pc) (some (.Name x pos')) pos.line X.env=pure false:=by rfl) (hf:X.fn x=true\/X.env.scope.names.lookup x=some .local:=by first | exact .inl rfl | exact .inr rfl | assumption):
 PSs X (.Assign [.Name x pos'] (.Constant (.str c) k pc) pos::e_r) (q_j (p_V (tC (.str c)) (k_V i)) u):=by
 intro pins s σ H D I h;refine wpAny_execs_cons (wpAny_Assign_Name (Calls.Constant_str ?_) hs);refine thn (tk (d_0 (v:= .str c) (Q:=λ_ s'=>∃σ' H',Inv X pins σ' H' s'/\u D σ' H') (I.tok (s.toks+1)) hN hi hx ⟨_,rfl⟩ (λa b=>⟨_,H,b,h⟩) hf)) λ_ a ⟨le,σ',H',I',q⟩=> ?_;exact h2 pins a σ' H' D I' (s_d (Nat.succ_pos _) le) q
theorem j_s {i:Nat} {x:Str} {e:Expr} {te:TE} {pos pos':Pos} (hN:X.N.Nodup) (hi:X.N[i]? =some x) (hx:Loc X.env.scope x) (he:PE1 X e te) (hs:swapsWith e (some (.Name x pos')) pos.line X.env=pure false:=by rfl) (hf:X.fn x=true\/X.env.scope.names.lookup x=some .local:=by first | exact .inl rfl | exact .inr rfl | assumption):
 PS1 X (.Assign [.Name x pos'] e pos) (p_V te (k_V i)):=by
 intro pins s σ H D I c h;refine wpAny_Assign_Name (thn (he pins s σ H _ I c h) λv j ⟨y,g,d,a,b⟩=> ?_) hs;exact d_0 d hN hi hx a (λk f=>⟨_,g,f,b⟩) hf
theorem n_Z {a b:Expr} {ta tb:TE} {pos:Pos} (ha:PE X a ta) (hb:PE X b tb) (hs:g_1 b):PEF X (.Subscript a b pos) (tOp r_o ta tb):=by
 intro pins s σ H Q I h;refine Subscript_ (thn (tk (ha pins s σ H _ I h)) λv l ⟨M,x,w,F,g,n⟩=>thn (tk (hb pins l σ w _ F n)) λu m ⟨K,y,k,r,B,G⟩=> ?_);obtain⟨z,i,c,rfl,rfl,N,p,q⟩:=G;obtain⟨t,rfl⟩:=g;obtain⟨t',rfl⟩:=B;obtain⟨j,d,A,O,f,J⟩:=g_5 p;have o:z.cps.toList.length=z.length:=by simp[Str.length]
 rw[o] at d f J;have L:=e_j
 exact tail_any (typeIs_str m z t) slot_str_getitem.lookup (getItem_str (c:=c) (by
  have C:decide (i < -(2 ^ 63:Int))=false:=s_E (by omega);have E:decide (i ≥ 2 ^ 63)=false:=s_E (by omega);rw[C,E,Bool.or_false]) (by rw[d];simpa using A) ⟨λx t e=>by cases e;omega,.str ⟨#[c]⟩,k,r.tok _,⟨_,rfl⟩,q⟩) (hs _ _)
theorem j_b (x:Str):∀(n:Nat) (acc:Array Nat),((List.replicate n x.cps).foldl (·++·) acc).size=acc.size+x.length * n
 | 0,acc=>by simp
 | n+1,acc=>by
   rw[List.replicate_succ,List.foldl_cons,j_b x n];have e:x.length=x.cps.size:=rfl;simp only[Array.size_append,Nat.mul_succ];omega
def q_3:R2:=λx y H Q=>∃z n,x= .str z/\y= .int n/\1<=n/\n<=1000/\z.length<=1000/\∀z':Str,z'.length<=z.length * n.toNat->Q (.str z') H
theorem m_R {a b:Expr} {ta tb:TE} {pos:Pos} (ha:PEF X a ta) (hb:PE X b tb):PEF X (.BinOp a .Mult b pos) (tOp q_3 ta tb):=by
 intro pins s σ H Q I h;refine wpAny_BinOp (thn (tk (ha pins s σ H _ I h)) λv k ⟨L,m,x,o,A,j,l⟩=>thn (tk (hb pins k σ o _ A l)) λu G ⟨K,y,d,g,p,C⟩=> ?_);obtain⟨z,n,rfl,rfl,E,F,B,q⟩:=C;obtain⟨t,rfl⟩:=j;obtain⟨t',rfl⟩:=p;have i:z.length * n.toNat<=1000 * 1000:=Nat.mul_le_mul B (by omega);refine PySem.P.mul_str ?_ (λ_ _=> ?_) (λ_ _=> ?_) ?_
 ·have r:decide (n < -(2 ^ 63:Int))=false:=s_E (by omega)
  have w:decide (n ≥ 2 ^ 63)=false:=s_E (by omega);rw[r,w,Bool.or_false]
 ·intro c
  have M:(z.length:Int) * n < 2 ^ 63 - 1:=by
   have:((z.length * n.toNat:Nat):Int)<=1000 * 1000:=by exact_mod_cast i
   rw[Int.natCast_mul] at this;have e:((n.toNat:Nat):Int)=n:=by omega
   rw[e] at this;omega
  have J:(z.length:Int)<=(2 ^ 63 - 1) / n:=(Int.le_ediv_iff_mul_le (by omega)).mpr (by omega);omega
 ·unfold PySem.Builtin.Str.tooLong
  refine s_E ?_;have:(1000 * 1000:Nat) < sizeLine:=by decide
  omega
 ·rw[if_neg (by omega)]
  by_cases c:(n == 1||z.length == 0)=true
  ·rw[if_pos c]
   refine⟨λx t e=>by cases e;exact m _ _ rfl,.str z,d,g,⟨_,rfl⟩,q z ?_⟩;exact Nat.le_mul_of_pos_right _ (by omega)
  ·rw[if_neg c]
   have f:(⟨(List.replicate n.toNat z.cps).foldl (·++·) #[]⟩:Str).length=z.length * n.toNat:=by
    show ((List.replicate n.toNat z.cps).foldl (·++·) #[]).size=_;rw[j_b];simp
   refine⟨?_, λx t e=>by cases e;omega,.str _,d,g.tok _,⟨_,rfl⟩,q _ (Nat.le_of_eq f)⟩;rw[f];exact s_i i (by decide)
def p_p (z1 z2 z3:Str) (tb:TE):TE:=λσ H Q=>tb σ H λy H1=>∃i,y= .int i/\0<=i/\i < 3/\Q (.str z1) H1/\Q (.str z2) H1/\Q (.str z3) H1
theorem j_j {z1 z2 z3:Str} {k1 k2 k3:Nat} {p1 p2 p3 pl pos:Pos} {b:Expr} {tb:TE} (hb:PE X b tb) (hs:g_1 b):
 PEF X (.Subscript (.List [.Constant (.str z1) k1 p1,.Constant (.str z2) k2 p2,.Constant (.str z3) k3 p3] pl) b pos) (p_p z1 z2 z3 tb):=by
 intro pins s σ H Q I h;refine Subscript_ (wpAny_List_spliced ?_);refine Calls.spliced_cons (Calls.Constant_str (k:=k1) (pos:=p1) (Calls.spliced_cons (Calls.Constant_str (k:=k2) (pos:=p2) (Calls.spliced_cons (Calls.Constant_str (k:=k3) (pos:=p3) (Calls.spliced_nil ⟨by show 3<=sizeLine;decide,?_⟩))))));let o:Obj:={ cls:= .type "list",data:= .seq [Value.str z1 s.toks,Value.str z2 (s.toks+1),Value.str z3 (s.toks+1+1)].toArray };have g:Inv X pins σ H { s with heap:=s.heap.push o,toks:=s.toks+1+1+1 }:=I.kept λb u e=>Heap.get?_push_of_some _ e;have q:(s.heap.push o).get? s.heap.objs.size=some o:=Heap.get?_push_size _ rfl
 have m:Inv X (pins++ [(s.heap.objs.size,o)]) σ H { s with heap:=s.heap.push o,toks:=s.toks+1+1+1 }:=g.pins_of λp l=>(s_f.mp l).elim (λz=>g.pin p (s_a _ z)) λz=>by
  obtain rfl:p=(s.heap.objs.size,o):=by simpa using z
  exact⟨q,I.hok.fresh (r_6 _),Nat.ne_of_gt I.lt,I.nofs (r_6 _),λv e=>nomatch e⟩
 refine thn (hb _ _ σ H _ m h) λu j ⟨y,a,f,n,r⟩=> ?_;obtain⟨i,rfl,w,A,qa,qb,qc⟩:=r;obtain⟨t',rfl⟩:=n;have pO:=(f.pin (s.heap.objs.size,o) (by simp)).1;have d:j.heap.IsList s.heap.objs.size [Value.str z1 s.toks,Value.str z2 (s.toks+1),Value.str z3 (s.toks+1+1)].toArray:=⟨o,pO,rfl,_,rfl⟩;have c:=f.unpinned;rcases (show i=0\/i=1\/i=2 by omega) with rfl | rfl | rfl
 ·exact item_listR (Q:=λu s'=>h_Q s.toks u/\EP X pins σ Q u s') d (by decide) (by decide) rfl ⟨λx t e=>by cases e;omega,.str z1,a,c,⟨_,rfl⟩,qa⟩ (hs _ _)
 ·exact item_listR (Q:=λu s'=>h_Q s.toks u/\EP X pins σ Q u s') d (by decide) (by decide) rfl ⟨λx t e=>by cases e;omega,.str z2,a,c,⟨_,rfl⟩,qb⟩ (hs _ _)
 ·exact item_listR (Q:=λu s'=>h_Q s.toks u/\EP X pins σ Q u s') d (by decide) (by decide) rfl ⟨λx t e=>by cases e;omega,.str z3,a,c,⟨_,rfl⟩,qc⟩ (hs _ _)
def q_d (m:Nat) (to te:TE):TE:=λσ H Q=>to σ H λx H1=>∃xs,x= .str xs/\te σ H1 λz H2=>∃zs,z= .str zs/\xs.length+(xs.length+1) * zs.length<=m/\m<=16777216/\∀r:Str,r.length<=m->Q (.str r) H2
theorem l_C {x y z:Str} {m:Nat} (h:x.length+(x.length+1) * z.length<=m):(Txt.replace x y z).length<=m:=by
 unfold Txt.replace;split
 ·omega
 ·have a:=StrLaws.occ_length_le x y 0 x.length (x.length+1)
  have b:(Builtin.Str.glued y (Builtin.Str.partsBetween x (Builtin.Str.occurrences x y 0 x.length (x.length+1)) y.length)).length=x.length:=by rw[StrLaws.glued_between_self]
  rw[size_glued,length_partsBetween,Nat.add_sub_cancel] at b;rw[size_glued,length_partsBetween,Nat.add_sub_cancel];have c:(Builtin.Str.occurrences x y 0 x.length (x.length+1)).length * z.length<=(x.length+1) * z.length:=Nat.mul_le_mul_right _ a;omega
theorem e_Q {m:Nat} {o e:Expr} {to te:TE} {c:Str} {k:Nat} {apos cpos pc:Pos} (nb:PySem.W.nsIn X.K cStatics sharingNotToldKey=some none) (ho:PE X o to) (he:PEF X e te)
 (hbase:attributeBase o "replace" X.env (eval o X.env)=eval o X.env:=by rfl)
 (hfew:((backTo cpos (starEach [.Constant (.str c) k pc,e] X.env)).all (fun x=> !x.1)&&(backToKw cpos (keywordEach [] X.env)).all (fun x=>x.1.isSome)
   &&decide (([.Constant (.str c) k pc,e]:List Expr).length+([]:List Keyword).length+(if ([]:List Keyword).isEmpty then 0 else 1) < 30))=true:=by rfl)
 (hline:(apos.endLine == cpos.line)=true:=by rfl) (hs:starEach [.Constant (.str c) k pc,e] X.env= [(false,eval (.Constant (.str c) k pc) X.env),(false,eval e X.env)]:=by rfl):
 PE1 X (.Call (.Attribute o "replace" apos) [.Constant (.str c) k pc,e] [] cpos) (q_d m to te):=by
 intro pins s σ H Q I C h;refine wpAny_Call_method_late hbase hfew hline rfl (thn (tk (ho pins s σ H _ I h)) λv b ⟨E,x,w,G,j,xs,ex,q⟩=> ?_);subst ex;obtain⟨t,rfl⟩:=j;refine⟨"str",_,F.plainAttrs_str,F.slot_str_replace,F.type_str_replace,typeIs_str _ _ _,(λ_ e=>nomatch e),?_⟩;rw[hs];refine Calls.callWith_builtin rfl (Calls.evalArgs_plain (Calls.spliced_cons (Calls.Constant_str (k:=k) (pos:=pc) (Calls.spliced_cons ?_))));refine thn (he pins _ σ w _ (G.tok _) q) λu p ⟨r,z,n,a,y,zs,ez,f,A,J⟩=> ?_;subst ez;obtain⟨l,rfl⟩:=y;have B:=r _ _ rfl;refine Calls.spliced_nil ?_
 have NB:NoneBooked p.heap:=by
  obtain⟨mc,i,_⟩:=a.nolimit;exact⟨mc,i,PySem.W.ns_none_of a.kIn i nb⟩
 have d:0 < b.toks:=s_d C E;have g:b.toks < l:=B;exact SC.replaceA (Nat.ne_of_gt d) (Nat.ne_of_gt (Nat.lt_trans d g)) (s_l g) (s_i f A) (λt' k=>⟨.str _,n,a.tok _,⟨_,rfl⟩,J _ (l_C f)⟩) NB
def r_J:V->Option Int->Option Int->Hp->VK->Prop:=λx lo hi H Q=>∃z j,x= .str z/\lo=none/\hi=some j/\z.length<=sizeLine/\∀r:Str,r.length<=z.length->Q (.str r) H
theorem m_C:SlR X r_J:=by
 intro pins s σ H x v vl vu lo f sl Q I rx a pl pu h;obtain⟨z,j,rfl,rfl,rfl,d,q⟩:=h;obtain⟨t,rfl⟩:=rx;cases pl;cases pu with
 | int _ u=>
   obtain⟨o,c,e,b⟩:=a;refine⟨"str",_,F.slot_str_getitem.lookup,typeIs_str _ _ _,wpAny_getItem_str_slice (l:=none) (u:=some (j,u)) (st:=none) ⟨o,c,e,b⟩ rfl (post_val_or_str ⟨s_i (Txt.slice_le z _ _) d,λt' k=> ?_⟩)⟩;exact⟨.str _,H,I.tok _,⟨_,rfl⟩,q _ (Txt.slice_le z _ _)⟩
end
end L2
namespace K1
open PySem L2 TO
theorem o_r (z:Str) (h:0 < z.length) (i:Int):∃c,atI z.cps.toList (i % (z.length:Int))=some c:=by
 have a:=Int.emod_nonneg i (show (z.length:Int)≠0 by omega);have d:=Int.emod_lt_of_pos i (show (0:Int) < (z.length:Int) by omega);obtain⟨j,hj⟩:∃j:Nat,i % (z.length:Int)=(j:Int):=⟨(i % (z.length:Int)).toNat,by omega⟩;have b:z.cps.toList.length=z.length:=by simp[Str.length]
 rw[hj];exact⟨_,a_e (r_Y (by omega))⟩
section
variable {P:Program} {w:World} {K:PySem.W.Frag} {mg:Str->Option Value} {base:Heap}
def d_7:Sp:=λvs H Q _=>∃(t:Str) (s:Int),vs= [.str t,.int s]/\t.length<=2/\∀(t':Str) (H':Hp),Same H H'->Q (.str t') H'
theorem d_W:a_s ["_law_letters","_law_seed","_law_signs","_law_made"] ["_law_letters","_law_seed"] (a_n h_e):=⟨rfl,rfl,rfl,by decide+kernel,rfl,by decide+kernel,by decide+kernel⟩
theorem j_J {f:Addr} {fd:FuncData} (F:Fun K "_law_signed" "_law_signed" h_e f fd) (B:Bt mg) (nb:PySem.W.nsIn K cStatics sharingNotToldKey=some none):FnOk P w K mg base CX0 1 f fd ["_law_letters","_law_seed"] d_7:=by
 refine F.ok d_W (λvs H Q E h=> ?_) (λcdv A outer s H vs Q E I h=> ?_)
 ·obtain⟨t,s,rfl,_⟩:=h
  rfl
 ·obtain⟨t,sd,rfl,C,k⟩:=h
  refine⟨_,j_5 (i:=2) d_W.nd rfl (Or.inl rfl)
   (g_m (j_s (i:=3) d_W.nd rfl (Or.inl rfl) (e_Q (m:=29) nb (pv 0) (m_R (n_Z (pv 2) (a_v a_S (pv 1) (a_t g_J (by rfl) B.len s_G (a_a (pv 2) a_d))) (λ_ _=>rfl)) (a_v a_V a_g (a_v a_S (a_v a_3 (pv 1) a_g) a_g)))))
   (g_m (j_s (i:=3) d_W.nd rfl (Or.inl rfl) (e_Q (m:=119) nb (pv 3) (j_j (a_v a_S (a_v a_3 (pv 1) a_g) a_g) (λ_ _=>rfl))))
   (PSs.one (a_c (a_C (PW.pt (c_D (a_m a_J (pv 3) a_l (a_q _)) (b_I (a_m a_J (a_v a_S (a_v a_3 (pv 1) a_g) a_g) a_g (a_q _))))) (a_f (a_o (pv 3))) a_p)
   (a_f (a_o (a_v e_8 (a_v e_8 (b_p m_C a_l b_6 (b_F (a_v a_S (a_v a_3 (pv 1) a_g) a_g))) (pv 3)) (b_p m_C a_l b_6 (b_F (a_v a_S (a_v a_3 (pv 1) a_g) a_g)))))))))),?_⟩
  have G:=Int.emod_nonneg (sd / 100) (show (9:Int)≠0 by decide);have J:=Int.emod_lt_of_pos (sd / 100) (show (0:Int) < 9 by decide);have p:=Int.emod_nonneg (sd / 900) (show (3:Int)≠0 by decide);have o:=Int.emod_lt_of_pos (sd / 900) (show (0:Int) < 3 by decide);refine⟨_,rfl,t,rfl,_,rfl,_,rfl,_,rfl,_,rfl,by decide+kernel,_,_,rfl,rfl,(by show (0:Int) < _;decide+kernel),?_⟩;refine⟨_,_,_,rfl,rfl,by decide+kernel,Classical.choose_spec (o_r _ (by decide+kernel) sd),_,rfl,_,_,rfl,rfl,⟨by decide,by decide⟩,_,_,rfl,rfl,(show (0:Int) < 9 by decide),_,_,rfl,rfl,_,_,rfl,rfl,by omega,by omega,(show 1<=1000 by decide),λz' l=>⟨z',rfl,?_, by decide,λr z=> ?_⟩⟩
  ·have d:z'.length≤9:=by
    have:z'.length<=1 * (1+sd / 100 % 9).toNat:=l;omega
   have:(t.length+1) * z'.length<=3 * 9:=Nat.mul_le_mul (by omega) d;omega
  have a:∀c:Str,c.length<=3->r.length+(r.length+1) * c.length<=119:=λc x=>by
   have:(r.length+1) * c.length<=30 * 3:=Nat.mul_le_mul (by omega) x;omega
  have g:∀m:Str,m.length<=119->m.length<=119:=λ_ h=>h;refine⟨_,rfl,r,rfl,_,rfl,_,_,rfl,rfl,⟨by decide,by decide⟩,_,_,rfl,rfl,(show (0:Int) < 3 by decide),_,rfl,p,o,⟨_,rfl,a _ (by decide+kernel),by decide,?_⟩,⟨_,rfl,a _ (by decide+kernel),by decide,?_⟩,⟨_,rfl,a _ (by decide+kernel),by decide,?_⟩⟩
  all_goals
   intro m g;refine⟨_,rfl,rfl,_,rfl,?_⟩;refine a_x (λq=>⟨_,rfl,k m H (Same.refl H)⟩) (λq=> ?_);refine⟨_,rfl,_,_,rfl,rfl,⟨by decide,by decide⟩,_,_,rfl,rfl,(show (0:Int) < 2 by decide),rfl,_,rfl,?_⟩;refine a_x (λq=>⟨_,rfl,k m H (Same.refl H)⟩) (λq=> ?_);refine⟨_,rfl,_,_,rfl,rfl,⟨by decide,by decide⟩,_,_,rfl,rfl,(show (0:Int) < 5 by decide),_,rfl,_,_,rfl,rfl,rfl,by decide+kernel,λb n=> ?_⟩;have j:b.length<=1000:=s_i n (by decide+kernel);refine⟨_,rfl,_,_,rfl,rfl,s_i (Nat.add_le_add j g) (by decide),?_⟩;refine⟨_,rfl,_,_,rfl,rfl,⟨by decide,by decide⟩,_,_,rfl,rfl,(show (0:Int) < 4 by decide),_,rfl,_,_,rfl,rfl,rfl,by decide+kernel,λv u=>⟨_,_,rfl,rfl,?_, k _ H (Same.refl H)⟩⟩;have y:v.length<=1000:=s_i u (by decide+kernel)
   have e:(b++m).length=b.length+m.length:=by
    show (b.cps++m.cps).size=_;rw[Array.size_append];rfl
   rw[e];have:(1000+119+1000:Nat)<=sizeLine:=by decide
   omega
def g_V:Sp:=λvs H Q _=>∃(a:Addr) (ρ:Row) (s:Int),vs= [.ref a,.int s]/\RowAt H a ρ/\ρ.t.length<=2/\∀(b:Addr) (ρ':Row) (H':Hp),H b=none->Same H H'->RowAt H' b ρ'->ρ'.n=b_w ρ.n s->Q (.ref b) H'
theorem j_l:a_s ["_law_row","_law_seed","_law_number"] ["_law_row","_law_seed"] (a_n i_Z):=⟨rfl,rfl,rfl,by decide+kernel,rfl,by decide+kernel,by decide+kernel⟩
theorem l_h {f fR fK fS:Addr} {fd fdR fdK fdS:FuncData} (F:Fun K "_law_row_moved" "_law_row_moved" i_Z f fd) (gR:Gf K mg "_law_raised" fR fdR ["_law_number","_law_seed"]) (GR:FnOk P w K mg base CX0 2 fR fdR ["_law_number","_law_seed"] d_2)
 (gK:Gf K mg "_law_ranked" fK fdK ["_law_rank","_law_seed"]) (GK:FnOk P w K mg base CX0 2 fK fdK ["_law_rank","_law_seed"] d_3) (gS:Gf K mg "_law_signed" fS fdS ["_law_letters","_law_seed"]) (GS:FnOk P w K mg base CX0 1 fS fdS ["_law_letters","_law_seed"] d_7):
 FnOk P w K mg base CX0 3 f fd ["_law_row","_law_seed"] g_V:=by
 refine F.ok j_l (λvs H Q E h=> ?_) (λcdv A outer s H vs Q E d h=> ?_)
 ·obtain⟨a,ρ,s,rfl,_⟩:=h
  rfl
 ·obtain⟨a,ρ,sd,rfl,c,m,k⟩:=h
  have e:Room 1 _:=d.mono (by decide)
  refine⟨_,a_c (a_w (i:=2) j_l.nd rfl (Or.inl rfl) (a_k GR d rfl gR.mg gR.kp gR.b .nil a_u (a_a (a_r (a_j K) (pv 0) a_g (λ_ _=>rfl)) (a_a (pv 1) a_d))))
   (a_f (a_o (a_H (a_a (pv 2) (a_a (a_k GK d rfl gK.mg gK.kp gK.b .nil a_u (a_a (a_r (a_j K) (pv 0) a_g (fun _ _=>rfl)) (a_a (pv 1) a_d)))
     (a_a (a_k GS e rfl gS.mg gS.kp gS.b .nil a_u (a_a (a_r (a_j K) (pv 0) a_g (λ_ _=>rfl)) (a_a (pv 1) a_d))) a_d)))))),?_⟩
  refine⟨_,rfl,a,_,_,_,rfl,rfl,SqT.of c,a_e (j:=0) rfl,_,rfl,_,_,rfl,?_⟩;refine⟨_,rfl,_,rfl,a,_,_,_,rfl,rfl,SqT.of c,a_e (j:=1) rfl,_,rfl,_,_,rfl,λrk=> ?_⟩;refine⟨_,rfl,a,_,_,_,rfl,rfl,SqT.of c,a_e (j:=2) rfl,_,rfl,_,_,rfl,m,λt' o g=> ?_⟩;refine⟨by show 3<=sizeLine;decide,λb l=> ?_⟩;exact k b ⟨b_w ρ.n sd,rk,t'⟩ _ (g.free l) (g.trans (Same.upd_new l)) a_b rfl
end
structure Mov (H H':Hp) (f:List Addr):Prop where
 keep:∀b u,H b=some u->b∉f->H' b=some u
 lst:∀b∈f,∀u,H b=some u->∃xs,u= .lst xs
theorem Mov.upd {H:Hp} {a:Addr} {xs ys:List V} (h:H a=some (.lst xs)):Mov H (upd H a (.lst ys)) [a]:=⟨λb u hb hn=>by
 rw[a_i (λe=>hn (by rw[e];exact r_2.mpr rfl))];exact hb,λb hb u hu=>by
 rw[r_2.mp hb,h] at hu;exact⟨xs,(r_4 hu).symm⟩⟩
section
variable {H H' H0:Hp} {f:List Addr}
theorem Mov.tup (m:Mov H H' f) {b:Addr} {xs:List V} (h:H b=some (.tup xs)):H' b=some (.tup xs):=m.keep b _ h λhb=>by
 obtain⟨ys,e⟩:=m.lst b hb _ h;cases e
theorem Mov.same (m:Mov H H' f) (s:Same H0 H) (hf:∀b∈f,H0 b=none):Same H0 H':=λb u hb=>m.keep b u (s b u hb) λhm=>by
 rw[hf b hm] at hb;cases hb
end
section
variable {C:Addr} {w:Bool} {H0 H H':Hp} {o bl o2 bl2 th hf ol ke:Addr} {bas bas2 ls ks:List Addr} {B B2:List (List Row)} {ρs κs:List Row}
end
end K1
namespace TO
open PySem L2
inductive Chg where
 | bring (ρ:Row)
 | alter (ρ:Row)
 | cut (n:Int)
inductive Deed where
 | chg (c:Chg)
 | all (cs:List Chg)
 | begin
 | keep
 | brk
 | row (n:Int)
 | within (w:Str) (lo hi:V)
 | both (lo hi:Int) (t:Str)
 | from (w:Str) (k m:Int)
 | spot (w:Str) (n:Int)
def b_u (l:List Row) (n:Int):Bool:=l.any λx=>decide (x.n=n)
def c_3 (l:List Row) (n:Int):Option Row:=l.find? λx=>decide (x.n=n)
def c_m (l:List Row) (ρ:Row):List Row:=if b_u l ρ.n=true then l.map λx=>if x.n=ρ.n then ρ else x else l++ [ρ]
def b_a (l:List Row) (n:Int):List Row:=l.filter λx=>decide (x.n≠n)
def b_g (room:Int) (l:List Row):Chg->List Row×Str
 | .bring ρ=>if b_u l ρ.n=true then (l,"taken") else if room<=(l.length:Int) then (l,"full") else (c_m l ρ,"done")
 | .alter ρ=>if b_u l ρ.n=true then (c_m l ρ,"done") else (l,"missing")
 | .cut n=>if b_u l n=true then (b_a l n,"done") else (l,"missing")
def d_R (room:Int) (l0:List Row):Nat->List Row->List Chg->List Row×D
 | _,l, []=>(l,.str "done")
 | i,l,c::r=>let p:=b_g room l c;if p.2="done" then d_R room l0 (i+1) p.1 r else (l0,.tup [.int (i:Int),.str p.2])
def m_V (w:Bool) (ρ:Row):List Row->List Row
 | []=> [ρ]
 | x::r=>if ltR w x ρ=true then x::m_V w ρ r else ρ::x::r
def a_W (w:Bool):List Row->List Row
 | []=> []
 | x::r=>m_V w x (a_W w r)
theorem e_z (w:Bool) (ρ:Row):∀l,(m_V w ρ l).Perm (ρ::l)
 | []=> .refl _
 | x::r=>by
   unfold m_V;split
   ·exact ((e_z w ρ r).cons x).trans (.swap ρ x r)
   ·exact .refl _
theorem a_5 (w:Bool):∀l,(a_W w l).Perm l
 | []=> .refl _
 | x::r=>(e_z w x _).trans ((a_5 w r).cons x)
theorem i_d (w:Bool) (ρ:Row):∀{l:List Row},Srt (ltR w) l->(∀x∈l,x.n≠ρ.n)->Srt (ltR w) (m_V w ρ l)
 | [],_,_=>by simp[m_V]
 | x::r,h,hn=>by
   have b:=s_B.mp h;unfold m_V;split
   ·rename_i c
    refine s_B.mpr ⟨λy a=> ?_, i_d w ρ b.2 λy a=>hn y (r_0 _ a)⟩;rcases r_8.mp ((e_z w ρ r).mem_iff.mp a) with e | e
    ·rw[e];exact c
    ·exact b.1 y e
   ·rename_i c
    have c':ltR w ρ x=true:=by
     rcases g_2 (w:=w) (hn x (r_1 ..)) with q | q
     ·exact absurd q c
     ·exact q
    refine s_B.mpr ⟨λy a=> ?_, h⟩;rcases r_8.mp a with e | e
    ·rw[e];exact c'
    ·exact c_y w _ _ _ c' (b.1 y e)
theorem c_F (w:Bool):∀{l:List Row},(l.map (·.n)).Nodup->Srt (ltR w) (a_W w l)
 | [],_=> .nil
 | x::r,h=>by
   rw[s_c,s_r] at h;refine i_d w x (c_F w h.2) λy hy e=>h.1 ?_;rw[<-e];exact s_s.mpr ⟨y,(a_5 w r).mem_iff.mp hy,rfl⟩
theorem d_V {w:Bool} {l s:List Row} (hn:(l.map (·.n)).Nodup) (hs:Srt (ltR w) s) (hp:s.Perm l):s=a_W w l:=
 Srt.one (b_L w) (c_y w) hs (c_F w hn) (hp.trans (a_5 w l).symm)
def c_j (x:Str):Option Bool:=if x="rank" then some false else if x="text" then some true else none
def i_j (w:Bool) (lo hi:V) (x:Row):Bool:= !ltV (c_t w x) lo&& !ltV hi (c_t w x)
def e_H (l:List Row):D:= .lst (l.map j_W)
def b_U (l:List Row):Deed->D
 | .row n=>match c_3 l n with
   | some ρ=>j_W ρ
   | none=> .str "missing"
 | .both lo a t=>e_H (((a_W false l).filter λx=>decide (x.t=t)).filter (i_j false (.int lo) (.int a)))
 | .within x lo a=>match c_j x with
   | some w=>e_H ((a_W w l).filter (i_j w lo a))
   | none=> .str "no order"
 | .from x k m=>match c_j x with
   | some w=>e_H ((a_W w l).zipIdx.filterMap λp=>if k<=(p.2:Int)/\(p.2:Int)<=k+m - 1 then some p.1 else none)
   | none=> .str "no order"
 | .spot x n=>match c_j x with
   | some w=>(match c_3 l n with
     | some ρ=> .int ((l.filter λy=>ltR w y ρ).length:Nat)
     | none=> .str "missing")
   | none=> .str "no order"
 | _=> .str "nothing"
structure Sto where
 kept:List Row
 marks:List (List Row)
def Sto.step (room:Int) (s:Sto):Deed->Sto×D
 | .chg c=>({ s with kept:=(b_g room s.kept c).1 },.str (b_g room s.kept c).2)
 | .all cs=>({ s with kept:=(d_R room s.kept 0 s.kept cs).1 },(d_R room s.kept 0 s.kept cs).2)
 | .begin=>({ s with marks:=s.kept::s.marks },.str "done")
 | .keep=>match s.marks with
   | []=>(s,.str "not begun")
   | _::r=>({ s with marks:=r },.str "done")
 | .brk=>match s.marks with
   | []=>(s,.str "not begun")
   | m::r=>(⟨m,r⟩,.str "done")
 | d=>(s,b_U s.kept d)
def Sto.run (room:Int) (s:Sto):List Deed->Sto×List D
 | []=>(s, [])
 | d::r=>let p:=s.step room d;let q:=p.1.run room r;(q.1,p.2::q.2)
theorem b_z {l:List Row} {n:Int}:b_u l n=true↔∃x∈l,x.n=n:=by simp[b_u]
theorem g_x {l:List Row} {ρ:Row} (h:(l.map (·.n)).Nodup):((c_m l ρ).map (·.n)).Nodup:=by
 unfold c_m;split
 ·have e:(l.map fun x=>if x.n=ρ.n then ρ else x).map (·.n)=l.map (·.n):=by
   rw[List.map_map];apply List.map_congr_left;intro x _;show (if x.n=ρ.n then ρ else x).n=x.n;split
   ·rename_i c;exact c.symm
   ·rfl
  rw[e];exact h
 ·rename_i c
  rw[r_5,List.nodup_append];refine⟨h,by simp,λa f b d e=>c ?_⟩;simp at d;obtain⟨x,g,ex⟩:=s_s.mp f;exact b_z.mpr ⟨x,g,ex.trans (e.trans d)⟩
theorem e_X {l:List Row} {n:Int} (h:(l.map (·.n)).Nodup):((b_a l n).map (·.n)).Nodup:=((List.filter_sublist.map _).nodup h)
theorem g_c {room:Int} {l:List Row} {c:Chg} (h:(l.map (·.n)).Nodup):((b_g room l c).1.map (·.n)).Nodup:=by
 cases c <;> unfold b_g <;> (repeat' split) <;> first | exact h | exact g_x h | exact e_X h
def ChgAt (H:Hp) (a:Addr):Chg->Prop
 | .bring ρ=>∃r,H a=some (.tup [.str "bring",.ref r])/\RowAt H r ρ
 | .alter ρ=>∃r,H a=some (.tup [.str "alter",.ref r])/\RowAt H r ρ
 | .cut n=>H a=some (.tup [.str "cut",.int n])
def DeedAt (H:Hp) (a:Addr):Deed->Prop
 | .chg c=>ChgAt H a c
 | .all cs=>∃l,∃as:List Addr,H a=some (.tup [.str "all",.ref l])/\H l=some (.lst (as.map V.ref))/\Paired (ChgAt H) as cs
 | .begin=>H a=some (.tup [.str "begin"])
 | .keep=>H a=some (.tup [.str "keep"])
 | .brk=>H a=some (.tup [.str "break"])
 | .row n=>H a=some (.tup [.str "row",.int n])
 | .within x lo b=>H a=some (.tup [.str "within",.str x,lo,b])
 | .both lo b t=>H a=some (.tup [.str "both",.int lo,.int b,.str t])
 | .from x k m=>H a=some (.tup [.str "from",.str x,.int k,.int m])
 | .spot x n=>H a=some (.tup [.str "spot",.str x,.int n])
abbrev k_T (n:Int):Prop:=n.natAbs.log2 < 1920
abbrev Sm (n:Int):Prop:= -10000000000000000000000000<=n/\n<=10000000000000000000000000
theorem m_J {n:Int} (h1: -100000000000000000000000000000000<=n) (h2:n<=100000000000000000000000000000000):k_T n:=by
 have h:n.natAbs < 2 ^ 1920:=s_C (show n.natAbs<=100000000000000000000000000000000 by omega) (by decide+kernel);by_cases e:n.natAbs=0
 ·show n.natAbs.log2 < 1920
  rw[e];decide
 ·exact (Nat.log2_lt e).mpr h
def c_r (x:Str):Prop:=x="rank"\/x="text"\/x="ranks"
def BL:List Int:=(List.range 27).map (λi:Nat=>K1.far ((i:Int) - 1))++(List.range 13).map λi:Nat=>100+(i:Int)
def ML (sd:Int):List Int:=BL.map λb=>K1.b_w b sd
theorem h_R {n:Int} (h1: -1<=n) (h2:n<=25):K1.far n∈BL:=by
 refine s_w _ (s_s.mpr ⟨(n+1).toNat,List.mem_range.mpr (by omega),?_⟩);congr 1;omega
theorem g_v (n:Int):K1.far n=n\/K1.far n=10 ^ 20\/K1.far n=0 - 10 ^ 20:=by
 unfold K1.far
 repeat' split
 all_goals simp
theorem q_1 {n:Int} (h:n∈BL):Sm n:=by
 rcases s_f.mp h with q | q
 ·obtain⟨i,hi,e⟩:=s_s.mp q
  have:=List.mem_range.mp hi
  rcases g_v ((i:Int) - 1) with z | z | z <;> rw[z] at e <;> constructor <;> omega
 ·obtain⟨i,hi,e⟩:=s_s.mp q
  have:=List.mem_range.mp hi
  constructor <;> omega
theorem h_V {n:Int} (h1: -1000<=n) (h2:n<=1000):Sm (K1.far n):=by
 rcases g_v n with z | z | z <;> rw[z] <;> constructor <;> omega
theorem c_0 {n sd:Int} (h:Sm n):k_T (K1.b_w n sd):=by
 obtain⟨f,d⟩:=h
 have a:0<=K1.f_b sd/\K1.f_b sd<=1000000000000000000000000000000:=by
  unfold K1.f_b K1.i1
  split <;> omega
 obtain⟨c,b⟩:=a
 have:K1.b_w n sd=n\/K1.b_w n sd=n+K1.f_b sd:=by
  unfold K1.b_w K1.i1;split
  ·right;omega
  ·left;omega
 rcases this with e | e <;> rw[e] <;> exact m_J (by omega) (by omega)
theorem h_l {n sd:Int} (h:n∈ML sd):k_T n:=by
 obtain⟨b,hb,e⟩:=s_s.mp h;rw[<-e];exact c_0 (q_1 hb)
theorem i_N {b sd:Int} (h:b∈BL):K1.b_w b sd∈ML sd:=s_s.mpr ⟨b,h,rfl⟩
theorem p_d (sd:Int):(ML sd).length=40:=by simp[ML,BL]
def Chg.short:Chg->Prop
 | .bring ρ=>ρ.t.length<=2/\ρ.n∈BL
 | .alter ρ=>ρ.t.length<=2/\ρ.n∈BL
 | .cut n=>n∈BL
def Chg.tell (sd:Int):Chg->Prop
 | .bring ρ=>ρ.n∈ML sd
 | .alter ρ=>ρ.n∈ML sd
 | .cut n=>n∈ML sd
def Deed.tell (sd:Int):Deed->Prop
 | .chg c=>c.tell sd
 | .all cs=>∀c∈cs,c.tell sd
 | .row n=>k_T n
 | .spot _ n=>k_T n
 | _=>True
def b_v (x:Str) (lo hi:V):Prop:=if x="text" then ∃s t,lo= .str s/\hi= .str t else ∃i j,lo= .int i/\hi= .int j
def Deed.form:Deed->Prop
 | .all cs=>cs.length<=24
 | .within x lo hi=>b_v x lo hi/\c_r x
 | .from x _ m=>c_r x/\0<=m
 | .spot x _=>c_r x
 | _=>True
def Deed.plain:Deed->Prop
 | .chg _=>True
 | .begin=>True
 | .keep=>True
 | .brk=>True
 | _=>False
def Deed.asks:Deed->Prop
 | .row _=>True
 | .within .. =>True
 | .both .. =>True
 | .from .. =>True
 | .spot .. =>True
 | _=>False
def Deed.short:Deed->Prop
 | .chg c=>c.short
 | .all cs=>∀c∈cs,c.short
 | .within _ lo hi=>(∀s,lo= .str s->s.length<=2)/\∀s,hi= .str s->s.length<=2
 | .both _ _ t=>t.length<=2
 | .row n=>Sm n
 | .spot _ n=>Sm n
 | _=>True
theorem ChgAt.mono {H H':Hp} (s:∀b xs,H b=some (.tup xs)->H' b=some (.tup xs)) {a:Addr} {c:Chg} (h:ChgAt H a c):ChgAt H' a c:=by
 cases c with
 | bring ρ=>obtain⟨r,h1,h2⟩:=h;exact⟨r,s _ _ h1,s _ _ h2⟩
 | alter ρ=>obtain⟨r,h1,h2⟩:=h;exact⟨r,s _ _ h1,s _ _ h2⟩
 | cut n=>exact s _ _ h
theorem b_f {H H':Hp} (s:∀b xs,H b=some (.tup xs)->H' b=some (.tup xs)):∀{as:List Addr} {cs:List Chg},Paired (ChgAt H) as cs->Paired (ChgAt H') as cs
 | _,_,.nil=> .nil
 | _,_,.cons h t=> .cons (h.mono s) (b_f s t)
theorem DeedAt.same {H H':Hp} (s:Same H H') {a:Addr} {d:Deed} (h:DeedAt H a d):DeedAt H' a d:=by
 cases d with
 | chg c=>exact ChgAt.mono (H:=H) (H':=H') (λb xs q=>s _ _ q) h
 | all cs=>obtain⟨l,as,h1,h2,h3⟩:=h;exact⟨l,as,s _ _ h1,s _ _ h2,b_f (λb xs q=>s _ _ q) h3⟩
 | _=>exact s _ _ h
theorem a_K {H H':Hp} (s:Same H H'):∀{as:List Addr} {ds:List Deed},Paired (DeedAt H) as ds->Paired (DeedAt H') as ds
 | _,_,.nil=> .nil
 | _,_,.cons h t=> .cons (DeedAt.same s h) (a_K s t)
theorem DeedAt.mov {H H':Hp} {f:List Addr} (m:K1.Mov H H' f) {a:Addr} {d:Deed} (h:DeedAt H a d) (hl:∀l,H a=some (.tup [.str "all",.ref l])->l∉f):DeedAt H' a d:=by
 cases d with
 | chg c=>exact ChgAt.mono (H:=H) (H':=H') (λb xs q=>m.tup q) h
 | all cs=>obtain⟨l,as,e,i,g⟩:=h;exact⟨l,as,m.tup e,m.keep _ _ i (hl l e),b_f (λb xs q=>m.tup q) g⟩
 | _=>exact m.tup h
def m_M (H:Hp) (l:Addr) (ds:List Deed):Prop:=∃as:List Addr,H l=some (.lst (as.map V.ref))/\Paired (DeedAt H) as ds
def DeedBy (l:Addr) (H:Hp) (a:Addr) (d:Deed):Prop:=DeedAt H a d/\∀l',H a=some (.tup [.str "all",.ref l'])->l'≠l
theorem DeedAt.head {H:Hp} {a:Addr} {d:Deed} (h:DeedAt H a d):∃xs,H a=some (.tup xs):=by
 cases d with
 | chg c=>cases c with
   | bring ρ=>obtain⟨r,h1,_⟩:=h;exact⟨_,h1⟩
   | alter ρ=>obtain⟨r,h1,_⟩:=h;exact⟨_,h1⟩
   | cut n=>exact⟨_,h⟩
 | all cs=>obtain⟨l,as,h1,_⟩:=h;exact⟨_,h1⟩
 | _=>exact⟨_,h⟩
theorem DeedBy.same {l:Addr} {H H':Hp} (s:Same H H') {a:Addr} {d:Deed} (h:DeedBy l H a d):DeedBy l H' a d:=by
 obtain⟨xs,e⟩:=h.1.head;exact⟨DeedAt.same s h.1,λl' e'=>h.2 l' (by rw[s _ _ e] at e';rw[e];exact e')⟩
theorem DeedBy.upd {l:Addr} {H:Hp} {xs ys:List V} (hl:H l=some (.lst xs)) {a:Addr} {d:Deed} (h:DeedBy l H a d):DeedBy l (upd H l (.lst ys)) a d:=by
 obtain⟨zs,e⟩:=h.1.head;have m:K1.Mov H (L2.upd H l (.lst ys)) [l]:=K1.Mov.upd hl;exact⟨DeedAt.mov m h.1 λl' e' q=>h.2 l' e' (r_2.mp q),λl' e'=>h.2 l' (by rw[m.tup e] at e';rw[e];exact e')⟩
theorem c_7 {l:Addr} {H H':Hp} (s:Same H H'):∀{as:List Addr} {ds:List Deed},Paired (DeedBy l H) as ds->Paired (DeedBy l H') as ds
 | _,_,.nil=> .nil
 | _,_,.cons h t=> .cons (h.same s) (c_7 s t)
theorem j_o {l:Addr} {H:Hp} {xs ys:List V} (hl:H l=some (.lst xs)):∀{as:List Addr} {ds:List Deed},Paired (DeedBy l H) as ds->Paired (DeedBy l (L2.upd H l (.lst ys))) as ds
 | _,_,.nil=> .nil
 | _,_,.cons h t=> .cons (h.upd hl) (j_o hl t)
theorem f_P {l:Addr} {H:Hp}:∀{as:List Addr} {ds:List Deed},Paired (DeedBy l H) as ds->Paired (DeedAt H) as ds
 | _,_,.nil=> .nil
 | _,_,.cons h t=> .cons h.1 (f_P t)
def a_L:List Addr->List Row->List (Key×V)
 | r::rs,ρ::l=>(Sum.inl ρ.n,V.ref r)::a_L rs l
 | _,_=> []
def KeptAt (H:Hp) (d:Addr) (l:List Row):Prop:=∃rs:List Addr,H d=some (.dK (a_L rs l))/\RowsAt H rs l
theorem c_8 {H:Hp}:∀{rs:List Addr} {l:List Row},RowsAt H rs l->(a_L rs l).length=l.length
 | _,_,.nil=>rfl
 | _,_,.cons _ t=>by simp only[a_L,r_3,c_8 t]
theorem b_4 {H:Hp} {n:Int}:∀{rs:List Addr} {l:List Row},RowsAt H rs l->(d_K (a_L rs l) (Sum.inl n)).isSome=b_u l n/\(b_u l n=true->∃r ρ,d_K (a_L rs l) (Sum.inl n)=some (V.ref r)/\c_3 l n=some ρ/\RowAt H r ρ/\r∈rs)
 | _,_,.nil=>⟨rfl,λh=>by cases h⟩
 | r::rs,ρ::l,.cons h t=>by
   obtain⟨i1,f⟩:=b_4 (n:=n) t;by_cases e:ρ.n=n
   ·have ek:((Sum.inl ρ.n,V.ref r):Key×V).1=Sum.inl n:=by rw[e]
    refine⟨?_, λ_=>⟨r,ρ,?_, ?_, h,r_1 ..⟩⟩
    ·simp only[a_L];rw[b_Y ek];simp[b_u,e]
    ·simp only[a_L];rw[b_Y ek]
    ·simp[c_3,e]
   ·have ek:¬ ((Sum.inl ρ.n,V.ref r):Key×V).1=Sum.inl n:=λq=>e (by injection q)
    have eh:b_u (ρ::l) n=b_u l n:=by simp[b_u,e]
    refine⟨?_, λq=> ?_⟩
    ·simp only[a_L];rw[b_t ek,i1,eh]
    ·rw[eh] at q
     obtain⟨r',ρ',d,a,c,b⟩:=f q;refine⟨r',ρ',?_, ?_, c,r_0 _ b⟩
     ·simp only[a_L];rw[b_t ek];exact d
     ·simp only[c_3,List.find?_cons,s_E e];exact a
theorem h_g {H:Hp} {r:Addr} {ρ:Row} (hr:RowAt H r ρ) {rs:List Addr} {l:List Row} (h:RowsAt H rs l):∃rs',d_q (a_L rs l) (Sum.inl ρ.n) (V.ref r)=a_L rs' (c_m l ρ)/\RowsAt H rs' (c_m l ρ):=by
 have d:=(b_4 (n:=ρ.n) h).1;unfold c_m;by_cases c:b_u l ρ.n=true
 ·rw[if_pos c]
  have f:((a_L rs l).any λkv=>decide (kv.1=Sum.inl ρ.n))=true:=by rw[d_8,d,c]
  have aux:∀{rs:List Addr} {l:List Row},RowsAt H rs l->∃rs',((a_L rs l).map λkv=>if kv.1=Sum.inl ρ.n then (kv.1,V.ref r) else kv)=a_L rs' (l.map λx=>if x.n=ρ.n then ρ else x)/\RowsAt H rs' (l.map λx=>if x.n=ρ.n then ρ else x):=by
   intro rs l h;induction h with
   | nil=>exact⟨[],rfl,.nil⟩
   | cons h t ih=>
     rename_i r0 ρ0 rs l;obtain⟨rs',a,b⟩:=ih;by_cases e:ρ0.n=ρ.n
     ·refine⟨r::rs',?_, ?_⟩
      ·simp only[a_L,s_c,e,if_true,a]
      ·simp only[s_c,e,if_true];exact .cons hr b
     ·have ek:¬ ((Sum.inl ρ0.n:Key)=Sum.inl ρ.n):=λq=>e (by injection q)
      refine⟨r0::rs',?_, ?_⟩
      ·simp only[a_L,s_c,if_neg ek,if_neg e,a]
      ·simp only[s_c,if_neg e];exact .cons h b
  obtain⟨rs',a,b⟩:=aux h;refine⟨rs',?_, b⟩;unfold d_q;rw[if_pos f];exact a
 ·rw[if_neg c]
  have g:d_K (a_L rs l) (Sum.inl ρ.n)=none:=by
   cases e:d_K (a_L rs l) (Sum.inl ρ.n) with
   | none=>rfl
   | some u=>rw[e] at d;exact absurd d.symm c
  have aux:∀{rs:List Addr} {l:List Row},RowsAt H rs l->a_L rs l++ [(Sum.inl ρ.n,V.ref r)]=a_L (rs++ [r]) (l++ [ρ]):=by
   intro rs l h;induction h with
   | nil=>rfl
   | cons h t ih=>simp only[a_L,List.cons_append,ih]
  exact⟨rs++ [r],(d_X _ g).trans (aux h),RowsAt.app h (.cons hr .nil)⟩
theorem f_L {H:Hp} {n:Int}:∀{rs:List Addr} {l:List Row},RowsAt H rs l->∃rs',d_I (a_L rs l) (Sum.inl n)=a_L rs' (b_a l n)/\RowsAt H rs' (b_a l n)
 | _,_,.nil=>⟨[],rfl,.nil⟩
 | r::rs,ρ::l,.cons h t=>by
   obtain⟨rs',a,b⟩:=f_L (n:=n) t;by_cases e:ρ.n=n
   ·refine⟨rs',?_, ?_⟩
    ·simp only[a_L,d_I,b_a,s_m,e] at a ⊢;simpa using a
    ·simp only[b_a,s_m,e] at b ⊢;simpa using b
   ·have ek:¬ ((Sum.inl ρ.n:Key)=Sum.inl n):=λq=>e (by injection q)
    refine⟨r::rs',?_, ?_⟩
    ·simp only[a_L,d_I,b_a,s_m] at a ⊢
     simp only[ek,e,ne_eq,not_false_eq_true,decide_true,if_true,a_L,a]
    ·simp only[b_a,s_m,e,ne_eq,not_false_eq_true,decide_true,if_true] at b ⊢
     exact .cons h b
theorem _root_.K1.KeptAt.same {H H':Hp} {d:Addr} {l:List Row} (h:KeptAt H d l) (s:Same H H'):KeptAt H' d l:=by
 obtain⟨rs,h1,h2⟩:=h;exact⟨rs,s _ _ h1,h2.same λb xs q=>s _ _ q⟩
theorem _root_.K1.KeptAt.but {H H':Hp} {d kd:Addr} {l:List Row} {kvs:List (Key×V)} (h:KeptAt H d l) (hk:H kd=some (.dK kvs)) (hn:d≠kd) (s:∀b u,H b=some u->b≠kd->H' b=some u):KeptAt H' d l:=by
 obtain⟨rs,h1,h2⟩:=h;exact⟨rs,s _ _ h1 hn,h2.same λb xs q=>s _ _ q λe=>by rw[e,hk] at q;cases q⟩
abbrev a_0:=Option Row×Option Row
def b_D (l:List Row):Option Row->List Row
 | some ρ=>b_a l ρ.n
 | none=>l
def q_t (l:List Row):Option Row->List Row
 | some ρ=>c_m l ρ
 | none=>l
def e_x (l:List Row) (p:a_0):List Row:=q_t (b_D l p.1) p.2
structure StepOk (l:List Row) (p:a_0):Prop where
 out:∀ρ,p.1=some ρ->ρ∈l
 inn:∀ρ,p.2=some ρ->b_u (b_D l p.1) ρ.n=false
abbrev c_b (l:List Row):Prop:=(l.map (·.n)).Nodup
theorem b_P {l:List Row} {n:Int}:b_u l n=false↔∀x∈l,x.n≠n:=by
 constructor
 ·intro h x hx e
  have:b_u l n=true:=b_z.mpr ⟨x,hx,e⟩;rw[h] at this;cases this
 ·intro h
  cases e:b_u l n with
  | false=>rfl
  | true=>
    obtain⟨x,hx,ex⟩:=b_z.mp e;exact absurd ex (h x hx)
theorem b_C {l l':List Row} (p:l.Perm l') (n:Int):b_u l n=b_u l' n:=by
 cases e:b_u l' n with
 | true=>obtain⟨x,hx,ex⟩:=b_z.mp e;exact b_z.mpr ⟨x,p.mem_iff.mpr hx,ex⟩
 | false=>exact b_P.mpr λx hx=>b_P.mp e x (p.mem_iff.mp hx)
theorem b_3 {l:List Row} {ρ:Row} (h:b_u l ρ.n=false):c_m l ρ=l++ [ρ]:=by
 unfold c_m;rw[if_neg (by rw[h];simp)]
theorem e_6 {l l':List Row} (p:l.Perm l') (n:Int):(b_a l n).Perm (b_a l' n):=p.filter _
theorem e_7 {l l':List Row} (p:l.Perm l') (o:Option Row):(b_D l o).Perm (b_D l' o):=by
 cases o with
 | none=>exact p
 | some ρ=>exact e_6 p _
theorem k_l {l l':List Row} {p:a_0} (h:StepOk l p) (q:l.Perm l'):(e_x l p).Perm (e_x l' p):=by
 have q1:=e_7 q p.1;unfold e_x;cases e:p.2 with
 | none=>exact q1
 | some ρ=>
   have h1:=h.inn ρ e;have h2:=h1;rw[b_C q1] at h2;show (c_m _ ρ).Perm (c_m _ ρ);rw[b_3 h1,b_3 h2];exact q1.append_right _
theorem StepOk.perm {l l':List Row} {p:a_0} (h:StepOk l p) (q:l.Perm l'):StepOk l' p:=
 ⟨λρ e=>q.mem_iff.mp (h.out ρ e),λρ e=>by rw[<-b_C (e_7 q p.1)];exact h.inn ρ e⟩
theorem b_R {l l':List Row} (q:l.Perm l') (h:c_b l):c_b l':=(q.map _).nodup_iff.mp h
theorem c_K {l:List Row} (h:c_b l) (o:Option Row):c_b (b_D l o):=by
 cases o with
 | none=>exact h
 | some ρ=>exact e_X h
theorem g_I {l:List Row} (h:c_b l) (p:a_0):c_b (e_x l p):=by
 unfold e_x q_t;cases p.2 with
 | none=>exact c_K h _
 | some ρ=>exact g_x (c_K h _)
theorem j_2 {l:List Row} (h:c_b l) {x y:Row} (hx:x∈l) (hy:y∈l) (e:x.n=y.n):x=y:=by
 induction l with
 | nil=>cases hx
 | cons a r ih=>
   rw[c_b,s_c,s_r] at h
   rcases r_8.mp hx with ex | ex <;> rcases r_8.mp hy with ey | ey
   ·rw[ex,ey]
   ·exact absurd (s_s.mpr ⟨y,ey,by rw[<-e,ex]⟩) h.1
   ·exact absurd (s_s.mpr ⟨x,ex,by rw[e,ey]⟩) h.1
   ·exact ih h.2 ex ey
theorem d_J {l:List Row} (h:c_b l) {ρ:Row} (hm:ρ∈l):l.Perm (ρ::b_a l ρ.n):=by
 induction l with
 | nil=>cases hm
 | cons a r ih=>
   rw[c_b,s_c,s_r] at h;by_cases e:a.n=ρ.n
   ·have ea:a=ρ:=j_2 (l:=a::r) (by rw[c_b,s_c,s_r];exact h) (r_1 ..) hm e
    subst ea
    have:b_a (a::r) a.n=r:=by
     unfold b_a;rw[s_m,if_neg (by simp)];exact List.filter_eq_self.mpr λx c=>s_D λq=>h.1 (s_s.mpr ⟨x,c,q⟩)
    rw[this]
   ·have b:ρ∈r:=by
     rcases r_8.mp hm with q | q
     ·exact absurd (by rw[q]) e
     ·exact q
    have:b_a (a::r) ρ.n=a::b_a r ρ.n:=by
     unfold b_a;rw[s_m,if_pos (s_D e)]
    rw[this];exact ((ih h.2 b).cons a).trans (.swap ρ a _)
theorem k_4 {l:List Row} {n:Int} (h:b_u l n=false):b_a l n=l:=List.filter_eq_self.mpr λx hx=>s_D (b_P.mp h x hx)
theorem e_C (l:List Row) (n:Int):b_u (b_a l n) n=false:=b_P.mpr λx hx=>by
 have:=(List.mem_filter.mp hx).2;exact s_F this
theorem j_3 {l:List Row} {p:a_0} (h:c_b l) (k:StepOk l p):StepOk (e_x l p) (p.2,p.1)/\(e_x (e_x l p) (p.2,p.1)).Perm l:=by
 obtain⟨a,b⟩:=p;have g:c_b (b_D l a):=c_K h a;have f:∀ρ,b=some ρ->b_u (b_D l a) ρ.n=false:=k.inn
 have c:(b_D (e_x l (a,b)) b).Perm (b_D l a):=by
  unfold e_x;cases b with
  | none=>exact .refl _
  | some ρ=>
    have q:=f ρ rfl;show (b_a (c_m (b_D l a) ρ) ρ.n).Perm _;rw[b_3 q]
    have:b_a (b_D l a++ [ρ]) ρ.n=b_a (b_D l a) ρ.n:=by
     unfold b_a;rw[List.filter_append];simp
    rw[this,k_4 q]
 have d:∀ρ,a=some ρ->b_u (b_D (e_x l (a,b)) b) ρ.n=false:=λρ e=>by
  rw[b_C c];subst e;exact e_C _ _
 refine⟨⟨λρ e=> ?_, d⟩,?_⟩
 ·have e':b=some ρ:=e
  subst e';unfold e_x;show ρ∈c_m (b_D l a) ρ;rw[b_3 (f ρ rfl)];simp
 ·show (q_t (b_D (e_x l (a,b)) b) a).Perm l
  cases a with
  | none=>exact c
  | some ρ=>
    show (c_m _ ρ).Perm l;rw[b_3 (d ρ rfl)];refine (c.append_right [ρ]).trans ?_;refine (List.perm_append_singleton ρ _).trans ?_;exact (d_J h (k.out ρ rfl)).symm
theorem h_X (l:List Row) (o:Option Row):(b_D l o).length<=l.length:=by
 cases o with
 | none=>exact r_6 _
 | some ρ=>exact s_y _ _
theorem n_z {l:List Row} {p:a_0} (k:StepOk l p):(e_x l p).length<=l.length+1:=by
 have h:=h_X l p.1;unfold e_x;cases e:p.2 with
 | none=>exact s_i h (Nat.le_succ _)
 | some ρ=>
   show (c_m _ ρ).length<=_;rw[b_3 (k.inn ρ e),r_Z];simp only[r_3,s_x];omega
inductive Hs (N:Nat):List Row->List a_0->List Nat->List (List Row)->Prop
 | nil {l:List Row}:l.length<=N->c_b l->Hs N l [] [] []
 | mark {l k:List Row} {st:List a_0} {ms:List Nat} {ks:List (List Row)}:k.Perm l->Hs N l st ms ks->Hs N l st (st.length::ms) (k::ks)
 | step {l l':List Row} {p:a_0} {st:List a_0} {ms:List Nat} {ks:List (List Row)}:ms≠ []->StepOk l p->l'.Perm (e_x l p)->l'.length<=N->Hs N l st ms ks->Hs N l' (p::st) ms ks
theorem Hs.nums {N:Nat} {l:List Row} {st:List a_0} {ms:List Nat} {ks:List (List Row)} (h:Hs N l st ms ks):c_b l:=by
 induction h with
 | nil _ q=>exact q
 | mark _ _ ih=>exact ih
 | step _ k q _ _ ih=>exact b_R q.symm (g_I ih _)
theorem Hs.le {N:Nat} {l:List Row} {st:List a_0} {ms:List Nat} {ks:List (List Row)} (h:Hs N l st ms ks):l.length<=N:=by
 induction h with
 | nil q _=>exact q
 | mark _ _ ih=>exact ih
 | step _ _ _ q _ _=>exact q
theorem Hs.mono {N M:Nat} (hM:N<=M) {l:List Row} {st:List a_0} {ms:List Nat} {ks:List (List Row)} (h:Hs N l st ms ks):Hs M l st ms ks:=by
 induction h with
 | nil q n=>exact .nil (s_i q hM) n
 | mark p _ ih=>exact .mark p ih
 | step a b c d _ ih=>exact .step a b c (s_i d hM) ih
theorem Hs.perm {N:Nat} {l l':List Row} {st:List a_0} {ms:List Nat} {ks:List (List Row)} (h:Hs N l st ms ks) (q:l.Perm l'):Hs N l' st ms ks:=by
 induction h generalizing l' with
 | nil a n=>exact .nil (by rw[<-q.length_eq];exact a) (b_R q n)
 | mark p _ ih=>exact .mark (p.trans q) (ih q)
 | step a b c d e _=>exact .step a b (q.symm.trans c) (by rw[<-q.length_eq];exact d) e
theorem Hs.lens {N:Nat} {l:List Row} {st:List a_0} {ms:List Nat} {ks:List (List Row)} (h:Hs N l st ms ks):ms.length=ks.length:=by
 induction h with
 | nil _ _=>rfl
 | mark _ _ ih=>simp[ih]
 | step _ _ _ _ _ ih=>exact ih
theorem Hs.none {N:Nat} {l:List Row} {st:List a_0} {ks:List (List Row)} (h:Hs N l st [] ks):st= []/\ks= []:=by
 cases h with
 | nil _ _=>exact⟨rfl,rfl⟩
 | step a _ _ _ _=>exact absurd rfl a
theorem Hs.mle {N:Nat}:∀{l:List Row} {st:List a_0} {ms:List Nat} {ks:List (List Row)},Hs N l st ms ks->∀m∈ms,m<=st.length
 | _,_,_,_,.nil _ _,m,hm=>by cases hm
 | _,_,_,_,.mark _ h,m,hm=>by
   rcases r_8.mp hm with e | e
   ·rw[e];exact r_6 _
   ·exact h.mle m e
 | _,_,_,_,.step _ _ _ _ h,m,hm=>Nat.le_succ_of_le (h.mle m hm)
theorem Hs.keep {N:Nat} {m:Nat} {k:List Row} {ms:List Nat} {ks:List (List Row)} (hn:ms≠ []):∀{l:List Row} {st:List a_0},Hs N l st (m::ms) (k::ks)->Hs N l st ms ks
 | _,_,.mark _ h=>h
 | _,_,.step a b c d h=> .step hn b c d (Hs.keep hn h)
theorem Hs.back {N:Nat} {m:Nat} {k l:List Row} {p:a_0} {st:List a_0} {ms:List Nat} {ks:List (List Row)} (h:Hs N l (p::st) (m::ms) (k::ks)) (hm:m<=st.length):
 StepOk l (p.2,p.1)/\Hs N (e_x l (p.2,p.1)) st (m::ms) (k::ks):=by
 cases h with
 | mark j e=>exact absurd hm (by simp)
 | step a b c d e=>
   obtain⟨f,i⟩:=j_3 e.nums b;have g:=f.perm c.symm;exact⟨g,e.perm (i.symm.trans (k_l f c.symm))⟩
theorem Hs.at {N:Nat} {m:Nat} {k l:List Row} {st:List a_0} {ms:List Nat} {ks:List (List Row)} (h:Hs N l st (m::ms) (k::ks)) (hm:st.length<=m):k.Perm l/\Hs N l st ms ks:=by
 cases h with
 | mark p h2=>exact⟨p,h2⟩
 | step a b c d h2=>
   have:=h2.mle m (r_1 ..);simp only[r_3] at hm;omega
theorem c_M {l:List Row} {n:Int} (h:b_u l n=true):∃ρ,c_3 l n=some ρ/\ρ∈l/\ρ.n=n:=by
 unfold c_3;cases e:l.find? λx=>decide (x.n=n) with
 | none=>
   obtain⟨x,hx,ex⟩:=b_z.mp h;exact absurd (List.find?_eq_none.mp e x hx) (by simp[ex])
 | some ρ=>
   have h1:=List.find?_some e;exact⟨ρ,rfl,List.mem_of_find?_eq_some e,by simpa using h1⟩
theorem b_Q {l:List Row} {n:Int} (h:b_u l n=false):c_3 l n=none:=by
 unfold c_3;exact List.find?_eq_none.mpr λx hx=>by simpa using b_P.mp h x hx
theorem i_g {l:List Row} (hl:c_b l) {ρ:Row} (hm:ρ∈l):c_3 l ρ.n=some ρ:=by
 obtain⟨x,h1,h2,h3⟩:=c_M (b_z.mpr ⟨ρ,hm,rfl⟩);rw[h1,j_2 hl h2 hm h3]
theorem e_4 {l l':List Row} (hl:c_b l) (p:l.Perm l') (n:Int):c_3 l n=c_3 l' n:=by
 cases e:b_u l n with
 | true=>
   obtain⟨x,h1,h2,h3⟩:=c_M e;rw[h1,<-h3];exact (i_g (b_R p hl) (p.mem_iff.mp h2)).symm
 | false=>
   rw[b_Q e,b_Q (by rw[<-b_C p];exact e)]
theorem l_J {l:List Row} {ρ:Row} (h:b_u l ρ.n=false):StepOk l (none,some ρ):=⟨λ_ e=>(by cases e),λx e=>(by cases e;exact h)⟩
theorem k_8 {l:List Row} {ρ κ:Row} (h:κ∈l) (e:κ.n=ρ.n):StepOk l (some κ,some ρ):=⟨λ_ q=>(by cases q;exact h),λx q=>by cases q;show b_u (b_a l κ.n) ρ.n=false;rw[<-e];exact e_C _ _⟩
theorem o_O {l:List Row} {κ:Row} (h:κ∈l):StepOk l (some κ,none):=⟨λ_ q=>(by cases q;exact h),λx q=>by cases q⟩
theorem l_d {l:List Row} (hl:c_b l) {ρ κ:Row} (h:κ∈l) (e:κ.n=ρ.n):(e_x l (some κ,some ρ)).Perm (c_m l ρ):=by
 show (c_m (b_a l κ.n) ρ).Perm _;rw[b_3 (by rw[<-e];exact e_C _ _)];refine (List.perm_append_singleton ρ _).trans ?_;have d:b_u l ρ.n=true:=b_z.mpr ⟨κ,h,e⟩;unfold c_m;rw[if_pos d,e];clear d;induction l with
 | nil=>cases h
 | cons a r ih=>
   have j:=hl;rw[c_b,s_c,s_r] at hl;by_cases q:a.n=ρ.n
   ·have f:∀x∈r,x.n≠ρ.n:=λx b z=>hl.1 (s_s.mpr ⟨x,b,z.trans q.symm⟩)
    have c:b_a (a::r) ρ.n=r:=by
     unfold b_a;rw[s_m,if_neg (by simp[q])];exact List.filter_eq_self.mpr λx b=>s_D (f x b)
    have i:(r.map λx=>if x.n=ρ.n then ρ else x)=r:=by
     conv=>rhs;rw[<-List.map_id r]
     exact List.map_congr_left λx b=>by rw[if_neg (f x b)];rfl
    rw[c,s_c,if_pos q,i]
   ·have g:κ∈r:=by
     rcases r_8.mp h with z | z
     ·exact absurd (by rw[<-z];exact e) q
     ·exact z
    have c:b_a (a::r) ρ.n=a::b_a r ρ.n:=by
     unfold b_a;rw[s_m,if_pos (s_D q)]
    rw[c,s_c,if_neg q];exact (List.Perm.swap a ρ _).trans ((ih hl.2 g).cons a)
theorem f_7 {l l':List Row} (p:l.Perm l') (ρ:Row):(c_m l ρ).Perm (c_m l' ρ):=by
 unfold c_m;rw[b_C p];split
 ·exact p.map _
 ·exact p.append_right _
end TO
namespace K1
open PySem L2 TO
theorem i_1 {X:Cx} {st:Stmt} {t t':TS} (h:PS X st t) (hw:∀D σ H,t' D σ H->t D σ H):PS X st t':=λpins s σ H D I q=>h pins s σ H D I (hw D σ H q)
theorem l_A {X:Cx} {st:List Stmt} {t t':TS} (h:PSs X st t) (hw:∀D σ H,t' D σ H->t D σ H):PSs X st t':=λpins s σ H D I q=>h pins s σ H D I (hw D σ H q)
def c_e (room:Int) (nb o1 o2 sl ml:Addr):List (Str×V):= [("room",.int room),("by_number",.ref nb),("by_rank",.ref o1),("by_text",.ref o2),("steps",.ref sl),("marks",.ref ml)]
theorem e_2 {k:Str} {v:V} {r:List (Str×V)}:((k,v)::r).lookup k=some v:=by simp[List.lookup]
theorem a_2 {m k:Str} {v:V} {r:List (Str×V)} (h:¬ m=k):((k,v)::r).lookup m=r.lookup m:=by
 simp only[List.lookup,beq_eq_false_iff_ne.mpr h]
section
variable {room:Int} {nb o1 o2 sl ml:Addr}
theorem m_9:(c_e room nb o1 o2 sl ml).lookup ("room":Str)=some (.int room):=e_2
theorem f_g:(c_e room nb o1 o2 sl ml).lookup ("by_number":Str)=some (.ref nb):=(a_2 (by decide+kernel)).trans e_2
theorem f_Q:(c_e room nb o1 o2 sl ml).lookup ("by_rank":Str)=some (.ref o1):=(a_2 (by decide+kernel)).trans ((a_2 (by decide+kernel)).trans e_2)
theorem e_e:(c_e room nb o1 o2 sl ml).lookup ("by_text":Str)=some (.ref o2):=(a_2 (by decide+kernel)).trans ((a_2 (by decide+kernel)).trans ((a_2 (by decide+kernel)).trans e_2))
theorem d_4:(c_e room nb o1 o2 sl ml).lookup ("steps":Str)=some (.ref sl):=(a_2 (by decide+kernel)).trans ((a_2 (by decide+kernel)).trans ((a_2 (by decide+kernel)).trans ((a_2 (by decide+kernel)).trans e_2)))
theorem d_t:(c_e room nb o1 o2 sl ml).lookup ("marks":Str)=some (.ref ml):=(a_2 (by decide+kernel)).trans ((a_2 (by decide+kernel)).trans ((a_2 (by decide+kernel)).trans ((a_2 (by decide+kernel)).trans ((a_2 (by decide+kernel)).trans e_2))))
theorem d_E {m:Str} (h1:¬ m="room") (h2:¬ m="by_number") (h3:¬ m="by_rank") (h4:¬ m="by_text") (h5:¬ m="steps") (h6:¬ m="marks"):(c_e room nb o1 o2 sl ml).lookup m=none:=
 (a_2 h1).trans ((a_2 h2).trans ((a_2 h3).trans ((a_2 h4).trans ((a_2 h5).trans (a_2 h6)))))
theorem a_7 {f g:Str} {v x:V} {r:List (Str×V)} (h:¬ g=f):d_z f v ((g,x)::r)=(g,x)::d_z f v r:=if_neg h
theorem o_b {f:Str} {v x:V} {r:List (Str×V)}:d_z f v ((f,x)::r)=(f,v)::r:=if_pos rfl
theorem o_0 (sl':Addr):d_z ("steps":Str) (.ref sl') (c_e room nb o1 o2 sl ml)=c_e room nb o1 o2 sl' ml:=by
 unfold c_e;rw[a_7 (by decide+kernel),a_7 (by decide+kernel),a_7 (by decide+kernel),a_7 (by decide+kernel),o_b]
end
structure Ads where
 o:Addr
 dx:Addr
 nb:Addr
 o1:Addr
 o2:Addr
 sl:Addr
 ml:Addr
 bl1:Addr
 bl2:Addr
 bas1:List Addr
 bas2:List Addr
 sas:List Addr
def Ads.ls (A:Ads):List Addr:=A.sl::A.ml::(A.bl1::A.bas1++A.bl2::A.bas2)
def Ads.fp (A:Ads):List Addr:=A.o::A.nb::A.ls
def OptAt (H:Hp) (v:V):Option Row->Prop
 | none=>v= .non
 | some ρ=>∃r,v= .ref r/\RowAt H r ρ
def StepAt (H:Hp) (a:Addr) (p:a_0):Prop:=∃u v,H a=some (.tup [u,v])/\OptAt H u p.1/\OptAt H v p.2
abbrev a_N (H H':Hp):Prop:=∀b xs,H b=some (.tup xs)->H' b=some (.tup xs)
theorem OptAt.tk {H H':Hp} (t:a_N H H') {v:V} {o:Option Row} (h:OptAt H v o):OptAt H' v o:=by
 cases o with
 | none=>exact h
 | some ρ=>obtain⟨r,h1,h2⟩:=h;exact⟨r,h1,t _ _ h2⟩
theorem StepAt.tk {H H':Hp} (t:a_N H H') {a:Addr} {p:a_0} (h:StepAt H a p):StepAt H' a p:=by
 obtain⟨u,v,h1,h2,h3⟩:=h;exact⟨u,v,t _ _ h1,h2.tk t,h3.tk t⟩
theorem c_l {H H':Hp} (t:a_N H H'):∀{as:List Addr} {ps:List a_0},Paired (StepAt H) as ps->Paired (StepAt H') as ps
 | _,_,.nil=> .nil
 | _,_,.cons h r=> .cons (h.tk t) (c_l t r)
structure StrC (CS CO:Addr) (H:Hp) (A:Ads) (room:Int) (ln l1 l2:List Row) (st:List a_0) (ms:List Nat):Prop where
 ob:H A.o=some (.ins CS A.dx (c_e room A.nb A.o1 A.o2 A.sl A.ml))
 nb:KeptAt H A.nb ln
 O1:∃B,OrdAt CO false H A.o1 A.bl1 A.bas1 B/\GoodB false B/\B.flatten.Perm l1
 O2:∃B,OrdAt CO true H A.o2 A.bl2 A.bas2 B/\GoodB true B/\B.flatten.Perm l2
 sls:H A.sl=some (.lst (A.sas.map V.ref))
 sts:Paired (StepAt H) A.sas st.reverse
 mls:H A.ml=some (.lst (ms.reverse.map λm:Nat=>V.int m))
 nd:A.ls.Nodup
structure Mvd (H H':Hp) (f:List Addr):Prop where
 keep:∀b u,H b=some u->b∉f->H' b=some u
 kind:∀b∈f,∀u,H b=some u->(∃xs,u= .lst xs)\/∃kvs,u= .dK kvs
section
variable {H H':Hp} {f:List Addr}
theorem Mvd.tup (m:Mvd H H' f):a_N H H':=λb xs h=>m.keep b _ h λhb=>by
 rcases m.kind b hb _ h with⟨ys,e⟩ | ⟨ys,e⟩ <;> cases e
theorem Mvd.ins (m:Mvd H H' f) {b C d:Addr} {fl:List (Str×V)} (h:H b=some (.ins C d fl)):H' b=some (.ins C d fl):=m.keep b _ h λhb=>by
 rcases m.kind b hb _ h with⟨ys,e⟩ | ⟨ys,e⟩ <;> cases e
theorem Mvd.lstAt (m:Mvd H H' f) {l:Addr} {ρs:List Row} (h:LstAt H l ρs) (hl:l∉f):LstAt H' l ρs:=by
 obtain⟨as,h1,h2⟩:=h;exact⟨as,m.keep l _ h1 hl,h2.same m.tup⟩
theorem Mvd.lsts (m:Mvd H H' f):∀{bas:List Addr} {B:List (List Row)},Paired (LstAt H) bas B->(∀b∈bas,b∉f)->Paired (LstAt H') bas B
 | _,_,.nil,_=> .nil
 | _,_,.cons h t,hn=> .cons (m.lstAt h (hn _ (r_1 ..))) (m.lsts t λb hb=>hn b (r_0 _ hb))
theorem Mvd.ord (m:Mvd H H' f) {C:Addr} {w:Bool} {o bl:Addr} {bas:List Addr} {B:List (List Row)} (h:OrdAt C w H o bl bas B) (hn:∀b∈bl::bas,b∉f):OrdAt C w H' o bl bas B:=by
 obtain⟨⟨dx,h1⟩,h2,h3,h4⟩:=h;exact⟨⟨dx,m.ins h1⟩,m.keep _ _ h2 (hn _ (r_1 ..)),m.lsts h3 λb hb=>hn b (r_0 _ hb),h4⟩
theorem Mvd.kept (m:Mvd H H' f) {d:Addr} {l:List Row} (h:KeptAt H d l) (hd:d∉f):KeptAt H' d l:=by
 obtain⟨rs,h1,h2⟩:=h;exact⟨rs,m.keep _ _ h1 hd,h2.same m.tup⟩
theorem Stp.refl (f:List Addr):Stp H H f f:=⟨λ_ _ h _=>h,λ_ h=> .inl h⟩
theorem Stp.wide {g g' f f':List Addr} (s:Stp H H' g g') (h1:∀b∈g,b∈f) (h2:∀b∈f',b∈f\/b∈g'):Stp H H' f f':=⟨λb u h hn=>s.keep b u h λq=>hn (h1 b q),λb hb=>by
 rcases h2 b hb with q | q
 ·exact .inl q
 ·rcases s.new b q with z | z
  ·exact .inl (h1 b z)
  ·exact .inr z⟩
end
section
variable {CS CO:Addr} {H H':Hp} {A:Ads} {room:Int} {ln l1 l2:List Row} {st:List a_0} {ms:List Nat}
theorem StrC.list (h:StrC CS CO H A room ln l1 l2 st ms):∀b∈A.ls,∃xs,H b=some (.lst xs):=λb a=>by
 obtain⟨f,O1,_⟩:=h.O1;obtain⟨d,O2,_⟩:=h.O2
 have c:∀{w:Bool} {o bl:Addr} {bas:List Addr} {B:List (List Row)},OrdAt CO w H o bl bas B->∀b∈bl::bas,∃xs,H b=some (.lst xs):=λO b a=>by
  rcases r_8.mp a with e | e
  ·rw[e];exact⟨_,O.ls⟩
  ·exact e_p O.bs b e
 simp only[Ads.ls,r_8] at a;rcases a with e | e | e
 ·rw[e];exact⟨_,h.sls⟩
 ·rw[e];exact⟨_,h.mls⟩
 ·rcases s_f.mp e with q | q
  ·exact c O1 b q
  ·exact c O2 b q
theorem StrC.nbls (h:StrC CS CO H A room ln l1 l2 st ms):A.nb∉A.ls:=λhb=>by
 obtain⟨xs,e⟩:=h.list _ hb;obtain⟨rs,e2,_⟩:=h.nb;rw[e] at e2;cases e2
theorem StrC.mvd (h:StrC CS CO H A room ln l1 l2 st ms) {f:List Addr} (m:Mvd H H' f) (hf:∀b∈f,b∉A.fp):StrC CS CO H' A room ln l1 l2 st ms:=by
 have d:∀b∈A.nb::A.ls,b∉f:=λb a g=>hf b g (r_0 _ a);have c:∀b∈A.ls,b∉f:=λb a=>d b (r_0 _ a);obtain⟨j,O1,i⟩:=h.O1;obtain⟨e,O2,k⟩:=h.O2
 exact⟨m.ins h.ob,m.kept h.nb (d _ (r_1 ..)),⟨j,m.ord O1 λb a=>c b (by unfold Ads.ls;simp only[r_8,s_f] at a ⊢;grind),i⟩,⟨e,m.ord O2 λb a=>c b (by unfold Ads.ls;simp only[r_8,s_f] at a ⊢;grind),k⟩,
  m.keep _ _ h.sls (c _ (by simp[Ads.ls])),c_l m.tup h.sts,m.keep _ _ h.mls (c _ (by simp[Ads.ls])),h.nd⟩
theorem StrC.same (h:StrC CS CO H A room ln l1 l2 st ms) (s:Same H H'):StrC CS CO H' A room ln l1 l2 st ms:=h.mvd (f:= []) ⟨λb u q _=>s b u q,λb hb=>by cases hb⟩ λb hb=>by cases hb
theorem StrC.setNb (h:StrC CS CO H A room ln l1 l2 st ms) {ln':List Row} (k:KeptAt H' A.nb ln') (kp:∀b u,H b=some u->b≠A.nb->H' b=some u):StrC CS CO H' A room ln' l1 l2 st ms:=by
 have m:Mvd H H' [A.nb]:=⟨λb u q f=>kp b u q λe=>f (by rw[e];exact r_2.mpr rfl),λb a u d=>by
  obtain⟨rs,e,_⟩:=h.nb;rw[r_2.mp a,e] at d;exact .inr ⟨_,(r_4 d).symm⟩⟩
 have c:∀b∈A.ls,b∉ [A.nb]:=λb a i=>h.nbls (by rw[<-r_2.mp i];exact a);obtain⟨l,O1,j⟩:=h.O1;obtain⟨g,O2,n⟩:=h.O2
 exact⟨m.ins h.ob,k,⟨l,m.ord O1 λb a=>c b (by unfold Ads.ls;simp only[r_8,s_f] at a ⊢;grind),j⟩,⟨g,m.ord O2 λb a=>c b (by unfold Ads.ls;simp only[r_8,s_f] at a ⊢;grind),n⟩,
  m.keep _ _ h.sls (c _ (by simp[Ads.ls])),c_l m.tup h.sts,m.keep _ _ h.mls (c _ (by simp[Ads.ls])),h.nd⟩
theorem StrC.stpNb (h:StrC CS CO H A room ln l1 l2 st ms) (kp:∀b u,H b=some u->b≠A.nb->H' b=some u):Stp H H' A.fp A.fp:=⟨λb u q hn=>kp b u q λe=>hn (by rw[e];simp[Ads.fp]),λb hb=> .inl hb⟩
theorem f_R (A:Ads):A.ls.Nodup↔A.sl≠A.ml/\(∀b∈A.bl1::A.bas1,b≠A.sl/\b≠A.ml)/\(∀b∈A.bl2::A.bas2,b≠A.sl/\b≠A.ml)/\(A.bl1::A.bas1).Nodup/\(A.bl2::A.bas2).Nodup/\∀b∈A.bl1::A.bas1,b∉A.bl2::A.bas2:=by
 unfold Ads.ls;generalize u:A.bl1::A.bas1=f;generalize v:A.bl2::A.bas2=g;rw[s_r,s_r,List.nodup_append];simp only[r_8,s_f,not_or];constructor
 ·rintro⟨⟨k,r,i⟩,⟨t,j⟩,l,o,p⟩
  exact⟨k,λb h=>⟨λe=>r (e ▸ h),λe=>t (e ▸ h)⟩,λb h=>⟨λe=>i (e ▸ h),λe=>j (e ▸ h)⟩,l,o,λb h m=>p b h b m rfl⟩
 ·rintro⟨a,b,c,d,e,g'⟩
  exact⟨⟨a,λz=>(b _ z).1 rfl,λz=>(c _ z).1 rfl⟩,⟨λz=>(b _ z).2 rfl,λz=>(c _ z).2 rfl⟩,d,e,λx n y s q=>g' x n (q ▸ s)⟩
theorem Mvd.of_stp {C:Addr} {w:Bool} {o bl:Addr} {bas f':List Addr} {B:List (List Row)} (h:OrdAt C w H o bl bas B) (S:Stp H H' (bl::bas) f'):Mvd H H' (bl::bas):=⟨S.keep,λb hb u hu=>by
 left;rcases r_8.mp hb with e | e
 ·rw[e,h.ls] at hu;exact⟨_,(r_4 hu).symm⟩
 ·obtain⟨xs,q⟩:=e_p h.bs b e
  rw[q] at hu;exact⟨_,(r_4 hu).symm⟩⟩
theorem StrC.setO1 (h:StrC CS CO H A room ln l1 l2 st ms) {bas':List Addr} {B':List (List Row)} {l':List Row} (S:Stp H H' (A.bl1::A.bas1) (A.bl1::bas')) (O:OrdAt CO false H' A.o1 A.bl1 bas' B') (G:GoodB false B') (p:B'.flatten.Perm l'):
 StrC CS CO H' { A with bas1:=bas' } room ln l' l2 st ms/\Stp H H' A.fp ({ A with bas1:=bas' }:Ads).fp:=by
 obtain⟨t,O1,u⟩:=h.O1;obtain⟨l,O2,o⟩:=h.O2;have m:=Mvd.of_stp O1 S;obtain⟨k,i,r,s,n,j⟩:=(f_R A).mp h.nd;have g:∀b∈A.bl1::A.bas1,b∈A.ls:=λb a=>by unfold Ads.ls;simp only[r_8,s_f] at a ⊢;grind
 have d:∀b∈A.bl1::bas',b∈A.bl1::A.bas1\/H b=none:=S.new;have f:∀b,H b=none->b∉A.ls:=λb a c=>by obtain⟨xs,e⟩:=h.list b c;rw[a] at e;cases e
 refine⟨⟨m.ins h.ob,m.kept h.nb λc=>h.nbls (g _ c),⟨B',O,G,p⟩,⟨l,m.ord O2 λb a c=>j b c a,o⟩,m.keep _ _ h.sls λc=>(i _ c).1 rfl,c_l m.tup h.sts,m.keep _ _ h.mls λc=>(i _ c).2 rfl,?_⟩,?_⟩
 ·refine (f_R _).mpr ⟨k,λb a=> ?_, r,O.nd,n,λb a=> ?_⟩
  ·rcases d b a with q | q
   ·exact i b q
   ·exact⟨λe=>f b q (by rw[e];simp[Ads.ls]),λe=>f b q (by rw[e];simp[Ads.ls])⟩
  ·rcases d b a with q | q
   ·exact j b q
   ·exact λc=>f b q (by unfold Ads.ls;simp only[r_8,s_f] at c ⊢;grind)
 ·refine S.wide (λb a=> ?_) λb a=> ?_
  ·exact r_0 _ (r_0 _ (g b a))
  ·simp only[Ads.fp,Ads.ls,r_8,s_f] at a ⊢
   grind
theorem StrC.setO2 (h:StrC CS CO H A room ln l1 l2 st ms) {bas':List Addr} {B':List (List Row)} {l':List Row} (S:Stp H H' (A.bl2::A.bas2) (A.bl2::bas')) (O:OrdAt CO true H' A.o2 A.bl2 bas' B') (G:GoodB true B') (p:B'.flatten.Perm l'):
 StrC CS CO H' { A with bas2:=bas' } room ln l1 l' st ms/\Stp H H' A.fp ({ A with bas2:=bas' }:Ads).fp:=by
 obtain⟨n,O1,r⟩:=h.O1;obtain⟨s,O2,u⟩:=h.O2;have m:=Mvd.of_stp O2 S;obtain⟨k,o,i,l,t,j⟩:=(f_R A).mp h.nd;have g:∀b∈A.bl2::A.bas2,b∈A.ls:=λb a=>by unfold Ads.ls;simp only[r_8,s_f] at a ⊢;grind
 have d:∀b∈A.bl2::bas',b∈A.bl2::A.bas2\/H b=none:=S.new;have f:∀b,H b=none->b∉A.ls:=λb a c=>by obtain⟨xs,e⟩:=h.list b c;rw[a] at e;cases e
 refine⟨⟨m.ins h.ob,m.kept h.nb λc=>h.nbls (g _ c),⟨n,m.ord O1 λb a c=>j b a c,r⟩,⟨B',O,G,p⟩,m.keep _ _ h.sls λc=>(i _ c).1 rfl,c_l m.tup h.sts,m.keep _ _ h.mls λc=>(i _ c).2 rfl,?_⟩,?_⟩
 ·refine (f_R _).mpr ⟨k,o,λb a=> ?_, l,O.nd,λb a c=> ?_⟩
  ·rcases d b a with q | q
   ·exact i b q
   ·exact⟨λe=>f b q (by rw[e];simp[Ads.ls]),λe=>f b q (by rw[e];simp[Ads.ls])⟩
  ·rcases d b c with q | q
   ·exact j b a q
   ·exact f b q (by unfold Ads.ls;simp only[r_8,s_f] at a ⊢;grind)
 ·refine S.wide (λb a=> ?_) λb a=> ?_
  ·exact r_0 _ (r_0 _ (g b a))
  ·simp only[Ads.fp,Ads.ls,r_8,s_f] at a ⊢
   grind
theorem StrC.setSl (h:StrC CS CO H A room ln l1 l2 st ms) {sas':List Addr} {st':List a_0} {H':Hp} (e:H'=upd H A.sl (.lst (sas'.map V.ref))) (p:Paired (StepAt H) sas' st'.reverse):
 StrC CS CO H' { A with sas:=sas' } room ln l1 l2 st' ms/\Stp H H' A.fp ({ A with sas:=sas' }:Ads).fp:=by
 subst e
 have m:Mvd H (upd H A.sl (.lst (sas'.map V.ref))) [A.sl]:=⟨λb u q d=>by rw[a_i λe=>d (by rw[e];exact r_2.mpr rfl)];exact q,λb c u f=>by
  rw[r_2.mp c,h.sls] at f;exact .inl ⟨_,(r_4 f).symm⟩⟩
 obtain⟨g,k,n,r,s,t⟩:=(f_R A).mp h.nd;obtain⟨j,O1,o⟩:=h.O1;obtain⟨i,O2,l⟩:=h.O2
 refine⟨⟨m.ins h.ob,m.kept h.nb λa=>h.nbls (by rw[r_2.mp a];simp[Ads.ls]),⟨j,m.ord O1 λb c a=>(k b c).1 (r_2.mp a),o⟩,⟨i,m.ord O2 λb c a=>(n b c).1 (r_2.mp a),l⟩,
  a_b,c_l m.tup p,m.keep _ _ h.mls λa=>g (r_2.mp a).symm,h.nd⟩,⟨λb u q d=>m.keep b u q λa=>d (by rw[r_2.mp a];simp[Ads.fp,Ads.ls]),λb c=> .inl c⟩⟩
theorem StrC.setMl (h:StrC CS CO H A room ln l1 l2 st ms) {ms':List Nat} {H':Hp} (e:H'=upd H A.ml (.lst (ms'.reverse.map λm:Nat=>V.int m))):StrC CS CO H' A room ln l1 l2 st ms'/\Stp H H' A.fp A.fp:=by
 subst e
 have m:Mvd H (upd H A.ml (.lst (ms'.reverse.map λm:Nat=>V.int m))) [A.ml]:=⟨λb u q d=>by rw[a_i λe=>d (by rw[e];exact r_2.mpr rfl)];exact q,λb c u f=>by
  rw[r_2.mp c,h.mls] at f;exact .inl ⟨_,(r_4 f).symm⟩⟩
 obtain⟨g,k,n,p,r,s⟩:=(f_R A).mp h.nd;obtain⟨j,O1,o⟩:=h.O1;obtain⟨i,O2,l⟩:=h.O2
 exact⟨⟨m.ins h.ob,m.kept h.nb λa=>h.nbls (by rw[r_2.mp a];simp[Ads.ls]),⟨j,m.ord O1 λb c a=>(k b c).2 (r_2.mp a),o⟩,⟨i,m.ord O2 λb c a=>(n b c).2 (r_2.mp a),l⟩,
  m.keep _ _ h.sls λa=>g (r_2.mp a),c_l m.tup h.sts,a_b,h.nd⟩,⟨λb u q d=>m.keep b u q λa=>d (by rw[r_2.mp a];simp[Ads.fp,Ads.ls]),λb c=> .inl c⟩⟩
theorem StrC.newSl (cc:CS≠CO) (h:StrC CS CO H A room ln l1 l2 st ms) {sl':Addr} (hs:H sl'=none):StrC CS CO (upd (upd H sl' (.lst [])) A.o (.ins CS A.dx (c_e room A.nb A.o1 A.o2 sl' A.ml))) { A with sl:=sl',sas:= [] } room ln l1 l2 [] ms/\
 Stp H (upd (upd H sl' (.lst [])) A.o (.ins CS A.dx (c_e room A.nb A.o1 A.o2 sl' A.ml))) A.fp ({ A with sl:=sl',sas:= [] }:Ads).fp:=by
 have f:=h.same (Same.upd_new (o:= .lst []) hs);have l:sl'≠A.o:=λe=>by rw[e,h.ob] at hs;cases hs
 have kp:∀b u,(upd H sl' (.lst [])) b=some u->b≠A.o->(upd (upd H sl' (.lst [])) A.o (.ins CS A.dx (c_e room A.nb A.o1 A.o2 sl' A.ml))) b=some u:=λb u q k=>by rw[a_i k];exact q
 have tk:a_N (upd H sl' (.lst [])) (upd (upd H sl' (.lst [])) A.o (.ins CS A.dx (c_e room A.nb A.o1 A.o2 sl' A.ml))):=λb xs q=>kp b _ q λe=>by rw[e,f.ob] at q;cases q
 have lk:∀b xs,(upd H sl' (.lst [])) b=some (.lst xs)->b≠A.o:=λb xs q e=>by rw[e,f.ob] at q;cases q
 obtain⟨L,z,J,r,C,G⟩:=(f_R A).mp h.nd;have i:∀b∈A.ls,b≠sl':=λb c e=>by obtain⟨xs,q⟩:=h.list b c;rw[e,hs] at q;cases q
 have ordk:∀{w:Bool} {o bl:Addr} {bas:List Addr} {B:List (List Row)},OrdAt CO w (upd H sl' (.lst [])) o bl bas B->OrdAt CO w (upd (upd H sl' (.lst [])) A.o (.ins CS A.dx (c_e room A.nb A.o1 A.o2 sl' A.ml))) o bl bas B:=λ{w o bl bas B} O=>by
  obtain⟨⟨d,g⟩,n,p,I⟩:=O;refine⟨⟨d,kp _ _ g λe=> ?_⟩,kp _ _ n (lk _ _ n),?_, I⟩
  ·rw[e,f.ob] at g
   injection g with g
   injection g with g
   exact cc g
  ·have aux:∀{bas:List Addr} {B:List (List Row)},Paired (LstAt (upd H sl' (.lst []))) bas B→Paired (LstAt (upd (upd H sl' (.lst [])) A.o (.ins CS A.dx (c_e room A.nb A.o1 A.o2 sl' A.ml)))) bas B:=by
    intro bas B s;induction s with
    | nil=>exact .nil
    | cons a t ih=>
      obtain⟨as,m,F⟩:=a;exact .cons ⟨as,kp _ _ m (lk _ _ m),F.same tk⟩ ih
   exact aux p
 obtain⟨y,O1,K⟩:=f.O1;obtain⟨v,O2,E⟩:=f.O2;obtain⟨rs,j,x⟩:=f.nb;refine⟨⟨a_b,⟨rs,kp _ _ j λe=>(by rw[e,f.ob] at j;cases j),x.same tk⟩,⟨y,ordk O1,K⟩,⟨v,ordk O2,E⟩,kp _ _ a_b l,.nil,kp _ _ f.mls (lk _ _ f.mls),?_⟩,⟨λb u q k=> ?_, λb c=> ?_⟩⟩
 ·refine (f_R _).mpr ⟨λe=>i A.ml (by simp[Ads.ls]) e.symm,λb c=>⟨i b (by unfold Ads.ls;simp only[r_8,s_f] at c ⊢;grind),(z b c).2⟩,λb c=>⟨i b (by unfold Ads.ls;simp only[r_8,s_f] at c ⊢;grind),(J b c).2⟩,r,C,G⟩
 ·rw[a_i λe=>k (by rw[e];simp[Ads.fp]),a_i (a_h q hs)]
  exact q
 ·simp only[Ads.fp,Ads.ls,r_8,s_f] at c ⊢
  rcases c with e | e | e | e | e
  ·exact .inl (.inl e)
  ·exact .inl (.inr (.inl e))
  ·exact .inr (by rw[e];exact hs)
  ·exact .inl (.inr (.inr (.inr (.inl e))))
  ·exact .inl (.inr (.inr (.inr (.inr e))))
end
structure e_W (K:PySem.W.Frag) (mg:Str->Option Value) (CS CO:Addr):Prop where
 cl:Cls K CS
 nRoom:NoAttr K CS "room"
 nNum:NoAttr K CS "by_number"
 nRank:NoAttr K CS "by_rank"
 nText:NoAttr K CS "by_text"
 nSteps:NoAttr K CS "steps"
 nMarks:NoAttr K CS "marks"
 mgS:mg "Store"=some (.ref CS)
 cc:CS≠CO
structure o_U (K:PySem.W.Frag) (mg:Str->Option Value) (CT CF CM CN:Addr):Prop where
 t:Exc K mg "Taken" CT
 f:Exc K mg "Full" CF
 m:Exc K mg "Missing" CM
 n:Exc K mg "NotBegun" CN
abbrev f_U (CS CO:Addr) (H:Hp) (A:Ads) (room:Int) (l:List Row) (st:List a_0) (ms:List Nat):Prop:=StrC CS CO H A room l l l st ms
section
variable {P:Program} {w:World} {K:PySem.W.Frag} {mg:Str->Option Value} {base:Heap}
theorem l_S {H:Hp} {d:Addr} {l:List Row} {rs:List Addr} (n:Int) (hk:H d=some (.dK (a_L rs l))) (hR:RowsAt H rs l):KeptAt (upd H d (.dK (d_I (a_L rs l) (Sum.inl n)))) d (b_a l n):=by
 obtain⟨rs',e1,e2⟩:=f_L (n:=n) hR;refine⟨rs',by rw[e1];exact a_b,e2.same λb xs e=> ?_⟩;rw[a_i (λq=>by rw[q,hk] at e;cases e)];exact e
theorem l_l {H:Hp} {d r:Addr} {l:List Row} {rs:List Addr} {ρ:Row} (hk:H d=some (.dK (a_L rs l))) (hR:RowsAt H rs l) (hr:RowAt H r ρ):KeptAt (upd H d (.dK (d_q (a_L rs l) (Sum.inl ρ.n) (V.ref r)))) d (c_m l ρ):=by
 obtain⟨rs',e1,e2⟩:=h_g hr hR;refine⟨rs',by rw[e1];exact a_b,e2.same λb xs e=> ?_⟩;rw[a_i (λq=>by rw[q,hk] at e;cases e)];exact e
theorem b_y {H:Hp} {d:Addr} {o:HO}:∀b u,H b=some u->b≠d->(upd H d o) b=some u:=λb u e hn=>by rw[a_i hn];exact e
def k_z (CS CO:Addr):Sp:=λvs H Q _=>∃(A:Ads) (u v:V) (p:a_0) (room:Int) (l:List Row) (st:List a_0) (ms:List Nat),vs= [.ref A.o,u,v]/\f_U CS CO H A room l st ms/\OptAt H u p.1/\OptAt H v p.2/\StepOk l p/\c_b l/\l.length<=9000/\
 ∀(A':Ads) (H':Hp),f_U CS CO H' A' room (e_x l p) st ms->A'.o=A.o->Stp H H' A.fp A'.fp->a_N H H'->Q .non H'
theorem o_2:a_s ["self","old","new"] ["self","old","new"] (a_n o_p):=⟨rfl,rfl,rfl,by decide+kernel,rfl,by decide+kernel,by decide+kernel⟩
def tEx (CS CO:Addr) (A:Ads) (u v:V) (H:Hp) (room:Int) (l:List Row) (st:List a_0) (ms:List Nat):TS:=λD σ Hx=>σ= [some (.ref A.o),some u,some v]/\Hx=H/\
 ∀(A':Ads) (H':Hp),f_U CS CO H' A' room l st ms->A'.o=A.o->Stp H H' A.fp A'.fp->a_N H H'->D.nx σ H'
theorem n_U {f fTk fLt CS CO:Addr} {fd fdTk fdLt:FuncData} (F:Fun K "exchange" "Store.exchange" o_p f fd) (T:Txt K mg CO) (TS:e_W K mg CS CO)
 (mTk:Mf K CO "take_in" fTk fdTk ["self","row"]) (GTk:FnOk P w K mg base CX0 4 fTk fdTk ["self","row"] (m_B CO)) (mLt:Mf K CO "let_out" fLt fdLt ["self","row"]) (GLt:FnOk P w K mg base CX0 4 fLt fdLt ["self","row"] (p_g CO)):
 FnOk P w K mg base CX0 5 f fd ["self","old","new"] (k_z CS CO):=by
 refine F.ok o_2 (λvs H Q E h=> ?_) (λcdv A outer s H vs Q E hr h=> ?_)
 ·obtain⟨A,u,v,p,room,l,st,ms,rfl,_⟩:=h
  rfl
 ·obtain⟨A,u,v,p,room,l,st,ms,rfl,S,hu,hv,ok,hn,hsz,fin⟩:=h
  have hu1:=e_V hr;have I:Room 4 _:=hr
  refine⟨_,a_c (i_1 (t':=tEx CS CO A u v H room (b_D l p.1) st ms) (a_C (d_N (j_w (pv 1))) (a_c (a_y (h_2 (a_E (pv 0) rfl) (a_r (a_j K) (pv 1) a_g (λ_ _=>rfl)) ⟨rfl,rfl,rfl,rfl⟩))
   (a_c (a_y (a_Q (a_E (pv 0) rfl) T.cl mLt.m GLt I mLt.b .nil a_u (a_a (pv 1) a_d))) (a_f (a_y (a_Q (a_E (pv 0) rfl) T.cl mLt.m GLt I mLt.b .nil a_u (a_a (pv 1) a_d)))))) a_p) ?hw)
   (a_f (a_C (d_N (j_w (pv 2))) (a_c (e_g hu1 (a_E (pv 0) rfl) (a_r (a_j K) (pv 2) a_g (λ_ _=>rfl)) (pv 2) rfl)
   (a_c (a_y (a_Q (a_E (pv 0) rfl) T.cl mTk.m GTk I mTk.b .nil a_u (a_a (pv 2) a_d))) (a_f (a_y (a_Q (a_E (pv 0) rfl) T.cl mTk.m GTk I mTk.b .nil a_u (a_a (pv 2) a_d)))))) a_p)),?main⟩
  case hw=>
   rintro D σ Hx ⟨rfl,rfl,k⟩;obtain⟨d,p2⟩:=p;cases d with
   | none=>
     obtain rfl:u= .non:=hu;exact⟨_,rfl,_,rfl,i_W (k A Hx S rfl (Stp.refl _) λ_ _ h=>h)⟩
   | some ρ=>
     obtain⟨r,rfl,hρ⟩:=id hu;have Y:=ok.out ρ rfl;obtain⟨rs,g,N⟩:=S.nb;obtain⟨g1,g2⟩:=b_4 (n:=ρ.n) N;obtain⟨r',ρ',hval,_⟩:=g2 (b_z.mpr ⟨ρ,Y,rfl⟩);refine⟨_,rfl,_,rfl,k_S ?_⟩;refine⟨_,rfl,A.o,CS,A.dx,_,_,rfl,S.ob,TS.cl,TS.nNum,f_g,A.nb,rfl,.inl ⟨_,.inl g⟩,_,rfl,r,_,_,_,rfl,rfl,SqT.of hρ,a_e (j:=0) rfl,_,Sum.inl ρ.n,_,g,rfl,hval,?_⟩;have t:=S.setNb (l_S ρ.n g N) b_y;have F1:=S.stpNb (H':=upd Hx A.nb (.dK (d_I (a_L rs l) (Sum.inl ρ.n)))) b_y
     have c:a_N Hx (upd Hx A.nb (.dK (d_I (a_L rs l) (Sum.inl ρ.n)))):=λb xs e=>by
      rw[a_i (λq=>by rw[q,g] at e;cases e)];exact e
     obtain⟨B1,O1,G1,G⟩:=t.O1;obtain⟨L,R⟩:=O1.ob;refine⟨_,rfl,A.o,CS,A.dx,_,_,rfl,t.ob,TS.cl,TS.nRank,f_Q,A.o1,L,_,rfl,R,a_Z _ _ (by decide+kernel) (by decide+kernel),_,rfl,false,A.o1,A.bl1,r,A.bas1,B1,ρ,rfl,O1,c _ _ hρ,G1,G.mem_iff.mpr Y,by rw[G.length_eq];omega,λbas' B' H2 O' G' p' S'=> ?_⟩
     have z:B'.flatten.Perm (b_a l ρ.n):=by
      have:=(p'.trans G).trans (d_J hn Y);exact this.cons_inv
     obtain⟨y,F2⟩:=t.setO1 S' O' G' z;have i:=(Mvd.of_stp O1 S').tup;obtain⟨B2,O2,G2,C⟩:=y.O2;obtain⟨U,O⟩:=O2.ob;refine⟨_,rfl,A.o,CS,A.dx,_,_,rfl,y.ob,TS.cl,TS.nText,e_e,A.o2,U,_,rfl,O,a_Z _ _ (by decide+kernel) (by decide+kernel),_,rfl,true,A.o2,A.bl2,r,A.bas2,B2,ρ,rfl,O2,i _ _ (c _ _ hρ),G2,C.mem_iff.mpr Y,by rw[C.length_eq];omega,λbas2 X H3 O'' G'' p'' S''=> ?_⟩
     have e2:X.flatten.Perm (b_a l ρ.n):=by
      have:=(p''.trans C).trans (d_J hn Y);exact this.cons_inv
     obtain⟨S3,F3⟩:=y.setO2 S'' O'' G'' e2;exact k _ H3 S3 rfl ((F1.trans F2).trans F3) λb xs e=>(Mvd.of_stp O2 S'').tup _ _ (i _ _ (c _ _ e))
  case main=>
   refine⟨rfl,rfl,λa H1 W z F0 J=> ?_⟩;have hv1:=hv.tk J;have hn0:c_b (b_D l p.1):=c_K hn p.1;have hle0:=h_X l p.1;have okin:=ok.inn;obtain⟨d,p2⟩:=p;cases p2 with
   | none=>
     obtain rfl:v= .non:=hv;exact⟨_,rfl,_,rfl,i_W (fin a H1 W z F0 J)⟩
   | some ρ=>
     obtain⟨r,rfl,hρ⟩:=id hv1;have hno:=okin ρ rfl;have Z:∀x∈b_D l d,x.n≠ρ.n:=b_P.mp hno;obtain⟨rs,g,N⟩:=W.nb;have hkz:(a_L rs (b_D l d)).length < sizeLine:=by rw[c_8 N];exact s_C (s_i hle0 hsz) (by decide)
     have hob:=W.ob;rw[z] at hob;refine⟨_,rfl,_,rfl,k_S ?_⟩;refine⟨_,rfl,_,rfl,A.o,CS,a.dx,_,_,rfl,hob,TS.cl,TS.nNum,f_g,_,rfl,r,_,_,_,rfl,rfl,SqT.of hρ,a_e (j:=0) rfl,a.nb,_,rfl,DPut.k (k:=Sum.inl ρ.n) g hkz,?_⟩;have t:=W.setNb (l_l g N hρ) b_y;have F1:=W.stpNb (H':=upd H1 a.nb (.dK (d_q (a_L rs (b_D l d)) (Sum.inl ρ.n) (V.ref r)))) b_y
     have c:a_N H1 (upd H1 a.nb (.dK (d_q (a_L rs (b_D l d)) (Sum.inl ρ.n) (V.ref r)))):=λb xs e=>by
      rw[a_i (λq=>by rw[q,g] at e;cases e)];exact e
     obtain⟨B1,O1,G1,G⟩:=t.O1;obtain⟨L,R⟩:=O1.ob;have M:=t.ob;rw[z] at M;have ep:c_m (b_D l d) ρ=b_D l d++ [ρ]:=b_3 hno;refine⟨_,rfl,A.o,CS,a.dx,_,_,rfl,M,TS.cl,TS.nRank,f_Q,a.o1,L,_,rfl,R,a_Z _ _ (by decide+kernel) (by decide+kernel),_,rfl,false,a.o1,a.bl1,r,a.bas1,B1,ρ,rfl,O1,c _ _ hρ,G1,λx hx=>Z x (G.mem_iff.mp hx),by rw[G.length_eq];omega,λbas' B' H2 O' G' p' S'=> ?_⟩
     have ex1:B'.flatten.Perm (c_m (b_D l d) ρ):=by
      rw[ep];exact (p'.trans (G.cons ρ)).trans (List.perm_append_singleton ρ _).symm
     obtain⟨y,F2⟩:=t.setO1 S' O' G' ex1;have i:=(Mvd.of_stp O1 S').tup;obtain⟨B2,O2,G2,C⟩:=y.O2;obtain⟨U,O⟩:=O2.ob;have B:=y.ob;dsimp only at B;rw[z] at B;refine⟨_,rfl,A.o,CS,a.dx,_,_,rfl,B,TS.cl,TS.nText,e_e,a.o2,U,_,rfl,O,a_Z _ _ (by decide+kernel) (by decide+kernel),_,rfl,true,a.o2,a.bl2,r,a.bas2,B2,ρ,rfl,O2,i _ _ (c _ _ hρ),G2,λx hx=>Z x (C.mem_iff.mp hx),by rw[C.length_eq];omega,λbas2 X H3 O'' G'' p'' S''=> ?_⟩
     have ex2:X.flatten.Perm (c_m (b_D l d) ρ):=by
      rw[ep];exact (p''.trans (C.cons ρ)).trans (List.perm_append_singleton ρ _).symm
     obtain⟨S3,F3⟩:=y.setO2 S'' O'' G'' ex2;exact fin _ H3 S3 z (((F0.trans F1).trans F2).trans F3) λb xs e=>(Mvd.of_stp O2 S'').tup _ _ (i _ _ (c _ _ (J _ _ e)))
def d_5 (CS CO:Addr):Sp:=λvs H Q _=>∃(A:Ads) (u v:V) (p:a_0) (room:Int) (l:List Row) (st:List a_0) (ms:List Nat),vs= [.ref A.o,u,v]/\f_U CS CO H A room l st ms/\OptAt H u p.1/\OptAt H v p.2/\StepOk l p/\c_b l/\l.length<=9000/\st.length<=9000/\
 ∀(A':Ads) (H':Hp),f_U CS CO H' A' room (e_x l p) (if ms= [] then st else p::st) ms->A'.o=A.o->Stp H H' A.fp A'.fp->a_N H H'->Q .non H'
theorem l_w:a_s ["self","old","new"] ["self","old","new"] (a_n h_y):=⟨rfl,rfl,rfl,by decide+kernel,rfl,by decide+kernel,by decide+kernel⟩
theorem k_j {f fE CS CO:Addr} {fd fdE:FuncData} (F:Fun K "change" "Store.change" h_y f fd) (T:Txt K mg CO) (TS:e_W K mg CS CO)
 (mE:Mf K CS "exchange" fE fdE ["self","old","new"]) (GE:FnOk P w K mg base CX0 5 fE fdE ["self","old","new"] (k_z CS CO)):FnOk P w K mg base CX0 6 f fd ["self","old","new"] (d_5 CS CO):=by
 refine F.ok l_w (λvs H Q E h=> ?_) (λcdv A outer s H vs Q E X h=> ?_)
 ·obtain⟨A,u,v,p,room,l,st,ms,rfl,_⟩:=h
  rfl
 ·obtain⟨A,u,v,p,room,l,st,ms,rfl,S,I,L,ok,U,J,M,fin⟩:=h
  refine⟨_,a_c (a_y (a_Q (pv 0) TS.cl mE.m GE X mE.b .nil a_u (a_a (pv 1) (a_a (pv 2) a_d))))
   (a_f (a_C (a_m h_o (a_t (a_B K) (by rfl) T.len s_G (a_a (a_E (pv 0) rfl) a_d)) a_g (a_q _))
     (a_f (a_y (b_x s_H s_J s_I a_O (a_E (pv 0) rfl) (a_a (a_H (a_a (pv 1) (a_a (pv 2) a_d))) a_d)))) a_p)),?_⟩
  refine⟨_,rfl,A.o,A.dx,_,rfl,S.ob,d_E (by decide+kernel) (by decide+kernel) (by decide+kernel) (by decide+kernel) (by decide+kernel) (by decide+kernel),_,rfl,_,rfl,A,u,v,p,room,l,st,ms,rfl,S,I,L,ok,U,J,λa i g C G x=> ?_⟩;have j:=g.ob;rw[C] at j;refine⟨_,rfl,A.o,CS,a.dx,_,_,rfl,j,TS.cl,TS.nMarks,d_t,a.ml,_,rfl,.inl (SqL.of g.mls),_,_,rfl,rfl,_,rfl,a_x (λc=> ?_) (λc=> ?_)⟩
  ·have k:ms≠ []:=λe=>by rw[e] at c;exact absurd (s_F c) (by simp)
   have z:a.sas.length=st.length:=by rw[Paired.length g.sts,s_z]
   refine⟨_,rfl,A.o,CS,a.dx,_,_,rfl,j,TS.cl,TS.nSteps,d_4,.inl ⟨rfl,_,SqL.of g.sls⟩,_,rfl,_,rfl,by show 2<=sizeLine;decide,λt N=> ?_⟩;have y:Same i (upd i t (.tup [u,v])):=Same.upd_new N;have n:=g.same y;refine⟨a.sl,_,_,rfl,rfl,n.sls,by rw[r_X,z];exact s_C M (by decide),?_⟩;have d:a_N H (upd i t (.tup [u,v])):=λb xs e=>y _ _ (x _ _ e)
   have O:Paired (StepAt (upd i t (.tup [u,v]))) (a.sas++ [t]) (p::st).reverse:=by
    rw[List.reverse_cons];exact a_D n.sts (.cons ⟨u,v,a_b,I.tk d,L.tk d⟩ .nil)
   obtain⟨R,W⟩:=n.setSl (H':=upd (upd i t (.tup [u,v])) a.sl (.lst (a.sas.map V.ref++ [V.ref t]))) (sas':=a.sas++ [t]) (by rw[r_5];rfl) O;have B:(if ms= [] then st else p::st)=p::st:=if_neg k;have ff:=fin { a with sas:=a.sas++ [t] } _ (by rw[B];exact R) C ((G.trans (Stp.of_same y)).trans W) λb xs e=> ?_
   ·exact ff
   ·rw[a_i (fun q=>by
     have:=d _ _ e;rw[q,n.sls] at this;cases this)]
    exact d _ _ e
  ·have k:ms= []:=by
    cases ms with
    | nil=>rfl
    | cons m r=>
      exfalso;apply c;apply s_D;simp only[r_X,s_z,r_3];omega
   have B:(if ms= [] then st else p::st)=st:=if_pos k;exact fin a i (by rw[B];exact g) C G x
def e_G (CS CO CM:Addr):Sp:=λvs H Q E=>∃(A:Ads) (n:Int) (room:Int) (l:List Row) (st:List a_0) (ms:List Nat),vs= [.ref A.o,.int n]/\f_U CS CO H A room l st ms/\k_T n/\
 (b_u l n=true->∀r ρ,c_3 l n=some ρ->RowAt H r ρ->Q (.ref r) H)/\(b_u l n=false->E (.ref CM) none H)
theorem m_K:a_s ["self","number"] ["self","number"] (a_n j_q):=⟨rfl,rfl,rfl,by decide+kernel,rfl,by decide+kernel,by decide+kernel⟩
theorem l_s {f CS CO CT CF CM CN:Addr} {fd:FuncData} (F:Fun K "row_of" "Store.row_of" j_q f fd) (TS:e_W K mg CS CO) (ex:o_U K mg CT CF CM CN):FnOk P w K mg base (CXR P w) 1 f fd ["self","number"] (e_G CS CO CM):=by
 refine F.okX m_K (λvs H Q E h=> ?_) (λcdv A outer s H vs Q E x h=> ?_)
 ·obtain⟨A,n,room,l,st,ms,rfl,_⟩:=h
  rfl
 ·obtain⟨A,n,room,l,st,ms,rfl,S,d,g,e⟩:=h
  have a:=e_V x
  refine⟨_,a_c (a_C (d_N (d_s a (pv 1) (a_E (pv 0) rfl))) (a_f (d_w ex.m e_q (a_a (o_S a_l (pv 1) (by decide+kernel)) a_d))) a_p)
   (a_f (a_o (b_n a (a_E (pv 0) rfl) (pv 1) (λ_ _=>rfl)))),?_⟩
  obtain⟨rs,u,t⟩:=S.nb;obtain⟨j,b⟩:=b_4 (n:=n) t;have gn:DGet H A.nb (.int n) (d_K (a_L rs l) (Sum.inl n)):=DGet.k (k:=Sum.inl n) u;refine⟨_,rfl,_,rfl,A.o,CS,A.dx,_,_,rfl,S.ob,TS.cl,TS.nNum,f_g,A.nb,_,rfl,gn,_,rfl,?_⟩;rw[j];refine a_x (λc=> ?_) (λc=> ?_)
  ·have c':b_u l n=false:=by cases q:b_u l n with
    | false=>rfl
    | true=>rw[q] at c;cases c
   exact⟨_,rfl,n,rfl,d,λy=>⟨by show 1<=sizeLine;decide,e c'⟩⟩
  ·have c':b_u l n=true:=by cases q:b_u l n with
    | true=>rfl
    | false=>rw[q] at c;exact absurd rfl c
   obtain⟨r,ρ,v,i,p,_⟩:=b c';rw[v] at gn;exact⟨_,rfl,A.o,CS,A.dx,_,_,rfl,S.ob,TS.cl,TS.nNum,f_g,_,rfl,A.nb,_,rfl,gn,g c' r ρ i p⟩
def m_6 (CS CO CN:Addr):Sp:=λvs H Q E=>∃(A:Ads) (room:Int) (l:List Row) (st:List a_0) (ms:List Nat),vs= [.ref A.o]/\f_U CS CO H A room l st ms/\
 (∀m r,ms=m::r->∀H',f_U CS CO H' A room l st r->Stp H H' A.fp A.fp->a_N H H'->Q (.int (m:Nat)) H')/\(ms= []->E (.ref CN) none H)
theorem q_q:a_s ["self"] ["self"] (a_n q_D):=⟨rfl,rfl,rfl,by decide+kernel,rfl,by decide+kernel,by decide+kernel⟩
theorem o_X {f CS CO CT CF CM CN:Addr} {fd:FuncData} (F:Fun K "end_of_last" "Store.end_of_last" q_D f fd) (T:Txt K mg CO) (TS:e_W K mg CS CO) (ex:o_U K mg CT CF CM CN):FnOk P w K mg base (CXR P w) 1 f fd ["self"] (m_6 CS CO CN):=by
 refine F.okX q_q (λvs H Q E h=> ?_) (λcdv A outer s H vs Q E k h=> ?_)
 ·obtain⟨A,room,l,st,ms,rfl,_⟩:=h
  rfl
 ·obtain⟨A,room,l,st,ms,rfl,S,g,d⟩:=h
  refine⟨_,a_c (a_C (a_m a_J (a_t (a_B K) (by rfl) T.len s_G (a_a (a_E (pv 0) rfl) a_d)) a_g (a_q _)) (a_f (d_w ex.n e_q (a_a a_l a_d))) a_p)
   (a_f (a_o (e_v s_H PySem.F.slot_list_pop PySem.F.type_list_pop f_3 (a_E (pv 0) rfl)))),?_⟩
  refine⟨_,rfl,A.o,CS,A.dx,_,_,rfl,S.ob,TS.cl,TS.nMarks,d_t,A.ml,_,rfl,.inl (SqL.of S.mls),rfl,_,rfl,a_x (λc=> ?_) (λc=> ?_)⟩
  ·have a:ms= []:=by
    have:=s_F c;injection this with this
    rw[r_X,s_z] at this;exact s_t.mp (by omega)
   exact⟨by show 1<=sizeLine;decide,d a⟩
  ·cases ms with
   | nil=>exact absurd (s_D rfl) c
   | cons m r=>
     refine⟨_,rfl,A.o,CS,A.dx,_,_,rfl,S.ob,TS.cl,TS.nMarks,d_t,.inl ⟨rfl,_,SqL.of S.mls⟩,A.ml,_,V.int (m:Nat),rfl,rfl,S.mls,?_, ?_⟩
     ·rw[List.reverse_cons,r_5]
      simp
     ·obtain⟨i,j⟩:=S.setMl (ms':=r) (H':=upd H A.ml (.lst (((m::r).reverse.map λm:Nat=>V.int m).dropLast))) (by rw[List.reverse_cons,r_5];simp)
      refine g m r rfl _ i j λb xs e=> ?_;rw[a_i (λq=>by rw[q,S.mls] at e;cases e)];exact e
end
end K1
namespace L2
open PySem PySem.Spec PyProof.Rows
theorem PS.nox {X:Cx} {st:Stmt} {t:TS} (h:PS X.nox st t):PS X st t:=λpins s σ H D I hw=>
 wpAny_mono (h pins s σ H D (I.wish _) hw) (λ_ _ q=>q.unwish) λ_ _ z=>False.elim z
end L2
namespace TO
open PySem L2
theorem Hs.chg {N:Nat} {l:List Row} {st:List a_0} {ms:List Nat} {ks:List (List Row)} {p:a_0} (h:Hs N l st ms ks) (k:StepOk l p):Hs (N+1) (e_x l p) (if ms= [] then st else p::st) ms ks:=by
 have a:=n_z k;have b:=h.le;by_cases e:ms= []
 ·subst e
  obtain⟨rfl,rfl⟩:=h.none;rw[if_pos rfl];exact .nil (by omega) (g_I h.nums p)
 ·rw[if_neg e]
  exact .step e k (.refl _) (by omega) (h.mono (Nat.le_succ _))
end TO
namespace K1
open PySem L2 TO
structure SAt (CS CO:Addr) (H:Hp) (A:Ads) (N:Nat) (room:Int) (s:Sto):Prop where
 ex:∃l st ms,f_U CS CO H A room l st ms/\Hs N l st ms s.marks/\l.Perm s.kept/\st.length<=N/\ms.length<=N
section
variable {CS CO:Addr} {H H':Hp} {A:Ads} {N:Nat} {room:Int} {s:Sto}
theorem SAt.mono {M:Nat} (h:SAt CS CO H A N room s) (hM:N<=M):SAt CS CO H A M room s:=by
 obtain⟨l,st,ms,a,b,c,d,e⟩:=h.ex;exact⟨l,st,ms,a,b.mono hM,c,by omega,by omega⟩
theorem SAt.same (h:SAt CS CO H A N room s) (e:Same H H'):SAt CS CO H' A N room s:=by
 obtain⟨l,st,ms,a,r⟩:=h.ex;exact⟨l,st,ms,a.same e,r⟩
theorem SAt.nums (h:SAt CS CO H A N room s):c_b s.kept:=by
 obtain⟨l,st,ms,a,b,c,_⟩:=h.ex;exact b_R c b.nums
end
abbrev o_i (CS CO:Addr) (H:Hp) (A:Ads) (N:Nat) (room:Int) (Q:VK) (s':Sto):Prop:=∀(A':Ads) (H':Hp),SAt CS CO H' A' N room s'->A'.o=A.o->Stp H H' A.fp A'.fp->a_N H H'->Q .non H'
section
variable {P:Program} {w:World} {K:PySem.W.Frag} {mg:Str->Option Value} {base:Heap}
def i_2 (CS CO CT CF:Addr):Sp:=λvs H Q E=>∃(A:Ads) (a:Addr) (ρ:Row) (N:Nat) (room:Int) (s:Sto),vs= [.ref A.o,.ref a]/\SAt CS CO H A N room s/\RowAt H a ρ/\k_T ρ.n/\N<=8000/\
 (b_u s.kept ρ.n=true->E (.ref CT) none H)/\(b_u s.kept ρ.n=false->room<=(s.kept.length:Int)->E (.ref CF) none H)/\(b_u s.kept ρ.n=false->¬ room<=(s.kept.length:Int)->o_i CS CO H A (N+1) room Q { s with kept:=c_m s.kept ρ })
theorem j_y:a_s ["self","row","number"] ["self","row"] (a_n i_Y):=⟨rfl,rfl,rfl,by decide+kernel,rfl,by decide+kernel,by decide+kernel⟩
theorem l_v {f fC CS CO CT CF CM CN:Addr} {fd fdC:FuncData} (F:Fun K "bring" "Store.bring" i_Y f fd) (T:Txt K mg CO) (TS:e_W K mg CS CO) (ex:o_U K mg CT CF CM CN)
 (mC:Mf K CS "change" fC fdC ["self","old","new"]) (GC:FnOk P w K mg base CX0 6 fC fdC ["self","old","new"] (d_5 CS CO)):FnOk P w K mg base (CXR P w) 7 f fd ["self","row"] (i_2 CS CO CT CF):=by
 refine F.okX j_y (λvs H Q E h=> ?_) (λcdv A outer s H vs Q E v h=> ?_)
 ·obtain⟨A,a,ρ,N,room,s,rfl,_⟩:=h
  rfl
 ·obtain⟨A,a,ρ,N,room,so,rfl,S,p,x,R,I,G,B⟩:=h
  obtain⟨l,st,ms,C,d,e,O,U⟩:=S.ex;have g:=e_V v
  refine⟨_,a_c (a_w (i:=2) j_y.nd rfl (Or.inl rfl) (a_r (a_j K) (pv 1) a_g (λ_ _=>rfl)))
   (a_c (a_C (d_N (m_f g (pv 2) (a_E (pv 0) rfl))) (a_f (d_w ex.t e_q (a_a (p_j a_l (pv 2) a_l (by decide+kernel) (by decide+kernel)) a_d))) a_p)
   (a_c (a_C (a_m j_c (a_t f_8 (by rfl) T.len s_G (a_a (a_E (pv 0) rfl) a_d)) (a_E (pv 0) rfl) (a_q _)) (a_f (d_w ex.f e_q (a_a a_l a_d))) a_p)
   (a_f (a_y (a_Q (pv 0) TS.cl mC.m GC v mC.b .nil a_u (a_a m_v (a_a (pv 1) a_d))))))),?_⟩
  obtain⟨rs,u,r⟩:=C.nb;obtain⟨J,M⟩:=b_4 (n:=ρ.n) r;have gn:DGet H A.nb (.int ρ.n) (d_K (a_L rs l) (Sum.inl ρ.n)):=DGet.k (k:=Sum.inl ρ.n) u;have eh:=b_C e ρ.n;have el:(a_L rs l).length=so.kept.length:=by rw[c_8 r,e.length_eq]
  refine⟨_,rfl,a,_,_,_,rfl,rfl,SqT.of p,a_e (j:=0) rfl,?_⟩;refine⟨_,rfl,_,rfl,A.o,CS,A.dx,_,_,rfl,C.ob,TS.cl,TS.nNum,f_g,A.nb,_,rfl,gn,_,rfl,?_⟩;rw[J,eh];refine a_x (λc=>⟨_,rfl,ρ.n,rfl,x,λy=>⟨by show 1<=sizeLine;decide,I c⟩⟩) (λc=> ?_)
  have c':b_u so.kept ρ.n=false:=by cases q:b_u so.kept ρ.n with
   | false=>rfl
   | true=>exact absurd q c
  refine⟨_,rfl,A.o,CS,A.dx,_,_,rfl,C.ob,TS.cl,TS.nNum,f_g,A.nb,_,rfl,u,_,rfl,A.o,CS,A.dx,_,_,rfl,C.ob,TS.cl,TS.nRoom,m_9,_,_,rfl,rfl,_,rfl,?_⟩;rw[el];refine a_x (λq=>⟨by show 1<=sizeLine;decide,G c' (s_F q)⟩) (λq=> ?_);have ok:=l_J (l:=l) (ρ:=ρ) (by rw[eh];exact c');have L:=d.le;refine⟨_,rfl,A.o,A.dx,_,rfl,C.ob,d_E (by decide+kernel) (by decide+kernel) (by decide+kernel) (by decide+kernel) (by decide+kernel) (by decide+kernel),_,rfl,A,.non,.ref a,(none,some ρ),room,l,st,ms,rfl,C,rfl,⟨a,rfl,p⟩,ok,d.nums,by omega,by omega,λA' H' C' e' F' tk=> ?_⟩;refine B c' (λz=>q (s_D z)) A' H' ⟨_,_,_,C',d.chg ok,f_7 e ρ,?_, by omega⟩ e' F' tk
  split <;> (try simp only[r_3]) <;> omega
def j_4 (CS CO CM:Addr):Sp:=λvs H Q E=>∃(A:Ads) (a:Addr) (ρ:Row) (N:Nat) (room:Int) (s:Sto),vs= [.ref A.o,.ref a]/\SAt CS CO H A N room s/\RowAt H a ρ/\k_T ρ.n/\N<=8000/\
 (b_u s.kept ρ.n=false->E (.ref CM) none H)/\(b_u s.kept ρ.n=true->o_i CS CO H A (N+1) room Q { s with kept:=c_m s.kept ρ })
theorem n_9:a_s ["self","row"] ["self","row"] (a_n j_9):=⟨rfl,rfl,rfl,by decide+kernel,rfl,by decide+kernel,by decide+kernel⟩
theorem k_7 {f fC fR CS CO CM:Addr} {fd fdC fdR:FuncData} (F:Fun K "alter" "Store.alter" j_9 f fd) (TS:e_W K mg CS CO)
 (mC:Mf K CS "change" fC fdC ["self","old","new"]) (GC:FnOk P w K mg base CX0 6 fC fdC ["self","old","new"] (d_5 CS CO)) (mR:Mf K CS "row_of" fR fdR ["self","number"]) (GR:FnOk P w K mg base (CXR P w) 1 fR fdR ["self","number"] (e_G CS CO CM)):
 FnOk P w K mg base (CXR P w) 7 f fd ["self","row"] (j_4 CS CO CM):=by
 refine F.okX n_9 (λvs H Q E h=> ?_) (λcdv A outer s H vs Q E t h=> ?_)
 ·obtain⟨A,a,ρ,N,room,s,rfl,_⟩:=h
  rfl
 ·obtain⟨A,a,ρ,N,room,so,rfl,S,k,u,G,x,v⟩:=h
  obtain⟨l,st,ms,C,d,g,B,I⟩:=S.ex;have e:Room 1 _:=t.mono (by decide);refine⟨_,a_f (a_y (a_Q (pv 0) TS.cl mC.m GC t mC.b .nil a_u (a_a (a_Q (pv 0) TS.cl mR.m GR e mR.b .nil (c_s (E':=E) λ_ _ _ h=>h) (a_a (a_r (a_j K) (pv 1) a_g (λ_ _=>rfl)) a_d)) (a_a (pv 1) a_d)))),?_⟩;have eh:=b_C g ρ.n;have z:=d.le;refine⟨_,rfl,A.o,A.dx,_,rfl,C.ob,d_E (by decide+kernel) (by decide+kernel) (by decide+kernel) (by decide+kernel) (by decide+kernel) (by decide+kernel),_,rfl,A.o,A.dx,_,rfl,C.ob,d_E (by decide+kernel) (by decide+kernel) (by decide+kernel) (by decide+kernel) (by decide+kernel) (by decide+kernel),_,rfl,a,_,_,_,rfl,rfl,SqT.of k,a_e (j:=0) rfl,A,ρ.n,room,l,st,ms,rfl,C,u,λc r κ y hκ=> ?_, λc=>x (by rw[<-eh];exact c)⟩;obtain⟨κ',p,q,i⟩:=c_M c;rw[y] at p;cases p;have ok:=k_8 (ρ:=ρ) q i;refine⟨_,rfl,A,.ref r,.ref a,(some κ,some ρ),room,l,st,ms,rfl,C,⟨r,rfl,hκ⟩,⟨a,rfl,k⟩,ok,d.nums,by omega,by omega,λA' H' C' e' F' tk=> ?_⟩;refine v (by rw[<-eh];exact c) A' H' ⟨_,_,_,C',d.chg ok,(l_d d.nums q i).trans (f_7 g ρ),?_, by omega⟩ e' F' tk
  split <;> (try simp only[r_3]) <;> omega
def o_E (CS CO CM:Addr):Sp:=λvs H Q E=>∃(A:Ads) (n:Int) (N:Nat) (room:Int) (s:Sto),vs= [.ref A.o,.int n]/\SAt CS CO H A N room s/\k_T n/\N<=8000/\
 (b_u s.kept n=false->E (.ref CM) none H)/\(b_u s.kept n=true->o_i CS CO H A (N+1) room Q { s with kept:=b_a s.kept n })
theorem p_X:a_s ["self","number"] ["self","number"] (a_n p_9):=⟨rfl,rfl,rfl,by decide+kernel,rfl,by decide+kernel,by decide+kernel⟩
theorem p_H {f fC fR CS CO CM:Addr} {fd fdC fdR:FuncData} (F:Fun K "cut" "Store.cut" p_9 f fd) (TS:e_W K mg CS CO)
 (mC:Mf K CS "change" fC fdC ["self","old","new"]) (GC:FnOk P w K mg base CX0 6 fC fdC ["self","old","new"] (d_5 CS CO)) (mR:Mf K CS "row_of" fR fdR ["self","number"]) (GR:FnOk P w K mg base (CXR P w) 1 fR fdR ["self","number"] (e_G CS CO CM)):
 FnOk P w K mg base (CXR P w) 7 f fd ["self","number"] (o_E CS CO CM):=by
 refine F.okX p_X (λvs H Q E h=> ?_) (λcdv A outer s H vs Q E i h=> ?_)
 ·obtain⟨A,n,N,room,s,rfl,_⟩:=h
  rfl
 ·obtain⟨A,n,N,room,so,rfl,S,j,y,q,p⟩:=h
  obtain⟨l,st,ms,C,a,e,x,z⟩:=S.ex;have d:Room 1 _:=i.mono (by decide);refine⟨_,a_f (a_y (a_Q (pv 0) TS.cl mC.m GC i mC.b .nil a_u (a_a (a_Q (pv 0) TS.cl mR.m GR d mR.b .nil (c_s (E':=E) λ_ _ _ h=>h) (a_a (pv 1) a_d)) (a_a m_v a_d)))),?_⟩;have eh:=b_C e n;have v:=a.le;refine⟨_,rfl,A.o,A.dx,_,rfl,C.ob,d_E (by decide+kernel) (by decide+kernel) (by decide+kernel) (by decide+kernel) (by decide+kernel) (by decide+kernel),_,rfl,A.o,A.dx,_,rfl,C.ob,d_E (by decide+kernel) (by decide+kernel) (by decide+kernel) (by decide+kernel) (by decide+kernel) (by decide+kernel),_,rfl,A,n,room,l,st,ms,rfl,C,j,λc r κ t hκ=> ?_, λc=>q (by rw[<-eh];exact c)⟩;obtain⟨κ',g,u,k⟩:=c_M c;rw[t] at g;cases g;have ok:=o_O u;refine⟨A,.ref r,.non,(some κ,none),room,l,st,ms,rfl,C,⟨r,rfl,hκ⟩,rfl,ok,a.nums,by omega,by omega,λA' H' C' e' F' tk=> ?_⟩;have ed:e_x l (some κ,none)=b_a l n:=by rw[<-k];rfl
  refine p (by rw[<-eh];exact c) A' H' ⟨_,_,_,C',a.chg ok,by rw[ed];exact e_6 e n,?_, by omega⟩ e' F' tk
  split <;> (try simp only[r_3]) <;> omega
def h_m (CS CO:Addr):Sp:=λvs H Q _=>∃(A:Ads) (N:Nat) (room:Int) (s:Sto),vs= [.ref A.o]/\SAt CS CO H A N room s/\N<=8000/\o_i CS CO H A (N+1) room Q { s with marks:=s.kept::s.marks }
theorem o_o:a_s ["self"] ["self"] (a_n i_7):=⟨rfl,rfl,rfl,by decide+kernel,rfl,by decide+kernel,by decide+kernel⟩
theorem l_u {f CS CO:Addr} {fd:FuncData} (F:Fun K "begin" "Store.begin" i_7 f fd) (T:Txt K mg CO) (TS:e_W K mg CS CO):FnOk P w K mg base CX0 1 f fd ["self"] (h_m CS CO):=by
 refine F.ok o_o (λvs H Q E h=> ?_) (λcdv A outer s H vs Q E p h=> ?_)
 ·obtain⟨A,N,room,s,rfl,_⟩:=h
  rfl
 ·obtain⟨A,N,room,so,rfl,S,d,fin⟩:=h
  obtain⟨l,st,ms,C,g,c,n,i⟩:=S.ex;refine⟨_,a_f (a_y (b_x s_H s_J s_I a_O (a_E (pv 0) rfl) (a_a (a_t (a_B K) (by rfl) T.len s_G (a_a (a_E (pv 0) rfl) a_d)) a_d))),?_⟩;have a:A.sas.length=st.length:=by rw[Paired.length C.sts,s_z]
  refine⟨_,rfl,A.o,CS,A.dx,_,_,rfl,C.ob,TS.cl,TS.nMarks,d_t,.inl ⟨rfl,_,SqL.of C.mls⟩,_,rfl,A.o,CS,A.dx,_,_,rfl,C.ob,TS.cl,TS.nSteps,d_4,A.sl,_,rfl,.inl (SqL.of C.sls),A.ml,_,_,rfl,rfl,C.mls,?_, ?_⟩
  ·rw[r_X,s_z]
   exact s_C (s_i i d) (by decide)
  ·obtain⟨j,k⟩:=C.setMl (ms':=st.length::ms) (H':=upd H A.ml (.lst ((ms.reverse.map λm:Nat=>V.int m)++ [V.int (((A.sas.map V.ref).length:Nat):Int)]))) (by rw[List.reverse_cons,r_5,r_X,a];rfl)
   refine fin A _ ⟨_,_,_,j,.mark c.symm (g.mono (Nat.le_succ _)),c,by omega,by simp only[r_3];omega⟩ rfl k λb xs e=> ?_;rw[a_i (λq=>by rw[q,C.mls] at e;cases e)];exact e
def k_b (CS CO CN:Addr):Sp:=λvs H Q E=>∃(A:Ads) (N:Nat) (room:Int) (s:Sto),vs= [.ref A.o]/\SAt CS CO H A N room s/\(s.marks= []->E (.ref CN) none H)/\∀k r,s.marks=k::r->o_i CS CO H A N room Q { s with marks:=r }
theorem p_e:a_s ["self"] ["self"] (a_n n_l):=⟨rfl,rfl,rfl,by decide+kernel,rfl,by decide+kernel,by decide+kernel⟩
theorem d_p {N:Nat} {l:List Row} {st:List a_0} {ms:List Nat} {ks:List (List Row)} (h:Hs N l st ms ks):ms= []↔ks= []:=by
 have:=h.lens;constructor
 ·rintro rfl;exact s_t.mp this.symm
 ·rintro rfl;exact s_t.mp this
theorem n_4 {f fE CS CO CN:Addr} {fd fdE:FuncData} (F:Fun K "keep" "Store.keep" n_l f fd) (T:Txt K mg CO) (TS:e_W K mg CS CO) (mE:Mf K CS "end_of_last" fE fdE ["self"]) (GE:FnOk P w K mg base (CXR P w) 1 fE fdE ["self"] (m_6 CS CO CN)):
 FnOk P w K mg base (CXR P w) 2 f fd ["self"] (k_b CS CO CN):=by
 refine F.okX p_e (λvs H Q E h=> ?_) (λcdv A outer s H vs Q E M h=> ?_)
 ·obtain⟨A,N,room,s,rfl,_⟩:=h
  rfl
 ·obtain⟨A,N,room,so,rfl,S,I,B⟩:=h
  obtain⟨l,st,ms,C,a,t,z,G⟩:=S.ex
  refine⟨_,a_c (a_y (b_A (pv 0) TS.cl mE.m GE M mE.b .nil (c_s (E':=E) λ_ _ _ h=>h)))
   (a_f (a_C (a_m a_J (a_t (a_B K) (by rfl) T.len s_G (a_a (a_E (pv 0) rfl) a_d)) a_g (a_q _)) (a_f (d_u (pv 0) (a_P a_d) rfl)) a_p)),?_⟩
  refine⟨_,rfl,A.o,A.dx,_,rfl,C.ob,d_E (by decide+kernel) (by decide+kernel) (by decide+kernel) (by decide+kernel) (by decide+kernel) (by decide+kernel),A,room,l,st,ms,rfl,C,λm r em x d p n=> ?_, λe=>I ((d_p a).mp e)⟩;subst em
  obtain⟨k,ks,ek⟩:∃k ks,so.marks=k::ks:=by
   cases q:so.marks with
   | nil=>rw[q] at a;exact absurd ((d_p a).mpr rfl) (by simp)
   | cons k ks=>exact⟨k,ks,rfl⟩
  have u:=B k ks ek;rw[ek] at a;refine⟨_,rfl,A.o,CS,A.dx,_,_,rfl,d.ob,TS.cl,TS.nMarks,d_t,A.ml,_,rfl,.inl (SqL.of d.mls),rfl,_,rfl,a_x (λc=> ?_) (λc=> ?_)⟩
  ·have i:r= []:=by
    have:=s_F c;injection this with this
    rw[r_X,s_z] at this;exact s_t.mp (by omega)
   subst i
   have y:ks= []:=by
    have:=a.lens;simp only[r_3,s_x] at this;exact s_t.mp (by omega)
   subst y;refine⟨by show 0<=sizeLine;decide,λsl' g=> ?_⟩;obtain⟨J,L⟩:=d.newSl TS.cc g;have v:(upd x sl' (.lst [])) A.o=some (.ins CS A.dx (c_e room A.nb A.o1 A.o2 A.sl A.ml)):=by rw[a_i (a_h d.ob g)];exact d.ob
   refine⟨_,rfl,A.o,CS,A.dx,_,rfl,v,TS.cl,TS.nSteps,by show 6 < 1000;decide,?_⟩;rw[o_0];refine u _ _ ⟨_,_,_,J,.nil a.le a.nums,t,by simp,by simp⟩ rfl (p.trans L) λb xs e=> ?_;have j:=n _ _ e;rw[a_i (λq=>by rw[q,d.ob] at j;cases j),a_i (a_h j g)];exact j
  ·have i:r≠ []:=λq=>by rw[q] at c;exact absurd (s_D rfl) c
   exact u A x ⟨_,_,_,d,Hs.keep i a,t,z,by simp only[r_3] at G;omega⟩ rfl p n
def h_a (CS CO CN:Addr):Sp:=λvs H Q E=>∃(A:Ads) (N:Nat) (room:Int) (s:Sto),vs= [.ref A.o]/\SAt CS CO H A N room s/\N<=8000/\(s.marks= []->E (.ref CN) none H)/\∀k r,s.marks=k::r->o_i CS CO H A N room Q ⟨k,r⟩
theorem h_w:a_s ["self","mark","step"] ["self"] (a_n k_r):=⟨rfl,rfl,rfl,by decide+kernel,rfl,by decide+kernel,by decide+kernel⟩
theorem l_3 {f fE fX CS CO CN:Addr} {fd fdE fdX:FuncData} (F:Fun K "break_off" "Store.break_off" k_r f fd) (T:Txt K mg CO) (TS:e_W K mg CS CO) (mE:Mf K CS "end_of_last" fE fdE ["self"]) (GE:FnOk P w K mg base (CXR P w) 1 fE fdE ["self"] (m_6 CS CO CN))
 (mX:Mf K CS "exchange" fX fdX ["self","old","new"]) (GX:FnOk P w K mg base CX0 5 fX fdX ["self","old","new"] (k_z CS CO)):FnOk P w K mg base (CXR P w) 6 f fd ["self"] (h_a CS CO CN):=by
 refine F.okX h_w (λvs H Q E h=> ?_) (λcdv A outer s H vs Q E hr h=> ?_)
 ·obtain⟨A,N,room,s,rfl,_⟩:=h
  rfl
 ·obtain⟨A,N,room,so,rfl,S,hN,k1,k2⟩:=h
  obtain⟨l,st,ms,C,J,hp,h1,h2⟩:=S.ex;have a0:Room 1 _:=hr.mono (by decide)
  refine⟨_,a_c (a_w (i:=1) h_w.nd rfl (Or.inl rfl) (b_A (pv 0) TS.cl mE.m GE a0 mE.b .nil (c_s (E':=E) λ_ _ _ h=>h)))
   (a_f (PS.nox (d_x PassesOwn.never (a_m h_o (a_t (a_B K) (by rfl) T.len s_G (a_a (a_E (pv 0) rfl) a_d)) (pv 1) (a_q _))
     (a_c (a_w (i:=2) h_w.nd rfl (Or.inl rfl) (e_v s_H PySem.F.slot_list_pop PySem.F.type_list_pop f_3 (a_E (pv 0) rfl)))
     (a_f (a_y (a_Q (pv 0) TS.cl mX.m GX hr mX.b .nil a_u (a_a (a_r (a_j K) (pv 2) a_g (λ_ _=>rfl)) (a_a (a_r (a_j K) (pv 2) a_g (λ_ _=>rfl)) a_d))))))))),?_⟩
  refine⟨_,rfl,A.o,A.dx,_,rfl,C.ob,d_E (by decide+kernel) (by decide+kernel) (by decide+kernel) (by decide+kernel) (by decide+kernel) (by decide+kernel),A,room,l,st,ms,rfl,C,λm r em H1 C1 F1 tk1=> ?_, λe=>k1 ((d_p J).mp e)⟩;subst em
  obtain⟨k,ks,ek⟩:∃k ks,so.marks=k::ks:=by
   cases q:so.marks with
   | nil=>rw[q] at J;exact absurd ((d_p J).mpr rfl) (by simp)
   | cons k ks=>exact⟨k,ks,rfl⟩
  have k3:=k2 k ks ek;rw[ek] at J
  refine⟨λd σ y=>∃(a:Ads) (L:List Row) (g:List a_0) (v:Option V),σ= [some (.ref A.o),some (.int (m:Nat)),v]/\d=g.length/\f_U CS CO y a room L g r/\a.o=A.o/\Stp H y A.fp a.fp/\a_N H y/\Hs N L g (m::r) (k::ks)/\g.length<=N,
   ⟨_,A,l,st,none,rfl,rfl,C1,rfl,F1,tk1,J,h1⟩,?_⟩
  rintro d σ y ⟨a,L,g,v,rfl,rfl,x,I,F2,W,G,h3⟩;have O:=x.ob;rw[I] at O;have X:a.sas.length=g.length:=by rw[Paired.length x.sts,s_z]
  refine⟨_,rfl,A.o,CS,a.dx,_,_,rfl,O,TS.cl,TS.nSteps,d_4,a.sl,_,rfl,.inl (SqL.of x.sls),_,rfl,_,_,rfl,rfl,_,rfl,?_⟩;rw[r_X,X];refine a_x (λc=> ?_) (λc=> ?_)
  ·have c':m < g.length:=by have:=s_F c;omega
   cases g with
   | nil=>simp at c'
   | cons p st3=>
     simp only[r_3] at c';obtain⟨ok,hs3⟩:=G.back (by omega);have R:=x.sts;rw[List.reverse_cons] at R;obtain⟨l₁,t,l₂,es,hp1,⟨u,v',ht,hu,hv⟩,hp2⟩:=b_d R;cases hp2;refine⟨λσ' H'=>∃(M:Ads) (Y:Option V),σ'= [some (.ref A.o),some (.int (m:Nat)),Y]/\f_U CS CO H' M room (e_x L (p.2,p.1)) st3 r/\M.o=A.o/\Stp H H' A.fp M.fp/\a_N H H',?_, ?_⟩
     ·rintro σ' H' ⟨M,Y,rfl,U,e3,Z,n⟩
      exact⟨st3.length,by simp,M,_,st3,Y,rfl,rfl,U,e3,Z,n,hs3,by simp only[r_3] at h3;omega⟩
     ·have els:a.sas.map V.ref=l₁.map V.ref++ [V.ref t]:=by rw[es,r_5];rfl
      refine⟨_,rfl,A.o,CS,a.dx,_,_,rfl,O,TS.cl,TS.nSteps,d_4,.inl ⟨rfl,_,SqL.of x.sls⟩,a.sl,_,V.ref t,rfl,rfl,x.sls,?_, ?_⟩
      ·rw[els];simp
      obtain⟨U,Z⟩:=x.setSl (sas':=l₁) (st':=st3) (H':=upd y a.sl (.lst (a.sas.map V.ref).dropLast)) (by rw[els];simp) hp1
      have n:a_N y (upd y a.sl (.lst (a.sas.map V.ref).dropLast)):=λb xs e=>by
       rw[a_i (λq=>by rw[q,x.sls] at e;cases e)];exact e
      have B:=U.ob;dsimp only at B;rw[I] at B;have hle:=G.le;refine⟨_,rfl,A.o,a.dx,_,rfl,B,d_E (by decide+kernel) (by decide+kernel) (by decide+kernel) (by decide+kernel) (by decide+kernel) (by decide+kernel),_,rfl,t,_,_,_,rfl,rfl,SqT.of (n _ _ ht),a_e (j:=1) rfl,_,rfl,t,_,_,_,rfl,rfl,SqT.of (n _ _ ht),a_e (j:=0) rfl,{ a with sas:=l₁ },v',u,(p.2,p.1),room,L,st3,r,by rw[<-I];rfl,U,hv.tk n,hu.tk n,ok,G.nums,by omega,λA4 H4 C4 e4 F4 tk4=> ?_⟩;exact⟨A4,_,rfl,C4,e4.trans I,(F2.trans Z).trans F4,λb xs e=>tk4 _ _ (n _ _ (W _ _ e))⟩
  ·have c':g.length≤m:=by
    have:¬ ((g.length:Int) > (m:Int)):=λz=>c (s_D z);omega
   obtain⟨q1,q2⟩:=G.at c';exact k3 a y ⟨_,_,_,x,q2,q1.symm,h3,by simp only[r_3] at h2;omega⟩ I F2 W
end
theorem m_a {P:Program} {w:World} {X:Cx}:c_A (CXR P w) X E0:=by
 rintro pins σ H s e s' I ⟨a,C,H',_,_,_,_,q⟩;exact q.elim
section
variable {P:Program} {w:World} {K:PySem.W.Frag} {mg:Str->Option Value} {base:Heap}
def g_9 (CS CO:Addr):Sp:=λvs H Q _=>∃(p dx:Addr) (room:Int),vs= [.ref p,.int room]/\H p=some (.ins CS dx [])/\
 ∀(A':Ads) (H':Hp),SAt CS CO H' A' 0 room ⟨[], []⟩->A'.o=p->(∀b∈A'.fp,b=p\/H b=none)->(∀b u,H b=some u->b≠p->H' b=some u)->Q .non H'
theorem n_j:a_s ["self","room"] ["self","room"] (a_n n_O):=⟨rfl,rfl,rfl,by decide+kernel,rfl,by decide+kernel,by decide+kernel⟩
theorem l_f {f fI CS CO:Addr} {fd fdI:FuncData} (F:Fun K "__init__" "Store.__init__" n_O f fd) (T:Txt K mg CO) (TS:e_W K mg CS CO) (M:Mk K CO fI) (bI:Binds K fdI ["self","word"] []) (GI:FnOk P w K mg base CX0 2 fI fdI ["self","word"] (m_t CO)):
 FnOk P w K mg base CX0 4 f fd ["self","room"] (g_9 CS CO):=by
 refine F.ok n_j (λvs H Q E h=> ?_) (λcdv A outer s H vs Q E hr h=> ?_)
 ·obtain⟨p,dx,room,rfl,_⟩:=h
  rfl
 ·obtain⟨p,dx,room,rfl,hp,fin⟩:=h
  obtain⟨t1,h1⟩:=T.rank;obtain⟨t2,h2⟩:=T.text
  refine⟨_,a_c (d_u (pv 0) (pv 1) rfl) (a_c (d_u (pv 0) h_U rfl) (a_c (d_u (pv 0) (f_T M GI hr rfl T.mgC bI .nil a_u (a_a (d_T h1) a_d)) rfl)
   (a_c (d_u (pv 0) (f_T M GI hr rfl T.mgC bI .nil a_u (a_a (d_T h2) a_d)) rfl) (a_c (d_u (pv 0) (a_P a_d) rfl) (a_f (d_u (pv 0) (a_P a_d) rfl)))))),?_⟩
  refine⟨_,rfl,_,rfl,p,CS,dx,_,rfl,hp,TS.cl,TS.nRoom,by show 0 < 1000;decide,?_⟩;have g1:∀b u,H b=some u->b≠p->(upd H p (.ins CS dx [("room",V.int room)])) b=some u:=b_y;show _;generalize R:upd H p (.ins CS dx (d_z "room" (.int room) []))=H1;have p1:H1 p=some (.ins CS dx [("room",.int room)]):=by rw[<-R];exact a_b
  have k1:∀b u,H b=some u->b≠p->H1 b=some u:=by rw[<-R];exact b_y
  have f1:∀b,H1 b=none->b≠p/\H b=none:=λb a=>by
   have:b≠p:=λe=>by rw[e,p1] at a;cases a
   exact⟨this,by rw[<-R,a_i this] at a;exact a⟩
  clear R;refine λnb N=>⟨_,rfl,p,CS,dx,_,rfl,by rw[a_i (a_h p1 N)];exact p1,TS.cl,TS.nNum,by show 1 < 1000;decide,?_⟩;have ef:d_z ("by_number":Str) (V.ref nb) [(("room":Str),V.int room)]= [(("room":Str),V.int room),("by_number",.ref nb)]:=by rw[a_7 (by decide+kernel)];rfl
  rw[ef];generalize x:upd (upd H1 nb (.dK [])) p (.ins CS dx [("room",.int room),("by_number",.ref nb)])=H2;have np:nb≠p:=(f1 nb N).1;have p2:H2 p=some (.ins CS dx [("room",.int room),("by_number",.ref nb)]):=by rw[<-x];exact a_b
  have d2:H2 nb=some (.dK []):=by rw[<-x,a_i np];exact a_b
  have k2:∀b u,H b=some u->b≠p->H2 b=some u:=λb u a k=>by rw[<-x,a_i k,a_i (a_h (k1 b u a k) N)];exact k1 b u a k
  have f2:∀b,H2 b=none->b≠p/\H b=none:=λb a=>by
   have l:b≠p:=λe=>by rw[e,p2] at a;cases a
   have q2:b≠nb:=λe=>by rw[e,d2] at a;cases a
   exact⟨l,by rw[<-x,a_i l,a_i q2] at a;exact (f1 b a).2⟩
  clear x;refine λc dx1 U nd1 ne1=>⟨false,c,dx1,rfl,a_b,λg H3 X O1 q3=>⟨rfl,?_⟩⟩;have L:∀b u,H2 b=some u->H3 b=some u:=λb u a=>q3 b u (by rw[a_i (a_h a U),a_i (a_h a nd1)];exact a) (a_h a U)
  have fb1:H2 g=none:=by
   cases e:H2 g with
   | none=>rfl
   | some u=>rw[a_i (a_h e U),a_i (a_h e nd1),e] at X;cases X
  refine⟨_,rfl,p,CS,dx,_,rfl,L _ _ p2,TS.cl,TS.nRank,by show 2 < 1000;decide,?_⟩;have ef3:d_z ("by_rank":Str) (V.ref c) [(("room":Str),V.int room),("by_number",.ref nb)]= [(("room":Str),V.int room),("by_number",.ref nb),("by_rank",.ref c)]:=by rw[a_7 (by decide+kernel),a_7 (by decide+kernel)];rfl
  rw[ef3]
  have tkp:∀{Hx:Hp} {fl fl':List (Str×V)},Hx p=some (.ins CS dx fl)->∀{w:Bool} {o bl:Addr} {bas:List Addr} {B:List (List Row)},OrdAt CO w Hx o bl bas B->OrdAt CO w (upd Hx p (.ins CS dx fl')) o bl bas B:=by
   intro Hx fl fl' hx w o bl bas B O;obtain⟨⟨d,J⟩,z2,z3,z4⟩:=O;refine⟨⟨d,?_⟩,?_, ?_, z4⟩
   ·rw[a_i λe=> ?_]
    ·exact J
    ·rw[e,hx] at J
     injection J with J
     injection J with J
     exact TS.cc J
   ·rw[a_i λe=>by rw[e,hx] at z2;cases z2];exact z2
   ·exact a_R (fun xs e=>by rw[hx] at e;cases e) z3 fun b a e=>by
     obtain⟨xs,q⟩:=e_p z3 b a;rw[e,hx] at q;cases q
  generalize S:upd H3 p (.ins CS dx [("room",.int room),("by_number",.ref nb),("by_rank",.ref c)])=H4;have O1':OrdAt CO false H4 c g [] []:=by rw[<-S];exact tkp (L _ _ p2) O1
  have p4:H4 p=some (.ins CS dx [("room",.int room),("by_number",.ref nb),("by_rank",.ref c)]):=by rw[<-S];exact a_b
  have up4:∀b u,H3 b=some u->b≠p->H4 b=some u:=by rw[<-S];exact b_y
  have d4:H4 nb=some (.dK []):=up4 _ _ (L _ _ d2) np;have k4:∀b u,H b=some u->b≠p->H4 b=some u:=λb u a k=>up4 _ _ (L _ _ (k2 b u a k)) k
  have f4:∀b,H4 b=none->b≠p/\H b=none:=λb a=>by
   have l:b≠p:=λe=>by rw[e,p4] at a;cases a
   refine⟨l,?_⟩;cases e:H b with
   | none=>rfl
   | some u=>rw[k4 b u e l] at a;cases a
  clear S;refine λi dx2 no2 nd2 ne2=>⟨true,i,dx2,rfl,a_b,λj H5 Y O2 q5=>⟨rfl,?_⟩⟩;have n:∀b u,H4 b=some u->H5 b=some u:=λb u a=>q5 b u (by rw[a_i (a_h a no2),a_i (a_h a nd2)];exact a) (a_h a no2)
  have fb2:H4 j=none:=by
   cases e:H4 j with
   | none=>rfl
   | some u=>rw[a_i (a_h e no2),a_i (a_h e nd2),e] at Y;cases Y
  refine⟨_,rfl,p,CS,dx,_,rfl,n _ _ p4,TS.cl,TS.nText,by show 3 < 1000;decide,?_⟩;have ef5:d_z ("by_text":Str) (V.ref i) [(("room":Str),V.int room),("by_number",.ref nb),("by_rank",.ref c)]= [(("room":Str),V.int room),("by_number",.ref nb),("by_rank",.ref c),("by_text",.ref i)]:=by rw[a_7 (by decide+kernel),a_7 (by decide+kernel),a_7 (by decide+kernel)];rfl
  rw[ef5];generalize y:upd H5 p (.ins CS dx [("room",.int room),("by_number",.ref nb),("by_rank",.ref c),("by_text",.ref i)])=H6;have O2':OrdAt CO true H6 i j [] []:=by rw[<-y];exact tkp (n _ _ p4) O2
  have W:OrdAt CO false H6 c g [] []:=by rw[<-y];exact tkp (n _ _ p4) (O1'.same n)
  have Z:H6 p=some (.ins CS dx [("room",.int room),("by_number",.ref nb),("by_rank",.ref c),("by_text",.ref i)]):=by rw[<-y];exact a_b
  have up6:∀b u,H5 b=some u->b≠p->H6 b=some u:=by rw[<-y];exact b_y
  have d6:H6 nb=some (.dK []):=up6 _ _ (n _ _ d4) np;have k6:∀b u,H b=some u->b≠p->H6 b=some u:=λb u a k=>up6 _ _ (n _ _ (k4 b u a k)) k;clear y;refine⟨by show 0<=sizeLine;decide,λsl r=> ?_⟩;have I:Same H6 (upd H6 sl (.lst [])):=Same.upd_new r;refine⟨_,rfl,p,CS,dx,_,rfl,I _ _ Z,TS.cl,TS.nSteps,by show 4 < 1000;decide,?_⟩;have ef7:d_z ("steps":Str) (V.ref sl) [(("room":Str),V.int room),("by_number",.ref nb),("by_rank",.ref c),("by_text",.ref i)]= [(("room":Str),V.int room),("by_number",.ref nb),("by_rank",.ref c),("by_text",.ref i),("steps",.ref sl)]:=by rw[a_7 (by decide+kernel),a_7 (by decide+kernel),a_7 (by decide+kernel),a_7 (by decide+kernel)];rfl
  rw[ef7];generalize z:upd (upd H6 sl (.lst [])) p (.ins CS dx [("room",.int room),("by_number",.ref nb),("by_rank",.ref c),("by_text",.ref i),("steps",.ref sl)])=H8;have nsp:sl≠p:=λe=>by rw[e,Z] at r;cases r
  have p8:H8 p=some (.ins CS dx [("room",.int room),("by_number",.ref nb),("by_rank",.ref c),("by_text",.ref i),("steps",.ref sl)]):=by rw[<-z];exact a_b
  have up8:∀b u,(upd H6 sl (.lst [])) b=some u->b≠p->H8 b=some u:=by rw[<-z];exact b_y
  have l8:H8 sl=some (.lst []):=up8 _ _ a_b nsp;have A1:OrdAt CO false H8 c g [] []:=by rw[<-z];exact tkp (I _ _ Z) (W.same I)
  have A2:OrdAt CO true H8 i j [] []:=by rw[<-z];exact tkp (I _ _ Z) (O2'.same I)
  have d8:H8 nb=some (.dK []):=up8 _ _ (I _ _ d6) np;have k8:∀b u,H b=some u->b≠p->H8 b=some u:=λb u a k=>up8 _ _ (I _ _ (k6 b u a k)) k;clear z;refine⟨by show 0<=sizeLine;decide,λml m=> ?_⟩;have G:Same H8 (upd H8 ml (.lst [])):=Same.upd_new m;refine⟨_,rfl,p,CS,dx,_,rfl,G _ _ p8,TS.cl,TS.nMarks,by show 5 < 1000;decide,?_⟩;have ef9:d_z ("marks":Str) (V.ref ml) [(("room":Str),V.int room),("by_number",.ref nb),("by_rank",.ref c),("by_text",.ref i),("steps",.ref sl)]=c_e room nb c i sl ml:=by rw[a_7 (by decide+kernel),a_7 (by decide+kernel),a_7 (by decide+kernel),a_7 (by decide+kernel),a_7 (by decide+kernel)];rfl
  rw[ef9];generalize t:upd (upd H8 ml (.lst [])) p (.ins CS dx (c_e room nb c i sl ml))=H10;have nmp:ml≠p:=λe=>by rw[e,p8] at m;cases m
  have v:∀b u,(upd H8 ml (.lst [])) b=some u->b≠p->H10 b=some u:=by rw[<-t];exact b_y
  have Z1:OrdAt CO false H10 c g [] []:=by rw[<-t];exact tkp (G _ _ p8) (A1.same G)
  have Z2:OrdAt CO true H10 i j [] []:=by rw[<-t];exact tkp (G _ _ p8) (A2.same G)
  have n1:sl≠ml:=a_h l8 m;have n2:g≠ml:=a_h A1.ls m;have n3:j≠ml:=a_h A2.ls m;have n4:g≠sl:=a_h W.ls r;have n5:j≠sl:=a_h O2'.ls r;have n6:g≠j:=a_h O1'.ls fb2
  have fr8:∀b,H8 b=none->b≠p/\H b=none:=λb a=>by
   have l:b≠p:=λe=>by rw[e,p8] at a;cases a
   refine⟨l,?_⟩;cases e:H b with
   | none=>rfl
   | some u=>rw[k8 b u e l] at a;cases a
  have fr6:∀b,H6 b=none->b≠p/\H b=none:=λb a=>by
   have l:b≠p:=λe=>by rw[e,Z] at a;cases a
   refine⟨l,?_⟩;cases e:H b with
   | none=>rfl
   | some u=>rw[k6 b u e l] at a;cases a
  have C:f_U CS CO H10 ⟨p,dx,nb,c,i,sl,ml,g,j, [], [], []⟩ room [] [] []:=
   ⟨by rw[←t];exact a_b,⟨[],v _ _ (G _ _ d8) np,.nil⟩,⟨[],Z1,⟨by simp[Adj],by simp⟩,by simp⟩,⟨[],Z2,⟨by simp[Adj],by simp⟩,by simp⟩,v _ _ (G _ _ l8) nsp,.nil,v _ _ a_b nmp,
     (f_R _).mpr ⟨n1,λb a=>by simp at a;rw[a];exact⟨n4,n2⟩,λb a=>by simp at a;rw[a];exact⟨n5,n3⟩,by simp,by simp,λb a hc=>by simp at a hc;exact n6 (a ▸ hc)⟩⟩
  refine fin _ H10 ⟨[], [], [],C,.nil (r_6 _) (List.nodup_nil),.refl _,r_6 _,r_6 _⟩ rfl (λb a=> ?_) λb u a k=>v _ _ (G _ _ (k8 b u a k)) k;simp only[Ads.fp,Ads.ls,r_8,s_f,List.not_mem_nil,or_false] at a;rcases a with e | e | e | e | e | e
  ·exact .inl e
  ·exact .inr (by rw[e];exact (f1 nb N).2)
  ·exact .inr (by rw[e];exact (fr6 sl r).2)
  ·exact .inr (by rw[e];exact (fr8 ml m).2)
  ·exact .inr (by rw[e];exact (f2 g fb1).2)
  ·exact .inr (by rw[e];exact (f4 j fb2).2)
end
end K1
namespace TO
open PySem L2
def c_p (k e:Int) (off:Nat) (l:List Row):List Row:=(l.zipIdx off).filterMap λp=>if k<=(p.2:Int)/\(p.2:Int) < e then some p.1 else none
theorem c_h (k e:Int):∀(l:List Row) (off:Nat),c_p k e off l=(l.take (e - off).toNat).drop (k - off).toNat
 | [],off=>by simp[c_p]
 | x::r,off=>by
   have ih:=c_h k e r (off+1)
   have step:c_p k e off (x::r)=(if k<=(off:Int)/\(off:Int) < e then [x] else [])++c_p k e (off+1) r:=by
    unfold c_p;rw[List.zipIdx_cons,List.filterMap_cons];by_cases c:k<=(off:Int)/\(off:Int) < e
    ·rw[if_pos c,if_pos c];rfl
    ·rw[if_neg c,if_neg c];rfl
   rw[step,ih];by_cases j:e<=(off:Int)
   ·have f:(e - (off:Int)).toNat=0:=by omega
    have a:(e - ((off+1:Nat):Int)).toNat=0:=by omega
    rw[if_neg (by omega),f,a];simp
   ·obtain⟨h,eh⟩:∃h,(e - (off:Int)).toNat=h+1:=⟨(e - (off:Int)).toNat - 1,by omega⟩
    have a:(e - ((off+1:Nat):Int)).toNat=h:=by omega
    rw[eh,a,List.take_succ_cons];by_cases i:k<=(off:Int)
    ·have d:(k - (off:Int)).toNat=0:=by omega
     have b:(k - ((off+1:Nat):Int)).toNat=0:=by omega
     rw[if_pos ⟨i,by omega⟩,d,b];rfl
    ·obtain⟨g,eg⟩:∃g,(k - (off:Int)).toNat=g+1:=⟨(k - (off:Int)).toNat - 1,by omega⟩
     have b:(k - ((off+1:Nat):Int)).toNat=g:=by omega
     rw[if_neg (by omega),eg,b,List.drop_succ_cons];rfl
theorem e_F (k e:Int) (l₁ l₂:List Row) (off:Nat):c_p k e off (l₁++l₂)=c_p k e off l₁++c_p k e (off+l₁.length) l₂:=by
 unfold c_p;rw[List.zipIdx_append,List.filterMap_append]
theorem i_Q {k e:Int} {off:Nat} (h:e<=(off:Int)) (l:List Row):c_p k e off l= []:=by
 rw[c_h];have:(e - (off:Int)).toNat=0:=by omega
 rw[this];simp
theorem d_9 (k m:Int) (l:List Row):(l.zipIdx.filterMap λp=>if k<=(p.2:Int)/\(p.2:Int)<=k+m - 1 then some p.1 else none)=c_p k (k+m) 0 l:=by
 unfold c_p;congr 1;funext p;by_cases c:k<=(p.2:Int)/\(p.2:Int) < k+m
 ·rw[if_pos c,if_pos ⟨c.1,by omega⟩]
 ·rw[if_neg c,if_neg λz=>c ⟨z.1,by omega⟩]
theorem k_1 {α:Type} {xs:List α} {lo hi:Nat}:(xs.drop (min lo xs.length)).take (min hi xs.length - min lo xs.length)=(xs.take hi).drop lo:=by
 rw[List.drop_take];by_cases e:lo<=xs.length
 ·rw[Nat.min_eq_left e]
  by_cases d:hi<=xs.length
  ·rw[Nat.min_eq_left d]
  ·have a:min hi xs.length=xs.length:=by omega
   rw[a,s_h (by simp),s_h (by simp;omega)]
 ·have a:min lo xs.length=xs.length:=by omega
  have b:xs.drop lo= []:=List.drop_of_length_le (by omega);have c:xs.drop xs.length= []:=List.drop_of_length_le (r_6 _);rw[a,b,c];simp
end TO
namespace K1
open PySem L2 TO
theorem StrC.ordW {CS CO:Addr} {H:Hp} {A:Ads} {room:Int} {l:List Row} {st:List a_0} {ms:List Nat} (h:f_U CS CO H A room l st ms) (hl:c_b l) (w:Bool):
 ∃bl bas B,OrdAt CO w H (if w=true then A.o2 else A.o1) bl bas B/\GoodB w B/\B.flatten=a_W w l:=by
 cases w with
 | false=>obtain⟨B,O,G,p⟩:=h.O1;exact⟨_,_,B,O,G,d_V hl G.srt p⟩
 | true=>obtain⟨B,O,G,p⟩:=h.O2;exact⟨_,_,B,O,G,d_V hl G.srt p⟩
theorem a_6 (w:Bool) (l:List Row):(a_W w l).length=l.length:=(a_5 w l).length_eq
section
variable {P:Program} {w:World} {K:PySem.W.Frag} {mg:Str->Option Value} {base:Heap}
abbrev NoW (CNo:Addr) (x:Str) (E:XK) (H:Hp):Prop:=c_j x=none->(PySem.reprText x).length<=1000/\∀H',Same H H'->E (.ref CNo) none H'
def p_i (CNo:Addr):Sp:=λvs H Q E=>∃x:Str,vs= [.str x]/\(∀w,c_j x=some w->Q .non H)/\NoW CNo x E H
theorem p_P {f C CNo:Addr} {fd:FuncData} (F:Fun K "check_word" "check_word" sCW f fd) (T:Txt K mg C) (eO:Exc K mg "NoOrder" CNo):FnOk P w K mg base (CXR P w) 1 f fd ["word"] (p_i CNo):=by
 refine F.okX q_4 (λvs H Q E h=> ?_) (λcdv A outer s H vs Q E o h=> ?_)
 ·obtain⟨x,rfl,_⟩:=h
  rfl
 ·obtain⟨x,rfl,c,i⟩:=h
  obtain⟨n,d⟩:=T.rank;obtain⟨m,k⟩:=T.text;refine⟨_,a_f (a_C (PW.pt (e_O (a_m d_m (pv 0) (d_T d) (a_q _)) (c_X (a_m d_m (pv 0) (d_T k) (a_q _))))) (a_f (d_w eO e_q (a_a (o_3 a_l (pv 0) (by decide+kernel)) a_d))) a_p),?_⟩;refine⟨_,rfl,rfl,_,rfl,?_⟩;by_cases a:x="rank"
  ·subst a
   exact p_t rfl (c false (if_pos rfl))
  ·have j:(!decide (V.str x=V.str "rank"))=true:=by
    rw[s_E λq=>a (by injection q)];rfl
   refine a_x (λ_=> ?_) (λq=>absurd j q);refine⟨_,rfl,rfl,_,rfl,?_⟩;by_cases b:x="text"
   ·subst b
    exact p_t rfl (c true (by unfold c_j;rw[if_neg a,if_pos rfl]))
   ·have e:(!decide (V.str x=V.str "text"))=true:=by
     rw[s_E λq=>b (by injection q)];rfl
    refine a_x (λ_=> ?_) (λq=>absurd e q);obtain⟨g,l⟩:=i (by unfold c_j;rw[if_neg a,if_neg b]);exact⟨_,rfl,x,rfl,g,λy=>⟨by show 1<=sizeLine;decide,l H (Same.refl H)⟩⟩
def d_n (CS CO CNo:Addr):Sp:=λvs H Q E=>∃(A:Ads) (x:Str) (room:Int) (l:List Row) (st:List a_0) (ms:List Nat),vs= [.ref A.o,.str x]/\f_U CS CO H A room l st ms/\
 (∀w,c_j x=some w->Q (.ref (if w=true then A.o2 else A.o1)) H)/\NoW CNo x E H
theorem k_s:a_s ["store","word"] ["store","word"] (a_n f_l):=⟨rfl,rfl,rfl,by decide+kernel,rfl,by decide+kernel,by decide+kernel⟩
theorem i_I {f fCW CS CO CNo:Addr} {fd fdCW:FuncData} (F:Fun K "order_of" "order_of" f_l f fd) (T:Txt K mg CO) (TS:e_W K mg CS CO) (gCW:Gf K mg "check_word" fCW fdCW ["word"]) (GCW:FnOk P w K mg base (CXR P w) 1 fCW fdCW ["word"] (p_i CNo)):
 FnOk P w K mg base (CXR P w) 2 f fd ["store","word"] (d_n CS CO CNo):=by
 refine F.okX k_s (λvs H Q E h=> ?_) (λcdv A outer s H vs Q E j h=> ?_)
 ·obtain⟨A,x,room,l,st,ms,rfl,_⟩:=h
  rfl
 ·obtain⟨A,x,room,l,st,ms,rfl,S,c,g⟩:=h
  obtain⟨k,d⟩:=T.rank
  refine⟨_,a_c (a_y (a_k GCW j rfl gCW.mg gCW.kp gCW.b .nil (c_s (E':=E) λ_ _ _ h=>h) (a_a (pv 1) a_d)))
   (a_c (a_C (a_m a_J (pv 1) (d_T d) (a_q _)) (a_f (a_o (a_E (pv 0) rfl))) a_p) (a_f (a_o (a_E (pv 0) rfl)))),?_⟩
  refine⟨_,rfl,x,rfl,λw a=> ?_, g⟩
  have i:x=e_A w:=by
   unfold c_j at a;split at a
   ·rename_i e;cases a;exact e
   ·split at a
    ·rename_i e;cases a;exact e
    ·cases a
  subst i;refine⟨_,rfl,rfl,_,rfl,?_⟩;cases w with
  | false=>exact⟨_,rfl,A.o,CS,A.dx,_,_,rfl,S.ob,TS.cl,TS.nRank,f_Q,c false a⟩
  | true=>exact⟨_,rfl,A.o,CS,A.dx,_,_,rfl,S.ob,TS.cl,TS.nText,e_e,c true a⟩
def h_Z (CS CO CNo:Addr):Sp:=λvs H Q E=>∃(A:Ads) (x:Str) (lo hi:V) (room:Int) (l:List Row) (st:List a_0) (ms:List Nat),vs= [.ref A.o,.str x,lo,hi]/\f_U CS CO H A room l st ms/\c_b l/\l.length < 9000/\
 (∀w,c_j x=some w->(∀ρ,b_j (c_t w ρ) lo=true)/\(∀ρ,b_j (c_t w ρ) hi=true)/\∀(t:Addr) (H':Hp),H t=none->Same H H'->LstAt H' t ((a_W w l).filter (i_j w lo hi))->Q (.ref t) H')/\NoW CNo x E H
theorem k_W:a_s ["store","word","low","high"] ["store","word","low","high"] (a_n h_r):=⟨rfl,rfl,rfl,by decide+kernel,rfl,by decide+kernel,by decide+kernel⟩
theorem j_A {f fO fB CS CO CNo:Addr} {fd fdO fdB:FuncData} (F:Fun K "rows_within" "rows_within" h_r f fd) (T:Txt K mg CO) (gO:Gf K mg "order_of" fO fdO ["store","word"]) (GO:FnOk P w K mg base (CXR P w) 2 fO fdO ["store","word"] (d_n CS CO CNo))
 (mB:Mf K CO "between" fB fdB ["self","low","high"]) (GB:FnOk P w K mg base CX0 4 fB fdB ["self","low","high"] (k_c CO)):FnOk P w K mg base (CXR P w) 5 f fd ["store","word","low","high"] (h_Z CS CO CNo):=by
 refine F.okX k_W (λvs H Q E h=> ?_) (λcdv A outer s H vs Q E g h=> ?_)
 ·obtain⟨A,x,lo,d,room,l,st,ms,rfl,_⟩:=h
  rfl
 ·obtain⟨A,x,lo,d,room,l,st,ms,rfl,S,q,v,p,n⟩:=h
  have a:Room 2 _:=g.mono (by decide);refine⟨_,a_f (a_o (a_Q (a_k GO a rfl gO.mg gO.kp gO.b .nil (c_s (E':=E) λ_ _ _ h=>h) (a_a (pv 0) (a_a (pv 1) a_d))) T.cl mB.m GB g mB.b .nil a_u (a_a (pv 2) (a_a (pv 3) a_d)))),?_⟩;refine⟨_,rfl,_,rfl,A,x,room,l,st,ms,rfl,S,λw o=> ?_, n⟩;obtain⟨j,u,k⟩:=p w o;obtain⟨bl,bas,B,O,G,e⟩:=StrC.ordW S q w;obtain⟨dx,r⟩:=O.ob;refine⟨_,dx,_,rfl,r,a_Z _ _ (by decide+kernel) (by decide+kernel),_,rfl,_,rfl,w,_,bl,bas,B,lo,d,rfl,O,j,u,G,by rw[e,a_6];omega,λt H' i s' c=> ?_⟩;rw[e] at c;exact k t H' i s' c
def m_r (CS CO CNo CM:Addr):Sp:=λvs H Q E=>∃(A:Ads) (x:Str) (n:Int) (room:Int) (l:List Row) (st:List a_0) (ms:List Nat),vs= [.ref A.o,.str x,.int n]/\f_U CS CO H A room l st ms/\c_b l/\l.length < 9000/\k_T n/\
 (∀w,c_j x=some w->(b_u l n=false->E (.ref CM) none H)/\∀ρ,c_3 l n=some ρ->∀H',Same H H'->Q (.int ((l.filter λy=>ltR w y ρ).length:Nat)) H')/\NoW CNo x E H
theorem m_D:a_s ["store","word","number","order"] ["store","word","number"] (a_n n_b):=⟨rfl,rfl,rfl,by decide+kernel,rfl,by decide+kernel,by decide+kernel⟩
theorem o_l {f fO fA fR CS CO CNo CM:Addr} {fd fdO fdA fdR:FuncData} (F:Fun K "spot_of" "spot_of" n_b f fd) (T:Txt K mg CO) (TS:e_W K mg CS CO) (gO:Gf K mg "order_of" fO fdO ["store","word"]) (GO:FnOk P w K mg base (CXR P w) 2 fO fdO ["store","word"] (d_n CS CO CNo))
 (mA:Mf K CO "ahead_of" fA fdA ["self","row"]) (GA:FnOk P w K mg base CX0 4 fA fdA ["self","row"] (j_F CO)) (mR:Mf K CS "row_of" fR fdR ["self","number"]) (GR:FnOk P w K mg base (CXR P w) 1 fR fdR ["self","number"] (e_G CS CO CM)):
 FnOk P w K mg base (CXR P w) 5 f fd ["store","word","number"] (m_r CS CO CNo CM):=by
 refine F.okX m_D (λvs H Q E h=> ?_) (λcdv A outer s H vs Q E a h=> ?_)
 ·obtain⟨A,x,n,room,l,st,ms,rfl,_⟩:=h
  rfl
 ·obtain⟨A,x,n,room,l,st,ms,rfl,S,u,I,j,t,p⟩:=h
  have g:Room 2 _:=a.mono (by decide);have d:Room 1 _:=a.mono (by decide)
  refine⟨_,a_c (a_w (i:=3) m_D.nd rfl (Or.inl rfl) (a_k GO g rfl gO.mg gO.kp gO.b .nil (c_s (E':=E) λ_ _ _ h=>h) (a_a (pv 0) (a_a (pv 1) a_d))))
   (a_f (a_o (a_Q (pv 3) T.cl mA.m GA a mA.b .nil a_u (a_a (a_Q (pv 0) TS.cl mR.m GR d mR.b .nil (c_s (E':=E) λ_ _ _ h=>h) (a_a (pv 2) a_d)) a_d)))),?_⟩
  refine⟨_,rfl,_,rfl,A,x,room,l,st,ms,rfl,S,λw q=> ?_, p⟩;obtain⟨k,C⟩:=t w q;obtain⟨bl,bas,B,O,G,e⟩:=StrC.ordW S u w;obtain⟨dx,z⟩:=O.ob;refine⟨_,rfl,_,dx,_,rfl,z,a_Z _ _ (by decide+kernel) (by decide+kernel),_,rfl,A.o,A.dx,_,rfl,S.ob,d_E (by decide+kernel) (by decide+kernel) (by decide+kernel) (by decide+kernel) (by decide+kernel) (by decide+kernel),_,rfl,A,n,room,l,st,ms,rfl,S,j,λc r ρ v hρ=> ?_, k⟩;refine⟨w,_,bl,r,bas,B,ρ,rfl,O,hρ,G,by rw[e,a_6];omega,λH' s'=> ?_⟩
  have el:(B.flatten.filter λy=>ltR w y ρ).length=(l.filter λy=>ltR w y ρ).length:=by
   rw[e];exact ((a_5 w l).filter _).length_eq
  rw[el];exact C ρ v H' s'
def m_z (CS CO CNo:Addr):Sp:=λvs H Q E=>∃(A:Ads) (x:Str) (k m:Int) (room:Int) (l:List Row) (st:List a_0) (ms:List Nat),vs= [.ref A.o,.str x,.int k,.int m]/\f_U CS CO H A room l st ms/\c_b l/\l.length < 9000/\
 (∀w,c_j x=some w->∀(t:Addr) (H':Hp),H t=none->Same H H'->LstAt H' t (c_p k (k+m) 0 (a_W w l))->Q (.ref t) H')/\NoW CNo x E H
theorem f_k:a_s ["store","word","spot","many","found","end","ahead","block"] ["store","word","spot","many"] (a_n m_0):=⟨rfl,rfl,rfl,by decide+kernel,rfl,by decide+kernel,by decide+kernel⟩
theorem o_n {f fO CS CO CNo:Addr} {fd fdO:FuncData} (F:Fun K "rows_from" "rows_from" m_0 f fd) (T:Txt K mg CO) (hmax:mg "max"=none) (gO:Gf K mg "order_of" fO fdO ["store","word"]) (GO:FnOk P w K mg base (CXR P w) 2 fO fdO ["store","word"] (d_n CS CO CNo)):
 FnOk P w K mg base (CXR P w) 3 f fd ["store","word","spot","many"] (m_z CS CO CNo):=by
 refine F.okX f_k (λvs H Q E h=> ?_) (λcdv A outer s H vs Q E hr h=> ?_)
 ·obtain⟨A,x,k,m,room,l,st,ms,rfl,_⟩:=h
  rfl
 ·obtain⟨A,x,k,m,room,l,st,ms,rfl,S,hn,hl,k1,k2⟩:=h
  refine⟨_,a_c (a_w (i:=4) f_k.nd rfl (Or.inl rfl) (a_P a_d))
   (a_c (a_w (i:=5) f_k.nd rfl (Or.inl rfl) (a_v a_V (pv 2) (pv 3)))
   (a_c (a_w (i:=6) f_k.nd rfl (Or.inl rfl) a_g)
   (a_c (b_Z PassesOwn.leaving rfl (a_T K (a_E (a_k GO hr rfl gO.mg gO.kp gO.b .nil (c_s (E':=E) fun _ _ _ h=>h) (a_a (pv 0) (a_a (pv 1) a_d))) rfl)) (b_b (i:=7) f_k.nd rfl (Or.inl rfl))
     (a_c (a_C (a_m j_c (pv 6) (pv 5) (a_q _)) (a_f (a_o (pv 4))) a_p)
     (a_c (a_y (b_x s_H PySem.F.slot_list_extend PySem.F.type_list_extend d_h (pv 4) (a_a (b_p (b_K K) (pv 7) (b_F (a_t (j_h rfl) (by rfl) hmax PyProof.Rows.boot_max (a_a (a_v b_S (pv 2) (pv 6)) (a_a a_g a_d)))) (b_F (a_v b_S (pv 5) (pv 6)))) a_d)))
     (a_f (a_w (i:=6) f_k.nd rfl (Or.inl rfl) (a_v a_V (pv 6) (a_t (a_B K) (by rfl) T.len s_G (a_a (pv 7) a_d))))))))
   (a_f (a_o (pv 4)))))),?_⟩
  refine⟨by show 0<=sizeLine;decide,λt C=> ?_⟩;have y:Same H (upd H t (.lst [])):=Same.upd_new C;refine⟨_,rfl,_,rfl,_,_,rfl,rfl,?_⟩;refine⟨_,rfl,_,rfl,A,x,room,l,st,ms,rfl,S.same y,λw I=> ?_, λI=> ?_⟩
  rotate_left
  ·exact⟨(k2 I).1,λH' s'=>(k2 I).2 H' (y.trans s')⟩
  obtain⟨bl,bas,B,O,G,e⟩:=StrC.ordW S hn w;obtain⟨dx,ho⟩:=O.ob;have U:=O.ls;have Y:bas.length=B.length:=Paired.length O.bs
  refine⟨_,CO,dx,_,_,rfl,y _ _ ho,T.cl,T.nB,a_z _ _,bl,rfl,⟨_,SqL.of (y _ _ U)⟩,b_X (K:=K) (a:=bl) (xs:=bas.map V.ref)
   (λj σ g=>∃Z:Option V,σ= [some (.ref A.o),some (.str x),some (.int k),some (.int m),some (.ref t),some (.int (k+m)),some (.int (((B.take j).flatten.length:Nat):Int)),Z]/\Same H g/\LstAt g t (c_p k (k+m) 0 (B.take j).flatten)) ⟨none,rfl,y, [],a_b,.nil⟩ (λj σ g _ ⟨_,_,r,_⟩=>SqL.of (r _ _ U)) ?_ ?_⟩
  ·rintro j v σ g R ⟨Z,rfl,r,as,n,M⟩
   rw[r_9] at R;cases ej:bas[j]? with
   | none=>rw[ej] at R;cases R
   | some ab=>
     rw[ej] at R;obtain rfl:V.ref ab=v:=r_4 R;have hjl:=(s_b.mp ej).1;obtain⟨b,hb⟩:∃b,B[j]? =some b:=⟨_,r_Y (by omega)⟩;obtain⟨ab',e',bs,N,W⟩:=a_U O.bs hb;rw[ej] at e';obtain rfl:ab=ab':=r_4 e';have hlb:=W.len;have a1:=M.len;have J:(B.take (j+1)).flatten=(B.take j).flatten++b:=by rw[s_o,hb];simp
     have hfl:=f_r (B:=B) (j+1);rw[e,a_6,J,r_Z] at hfl;refine⟨_,rfl,_,rfl,_,_,rfl,rfl,_,rfl,a_x (λc=> ?_) (λc=> ?_)⟩
     ·have c':k+m<=(((B.take j).flatten.length:Nat):Int):=s_F c
      refine⟨_,rfl,k1 w I t g C r ⟨as,n,?_⟩⟩;have ed:a_W w l=(B.take j).flatten++(B.drop j).flatten:=by rw[<-e,<-s_k,s_A]
      rw[ed,e_F,i_Q (l:=(B.drop j).flatten) (by simpa using c'),s_u];exact M
     ·have c':(((B.take j).flatten.length:Nat):Int) < k+m:=by
       have:¬ k+m<=(((B.take j).flatten.length:Nat):Int):=λz=>c (s_D z);omega
      refine⟨_,rfl,.inl ⟨rfl,_,SqL.of n⟩,_,rfl,_,rfl,_,rfl,_,_,rfl,rfl,_,_,rfl,_,rfl,_,rfl,_,rfl,_,_,rfl,rfl,_,rfl,ab,_,rfl,SqL.of (r _ _ N),λp hp=> ?_⟩
      have ecut:g_Q (bs.map V.ref) (some (if (0:Int) > k - (((B.take j).flatten.length:Nat):Int) then 0 else k - (((B.take j).flatten.length:Nat):Int))) (some (k+m - (((B.take j).flatten.length:Nat):Int)))=((bs.take (k+m - (((B.take j).flatten.length:Nat):Int)).toNat).drop (k - (((B.take j).flatten.length:Nat):Int)).toNat).map V.ref:=by
       have i1:HT.sIx (bs.map V.ref).length 0 (some (if (0:Int) > k - (((B.take j).flatten.length:Nat):Int) then 0 else k - (((B.take j).flatten.length:Nat):Int)))=min (k - (((B.take j).flatten.length:Nat):Int)).toNat (bs.map V.ref).length:=by
        unfold HT.sIx;dsimp only
        (repeat' split) <;> first | rfl | omega
       have i2:HT.sIx (bs.map V.ref).length (bs.map V.ref).length (some (k+m - (((B.take j).flatten.length:Nat):Int)))=min (k+m - (((B.take j).flatten.length:Nat):Int)).toNat (bs.map V.ref).length:=by
        unfold HT.sIx;dsimp only;rw[if_neg (by omega)]
       unfold g_Q;rw[i1,i2,k_1,List.map_drop,List.map_take]
      rw[ecut];have a0:=r _ _ N;have ntp:t≠p:=a_h n hp;have L:Same g (upd g p (.lst (((bs.take (k+m - (((B.take j).flatten.length:Nat):Int)).toNat).drop (k - (((B.take j).flatten.length:Nat):Int)).toNat).map V.ref))):=Same.upd_new hp
      have hsz:(as.map V.ref).length+(((bs.take (k+m - (((B.take j).flatten.length:Nat):Int)).toNat).drop (k - (((B.take j).flatten.length:Nat):Int)).toNat).map V.ref).length<=sizeLine:=by
       have h1:as.length<=(B.take j).flatten.length:=by
        rw[a1,c_h,List.length_drop,s_j];omega
       rw[r_X,r_X,List.length_drop,s_j];exact s_i (m:=20000) (by omega) (by decide)
      refine⟨t,p,_,_,rfl,rfl,L _ _ n,a_b,hsz,?_⟩;have hl5:=L _ _ n
      have m6:∀{xs:List V},Same H (upd (upd g p (.lst (((bs.take (k+m - (((B.take j).flatten.length:Nat):Int)).toNat).drop (k - (((B.take j).flatten.length:Nat):Int)).toNat).map V.ref))) t (.lst xs)):=λ{xs} d u hd=>by
       rw[a_i (a_h hd C)];exact L _ _ (r _ _ hd)
      have hbt:ab≠t:=a_h N C;refine⟨_,rfl,_,rfl,ab,_,rfl,.inl (SqL.of (by rw[a_i hbt];exact L _ _ a0)),_,_,rfl,rfl,some (V.ref ab),?_, m6,as++((bs.take (k+m - (((B.take j).flatten.length:Nat):Int)).toNat).drop (k - (((B.take j).flatten.length:Nat):Int)).toNat),by rw[r_5];exact a_b,?_⟩
      ·rw[J,r_Z,r_X,hlb]
       simp
      ·rw[J,e_F]
       refine RowsAt.app (M.same λd ys q=> ?_) ?_
       ·rw[a_i (λz=>by rw[z,n] at q;cases q)]
        exact L _ _ q
       ·rw[Nat.zero_add,c_h]
        exact ((W.take _).drop _).same λd ys q=>m6 _ _ q
  ·rintro σ g ⟨Z,rfl,r,X⟩
   refine⟨_,rfl,k1 w I t g C r ?_⟩;rw[r_X,Y,s_h (r_6 _),e] at X;exact X
end
theorem c_o {K:PySem.W.Frag} {a Da:Addr} {σ:L2.St} {js:List Nat} {tt:TT} {te:TE} {QQ:Hp->Prop} {H:Hp} {as:List Addr} {ρs:List Row} (p:Row->Bool) (ha:H a=some (.lst (as.map .ref))) (hR:RowsAt H as ρs) (hD:H Da=none) (hsz:ρs.length < 10000)
 (hs:∀r ρ H2 (Qb:Bool->Hp->Prop),Same H H2->RowAt H2 r ρ->(∀H3,Same H2 H3->Qb (p ρ) H3)->tt (b_r σ js (some (.ref r))) H2 Qb)
 (he:∀r H2 (Q:VK),Q (.ref r) H2->te (b_r σ js (some (.ref r))) H2 Q)
 (hd:∀H',Same H H'->LstAt H' Da (ρs.filter p)->QQ H'):∃W:Nat->Nat->Hp->Prop,(∃m,W 0 m (upd H Da (.lst [])))/\e_U (Itl K a) Da σ js tt te QQ W:=by
 have n:=hR.len;refine c_C (K:=K) (xs:=as.map V.ref) (λi ys k=>Same H k/\∃bs:List Addr,ys=bs.map V.ref/\RowsAt k bs ((ρs.take i).filter p)) ⟨Same.upd_new hD, [],rfl,.nil⟩ (λi ys k _ _ h=>SqL.of (h.1 _ _ ha)) ?_ ?_
 ·rintro i v ys k l g ⟨j,bs,rfl,d⟩
  rw[r_9] at l;cases e:as[i]? with
  | none=>rw[e] at l;cases l
  | some r=>
    rw[e] at l;obtain rfl:V.ref r=v:=r_4 l;obtain⟨ρ,hρ,o⟩:=hR.get' e;refine hs r ρ k _ j (j _ _ o) λs f=> ?_;have et:ρs.take (i+1)=ρs.take i++ [ρ]:=by rw[s_o,hρ];rfl
    refine a_x (λc=> ?_) (λc=> ?_)
    ·refine he r s _ ⟨f _ _ g,?_, λb u d=> ?_, bs++ [r],by rw[r_5];rfl,?_⟩
     ·have:=d.len
      have t:=s_y p (ρs.take i);rw[s_j] at t;rw[r_X];exact s_d (m:=10000) (by omega) (by decide)
     ·rw[a_i (a_h d hD)]
      exact f _ _ (j _ _ d)
     ·rw[et,List.filter_append,s_m,if_pos c,List.filter_nil]
      exact (RowsAt.app (d.same λb xs q=>f _ _ q) (.cons (f _ _ (j _ _ o)) .nil)).same (NoTup.keep (NoTup.lst (f _ _ g)))
    ·refine⟨f _ _ g,j.trans f,bs,rfl,?_⟩
     rw[et,List.filter_append,s_m,if_neg c,List.filter_nil,s_u];exact d.same λb xs q=>f _ _ q
 ·rintro ys k g ⟨j,bs,rfl,d⟩
  rw[r_X,n,s_h (r_6 _)] at d;exact hd k j ⟨bs,g,d⟩
theorem _root_.L2.Room.in2 {k:Nat} {A:Around} (h:Room (k+1) A):Room k A.in1.in1:=⟨h.hd,by have:=h.dp;show A.depth+3 * k+5 < _;omega,by have:=h.un;show A.units+1+1+16 * k+200 < _;omega⟩
section
variable {P:Program} {w:World} {K:PySem.W.Frag} {mg:Str->Option Value} {base:Heap}
theorem j_r:a_s ["row"] ["row"] (a_n f_J):=⟨rfl,rfl,rfl,by decide+kernel,rfl,by decide+kernel,by decide+kernel⟩
theorem i_y {f fK C:Addr} {fd fdK:FuncData} (F:Fun K "rank_key" "rank_key" f_J f fd) (T:Txt K mg C) (gK:Gf K mg "key_of" fK fdK ["word","row"]) (GK:FnOk P w K mg base CX0 2 fK fdK ["word","row"] g_R):FnOk P w K mg base CX0 3 f fd ["row"] o_V:=by
 refine F.ok j_r (λvs H Q E h=> ?_) (λcdv A outer s H vs Q E d h=> ?_)
 ·obtain⟨a,ρ,rfl,_⟩:=h
  rfl
 ·obtain⟨a,ρ,rfl,c,k⟩:=h
  obtain⟨g,e⟩:=T.rank;refine⟨_,a_f (a_o (a_k GK d rfl gK.mg gK.kp gK.b .nil a_u (a_a (d_T e) (a_a (pv 0) a_d)))),?_⟩;exact⟨_,rfl,false,a,ρ,rfl,c,k⟩
def m_E (CS CO:Addr):Sp:=λvs H Q _=>∃(A:Ads) (lo hi:Int) (t:Str) (room:Int) (l:List Row) (st:List a_0) (ms:List Nat),vs= [.ref A.o,.int lo,.int hi,.str t]/\f_U CS CO H A room l st ms/\c_b l/\l.length < 64/\
 ∀(d:Addr) (H':Hp),H d=none->Same H H'->LstAt H' d (((a_W false l).filter λx=>decide (x.t=t)).filter (i_j false (.int lo) (.int hi)))->Q (.ref d) H'
theorem m_d:a_s ["store","low","high","text","found"] ["store","low","high","text"] (a_n n_t):=⟨rfl,rfl,rfl,by decide+kernel,rfl,by decide+kernel,by decide+kernel⟩
theorem o_k (t:Str) (x:Row):i_j true (.str t) (.str t) x=decide (x.t=t):=by
 by_cases e:x.t=t
 ·rw[s_D e]
  unfold i_j;show (!ltV (.str x.t) (.str t)&& !ltV (.str t) (.str x.t))=true;rw[e,c_d];rfl
 ·rw[s_E e]
  unfold i_j;show (!ltV (.str x.t) (.str t)&& !ltV (.str t) (.str x.t))=false;cases h:ltV (.str x.t) (.str t) with
  | true=>rfl
  | false=>
    have:=h_j (x:= .str x.t) (y:= .str t) rfl h (λq=>e (by injection q));rw[this];rfl
theorem m_Y {f fB fRK CS CO:Addr} {fd fdB fdRK:FuncData} (F:Fun K "rows_of_text" "rows_of_text" n_t f fd) (T:Txt K mg CO) (TS:e_W K mg CS CO) (hsorted:mg "sorted"=none) (mBt:Mf K CO "between" fB fdB ["self","low","high"]) (GBt:FnOk P w K mg base CX0 4 fB fdB ["self","low","high"] (k_c CO))
 (gRK:Gf K mg "rank_key" fRK fdRK ["row"]) (GRK:FnOk P w K mg base CX0 3 fRK fdRK ["row"] o_V):FnOk P w K mg base CX0 5 f fd ["store","low","high","text"] (m_E CS CO):=by
 refine F.ok m_d (λvs H Q E h=> ?_) (λcdv A outer s H vs Q E Z h=> ?_)
 ·obtain⟨A,lo,a,t,room,l,st,ms,rfl,_⟩:=h
  rfl
 ·obtain⟨A,lo,a,t,room,l,st,ms,rfl,S,C,hl,fin⟩:=h
  have N:Room 4 _:=Z;have X:=Room.in2 Z
  refine⟨_,a_c (c_k (k:=4) (x:="row") (fns:= ["low","high"]) (js:= [1,2]) rfl ⟨rfl,by decide+kernel,by decide+kernel,rfl,by decide+kernel,by decide+kernel,rfl,by simp[Env.kindOf];exact⟨rfl,rfl⟩,rfl,by decide+kernel⟩ (a_T K (a_Q (a_E (pv 0) rfl) T.cl mBt.m GBt N mBt.b .nil a_u (a_a (pv 3) (a_a (pv 3) a_d)))) (λ_ _ _ _=>(d_j (PW.pt (e_O (a_m j_c (a_r (a_j K) (pv 0) a_g (λ_ _=>rfl)) (pv 1) (a_q _)) (c_X (a_m q_W (a_r (a_j K) (pv 0) a_g (λ_ _=>rfl)) (pv 2) (a_q _))))))) (λ_ _ _ _=>(pv 0)) m_d.nd rfl (Or.inl rfl))
   (a_f (a_o (l_t GRK X gRK.b hsorted (pv 4) gRK.mg))),?_⟩
  obtain⟨bl,bas,B,O,G,e⟩:=StrC.ordW S C true;obtain⟨dx,ho⟩:=O.ob;refine⟨_,rfl,A.o,CS,A.dx,_,_,rfl,S.ob,TS.cl,TS.nText,e_e,A.o2,dx,_,rfl,ho,a_Z _ _ (by decide+kernel) (by decide+kernel),_,rfl,_,rfl,true,A.o2,bl,bas,B,.str t,.str t,rfl,O,λ_=>rfl,λ_=>rfl,G,by rw[e,a_6];omega,λr H1 hr1 y J=> ?_⟩;obtain⟨as,v,Y⟩:=id J
  have i:(B.flatten.filter (btw true (.str t) (.str t))).length<=l.length:=by
   rw[e,<-a_6 true l];exact s_y _ _
  refine⟨r,rfl,⟨_,SqL.of v⟩,λLa p=>c_o (λx=>decide (lo<=x.r)&&decide (x.r<=a)) v Y p (by omega) ?_ (λr g Q q=>⟨_,rfl,q⟩) λH3 L I=> ?_⟩
  ·intro r ρ g Qb s2 hρ k
   refine⟨_,rfl,r,_,_,_,rfl,rfl,SqT.of hρ,a_e (j:=1) rfl,_,rfl,_,_,rfl,rfl,_,rfl,a_x (λc=> ?_) (λc=> ?_)⟩
   ·refine⟨_,rfl,r,_,_,_,rfl,rfl,SqT.of hρ,a_e (j:=1) rfl,_,rfl,_,_,rfl,rfl,_,rfl,?_⟩
    have c':decide (lo<=ρ.r)=true:=c;have:=k g (Same.refl g);rw[c',Bool.true_and] at this;exact this
   ·have c':decide (lo<=ρ.r)=false:=by simpa using c
    have:=k g (Same.refl g);rw[c',Bool.false_and] at this;exact this
  ·obtain⟨bs,U,u⟩:=id I
   have W:((((B.flatten.filter (btw true (.str t) (.str t))).filter λx=>decide (lo<=x.r)&&decide (x.r<=a))).map (·.n)).Nodup:=by
    have h0:c_b B.flatten:=by rw[e];exact b_R (a_5 true l).symm C
    exact ((List.filter_sublist.trans List.filter_sublist).map _).nodup h0
   have a0:=u.len;have hlf:((B.flatten.filter (btw true (.str t) (.str t))).filter λx=>decide (lo<=x.r)&&decide (x.r<=a)).length<=l.length:=s_i (s_y _ _) i;refine⟨_,rfl,La,bs,_,rfl,SqL.of U,u,W,by omega,λd κs H4 hd s4 R hp M=> ?_⟩;have hLa0:H La=none:=y.free p;refine fin d H4 ?_ ((y.trans L).trans s4) ?_
   ·exact y.free (L.free hd)
   ·have ek:κs=((a_W false l).filter fun x=>decide (x.t=t)).filter (i_j false (.int lo) (.int a)):=by
     refine Srt.one (b_L false) (c_y false) M ?_ ?_
     ·exact ((c_F false C).filter _).filter _
     ·refine hp.trans ?_
      have e1:(B.flatten.filter (btw true (.str t) (.str t)))=(a_W true l).filter λx=>decide (x.t=t):=by
       rw[e];exact List.filter_congr λx _=>o_k t x
      have e2:∀m:List Row,(m.filter λx=>decide (lo<=x.r)&&decide (x.r<=a))=m.filter (i_j false (.int lo) (.int a)):=λm=>List.filter_congr λx _=>by
       show (decide (lo<=x.r)&&decide (x.r<=a))=(!decide (x.r < lo)&& !decide (a < x.r));congr 1
       ·by_cases z:lo<=x.r
        ·rw[s_D z,s_E (by omega)];rfl
        ·rw[s_E z,s_D (by omega)];rfl
       ·by_cases z:x.r<=a
        ·rw[s_D z,s_E (by omega)];rfl
        ·rw[s_E z,s_D (by omega)];rfl
      rw[e1,e2];exact (((a_5 true l).trans (a_5 false l).symm).filter _).filter _
    rw[<-ek];exact R
end
end K1
namespace TO
open PySem L2
def c_u (room:Int) (s:Sto):Deed->Str
 | .chg c=>(b_g room s.kept c).2
 | .begin=>"done"
 | .keep=>if s.marks= [] then "not begun" else "done"
 | .brk=>if s.marks= [] then "not begun" else "done"
 | _=>"nothing"
theorem g_e {room:Int} {s:Sto} {d:Deed} (h:d.plain):(s.step room d).2= .str (c_u room s d):=by
 cases d with
 | chg c=>rfl
 | begin=>rfl
 | keep=>unfold Sto.step c_u;cases s.marks <;> rfl
 | brk=>unfold Sto.step c_u;cases s.marks <;> rfl
 | _=>exact h.elim
theorem l_U {room:Int} {s:Sto} {d:Deed} (h:d.plain) (hw:¬ c_u room s d="done"):(s.step room d).1=s:=by
 cases d with
 | chg c=>
   have:(b_g room s.kept c).1=s.kept:=by
    have b:¬ (b_g room s.kept c).2="done":=hw
    revert b
    cases c <;> simp only[b_g] <;> (repeat' split) <;> intro b <;> first | rfl | exact absurd rfl b
   show ({ s with kept:=(b_g room s.kept c).1 }:Sto)=s;rw[this]
 | begin=>exact absurd rfl hw
 | keep=>
   unfold c_u at hw;unfold Sto.step;cases e:s.marks with
   | nil=>rfl
   | cons a r=>rw[e] at hw;simp at hw
 | brk=>
   unfold c_u at hw;unfold Sto.step;cases e:s.marks with
   | nil=>rfl
   | cons a r=>rw[e] at hw;simp at hw
 | _=>exact h.elim
theorem l_b {room:Int} {s:Sto} {d:Deed} (h:d.asks):s.step room d=(s,b_U s.kept d):=by
 cases d <;> first | rfl | exact h.elim
theorem b_q {w:Bool} {l l':List Row} (hl:c_b l) (p:l.Perm l'):a_W w l=a_W w l':=
 d_V (b_R p hl) (c_F w hl) ((a_5 w l).trans p)
theorem j_Q {l l':List Row} (hl:c_b l) (p:l.Perm l') (d:Deed):b_U l d=b_U l' d:=by
 cases d with
 | row n=>simp only[b_U];rw[e_4 hl p]
 | both lo a t=>simp only[b_U];rw[b_q hl p]
 | within x lo a=>simp only[b_U];cases c_j x <;> simp only[b_q hl p]
 | «from» x k m=>simp only[b_U];cases c_j x <;> simp only[b_q hl p]
 | spot x n=>
   simp only[b_U];rw[e_4 hl p];cases c_j x with
   | none=>rfl
   | some w=>
     simp only;cases c_3 l' n with
     | none=>rfl
     | some ρ=>simp only;rw[(p.filter _).length_eq]
 | _=>rfl
end TO
namespace K1
open PySem L2 TO
structure p_D (K:PySem.W.Frag) (CT CM CF CN CO:Addr):Prop where
 tt:PySem.W.exmOne K (.ref CT) (.ref CT)=some true
 mt:PySem.W.exmOne K (.ref CM) (.ref CT)=some false
 mm:PySem.W.exmOne K (.ref CM) (.ref CM)=some true
 ft:PySem.W.exmOne K (.ref CF) (.ref CT)=some false
 fm:PySem.W.exmOne K (.ref CF) (.ref CM)=some false
 ff:PySem.W.exmOne K (.ref CF) (.ref CF)=some true
 nt:PySem.W.exmOne K (.ref CN) (.ref CT)=some false
 nm:PySem.W.exmOne K (.ref CN) (.ref CM)=some false
 nf:PySem.W.exmOne K (.ref CN) (.ref CF)=some false
 nn:PySem.W.exmOne K (.ref CN) (.ref CN)=some true
 ot:PySem.W.exmOne K (.ref CO) (.ref CT)=some false
 om:PySem.W.exmOne K (.ref CO) (.ref CM)=some false
 of:PySem.W.exmOne K (.ref CO) (.ref CF)=some false
 on:PySem.W.exmOne K (.ref CO) (.ref CN)=some false
 oo:PySem.W.exmOne K (.ref CO) (.ref CO)=some true
structure r_B (CT CF CM CN:Addr) (x:Str) (E:XK) (H:Hp):Prop where
 t:x="taken"->E (.ref CT) none H
 f:x="full"->E (.ref CF) none H
 m:x="missing"->E (.ref CM) none H
 n:x="not begun"->E (.ref CN) none H
section
variable {P:Program} {w:World} {K:PySem.W.Frag} {mg:Str->Option Value} {base:Heap}
def q_8 (CS CO CT CF CM CN:Addr):Sp:=λvs H Q E=>∃(A:Ads) (a:Addr) (d:Deed) (N:Nat) (room sd:Int) (s:Sto),vs= [.ref A.o,.ref a]/\SAt CS CO H A N room s/\DeedAt H a d/\d.plain/\d.tell sd/\N<=8000/\
 (c_u room s d="done"->o_i CS CO H A (N+1) room Q (s.step room d).1)/\r_B CT CF CM CN (c_u room s d) E H
theorem r_t:a_s ["store","deed"] ["store","deed"] (a_n dDo):=⟨rfl,rfl,rfl,by decide+kernel,rfl,by decide+kernel,by decide+kernel⟩
theorem p_6 {f fBr fAl fCu fBe fKe fBk CS CO CT CF CM CN:Addr} {fd fdBr fdAl fdCu fdBe fdKe fdBk:FuncData} (F:Fun K "do_change" "do_change" dDo f fd) (TS:e_W K mg CS CO)
 (mBr:Mf K CS "bring" fBr fdBr ["self","row"]) (GBr:FnOk P w K mg base (CXR P w) 7 fBr fdBr ["self","row"] (i_2 CS CO CT CF)) (mAl:Mf K CS "alter" fAl fdAl ["self","row"]) (GAl:FnOk P w K mg base (CXR P w) 7 fAl fdAl ["self","row"] (j_4 CS CO CM))
 (mCu:Mf K CS "cut" fCu fdCu ["self","number"]) (GCu:FnOk P w K mg base (CXR P w) 7 fCu fdCu ["self","number"] (o_E CS CO CM)) (mBe:Mf K CS "begin" fBe fdBe ["self"]) (GBe:FnOk P w K mg base CX0 1 fBe fdBe ["self"] (h_m CS CO))
 (mKe:Mf K CS "keep" fKe fdKe ["self"]) (GKe:FnOk P w K mg base (CXR P w) 2 fKe fdKe ["self"] (k_b CS CO CN)) (mBk:Mf K CS "break_off" fBk fdBk ["self"]) (GBk:FnOk P w K mg base (CXR P w) 6 fBk fdBk ["self"] (h_a CS CO CN)):
 FnOk P w K mg base (CXR P w) 8 f fd ["store","deed"] (q_8 CS CO CT CF CM CN):=by
 refine F.okX r_t (λvs H Q E h=> ?_) (λcdv A outer s H vs Q E B h=> ?_)
 ·obtain⟨A,a,d,N,room,sd,s,rfl,_⟩:=h
  rfl
 ·obtain⟨A,a,d,N,room,sd,so,rfl,S,g,R,G,I,z,y⟩:=h
  have M:Room 6 _:=B.mono (by decide);have O:Room 2 _:=B.mono (by decide);have L:Room 1 _:=B.mono (by decide)
  have ob:∃fl dx,H A.o=some (.ins CS dx fl)/\∀m:Str,¬ m="room"->¬ m="by_number"->¬ m="by_rank"->¬ m="by_text"->¬ m="steps"->¬ m="marks"->fl.lookup m=none:=by
   obtain⟨l,st,ms,C,_⟩:=S.ex;exact⟨_,_,C.ob,λm a b c d e f=>d_E a b c d e f⟩
  obtain⟨fl,dx,p,u⟩:=ob
  refine⟨_,a_f (a_C (a_m a_J (a_r (a_j K) (pv 1) a_g (λ_ _=>rfl)) a_l (a_q _)) (a_f (a_y (a_Q (pv 0) TS.cl mBr.m GBr B mBr.b .nil (c_s (E':=E) λ_ _ _ h=>h) (a_a (a_r (a_j K) (pv 1) a_g (λ_ _=>rfl)) a_d))))
   (a_f (a_C (a_m a_J (a_r (a_j K) (pv 1) a_g (λ_ _=>rfl)) a_l (a_q _)) (a_f (a_y (a_Q (pv 0) TS.cl mAl.m GAl B mAl.b .nil (c_s (E':=E) λ_ _ _ h=>h) (a_a (a_r (a_j K) (pv 1) a_g (λ_ _=>rfl)) a_d))))
   (a_f (a_C (a_m a_J (a_r (a_j K) (pv 1) a_g (λ_ _=>rfl)) a_l (a_q _)) (a_f (a_y (a_Q (pv 0) TS.cl mCu.m GCu B mCu.b .nil (c_s (E':=E) λ_ _ _ h=>h) (a_a (a_r (a_j K) (pv 1) a_g (λ_ _=>rfl)) a_d))))
   (a_f (a_C (a_m a_J (a_r (a_j K) (pv 1) a_g (λ_ _=>rfl)) a_l (a_q _)) (a_f (a_y (b_A (pv 0) TS.cl mBe.m GBe L mBe.b .nil a_u)))
   (a_f (a_C (a_m a_J (a_r (a_j K) (pv 1) a_g (λ_ _=>rfl)) a_l (a_q _)) (a_f (a_y (b_A (pv 0) TS.cl mKe.m GKe O mKe.b .nil (c_s (E':=E) λ_ _ _ h=>h))))
   (a_f (a_C (a_m a_J (a_r (a_j K) (pv 1) a_g (λ_ _=>rfl)) a_l (a_q _)) (a_f (a_y (b_A (pv 0) TS.cl mBk.m GBk M mBk.b .nil (c_s (E':=E) λ_ _ _ h=>h)))) a_p))))))))))),?_⟩
  cases d with
  | chg c=>
    cases c with
    | bring ρ=>
      obtain⟨r,x,hρ⟩:=g;refine⟨_,rfl,a,_,_,_,rfl,rfl,SqT.of x,a_e (j:=0) rfl,rfl,_,rfl,a_x (λ_=> ?_) (λq=>absurd (s_D rfl) q)⟩;refine⟨_,rfl,A.o,dx,_,rfl,p,u _ (by decide+kernel) (by decide+kernel) (by decide+kernel) (by decide+kernel) (by decide+kernel) (by decide+kernel),_,rfl,a,_,_,_,rfl,rfl,SqT.of x,a_e (j:=1) rfl,A,r,ρ,N,room,so,rfl,S,hρ,h_l G,I,λc=>y.t ?_, λc J=>y.f ?_, λc J=> ?_⟩
      ·simp[c_u,b_g,c]
      ·simp[c_u,b_g,c,J]
      ·have e:b_g room so.kept (.bring ρ)=(c_m so.kept ρ,("done":Str)):=by simp only[b_g];rw[if_neg (by rw[c];simp),if_neg J]
       have i:=z (by show (b_g room so.kept (.bring ρ)).2=_;rw[e]);have v:(so.step room (.chg (.bring ρ))).1={ so with kept:=c_m so.kept ρ }:=by show ({ so with kept:=(b_g room so.kept (.bring ρ)).1 }:Sto)=_;rw[e]
       rw[v] at i;exact i
    | alter ρ=>
      obtain⟨r,x,hρ⟩:=g;refine⟨_,rfl,a,_,_,_,rfl,rfl,SqT.of x,a_e (j:=0) rfl,rfl,_,rfl,a_x (λq=>absurd q (by decide+kernel)) (λ_=> ?_)⟩;refine⟨_,rfl,a,_,_,_,rfl,rfl,SqT.of x,a_e (j:=0) rfl,rfl,_,rfl,a_x (λ_=> ?_) (λq=>absurd (s_D rfl) q)⟩;refine⟨_,rfl,A.o,dx,_,rfl,p,u _ (by decide+kernel) (by decide+kernel) (by decide+kernel) (by decide+kernel) (by decide+kernel) (by decide+kernel),_,rfl,a,_,_,_,rfl,rfl,SqT.of x,a_e (j:=1) rfl,A,r,ρ,N,room,so,rfl,S,hρ,h_l G,I,λc=>y.m ?_, λc=> ?_⟩
      ·simp[c_u,b_g,c]
      ·have e:b_g room so.kept (.alter ρ)=(c_m so.kept ρ,("done":Str)):=by simp only[b_g];rw[if_pos c]
       have i:=z (by show (b_g room so.kept (.alter ρ)).2=_;rw[e]);have v:(so.step room (.chg (.alter ρ))).1={ so with kept:=c_m so.kept ρ }:=by show ({ so with kept:=(b_g room so.kept (.alter ρ)).1 }:Sto)=_;rw[e]
       rw[v] at i;exact i
    | cut n=>
      refine⟨_,rfl,a,_,_,_,rfl,rfl,SqT.of g,a_e (j:=0) rfl,rfl,_,rfl,a_x (λq=>absurd q (by decide+kernel)) (λ_=> ?_)⟩;refine⟨_,rfl,a,_,_,_,rfl,rfl,SqT.of g,a_e (j:=0) rfl,rfl,_,rfl,a_x (λq=>absurd q (by decide+kernel)) (λ_=> ?_)⟩;refine⟨_,rfl,a,_,_,_,rfl,rfl,SqT.of g,a_e (j:=0) rfl,rfl,_,rfl,a_x (λ_=> ?_) (λq=>absurd (s_D rfl) q)⟩;refine⟨_,rfl,A.o,dx,_,rfl,p,u _ (by decide+kernel) (by decide+kernel) (by decide+kernel) (by decide+kernel) (by decide+kernel) (by decide+kernel),_,rfl,a,_,_,_,rfl,rfl,SqT.of g,a_e (j:=1) rfl,A,n,N,room,so,rfl,S,h_l G,I,λc=>y.m ?_, λc=> ?_⟩
      ·simp[c_u,b_g,c]
      ·have e:b_g room so.kept (.cut n)=(b_a so.kept n,("done":Str)):=by simp only[b_g];rw[if_pos c]
       have i:=z (by show (b_g room so.kept (.cut n)).2=_;rw[e]);have v:(so.step room (.chg (.cut n))).1={ so with kept:=b_a so.kept n }:=by show ({ so with kept:=(b_g room so.kept (.cut n)).1 }:Sto)=_;rw[e]
       rw[v] at i;exact i
  | begin=>
    refine⟨_,rfl,a,_,_,_,rfl,rfl,SqT.of g,a_e (j:=0) rfl,rfl,_,rfl,a_x (λq=>absurd q (by decide+kernel)) (λ_=> ?_)⟩;refine⟨_,rfl,a,_,_,_,rfl,rfl,SqT.of g,a_e (j:=0) rfl,rfl,_,rfl,a_x (λq=>absurd q (by decide+kernel)) (λ_=> ?_)⟩;refine⟨_,rfl,a,_,_,_,rfl,rfl,SqT.of g,a_e (j:=0) rfl,rfl,_,rfl,a_x (λq=>absurd q (by decide+kernel)) (λ_=> ?_)⟩;refine⟨_,rfl,a,_,_,_,rfl,rfl,SqT.of g,a_e (j:=0) rfl,rfl,_,rfl,a_x (λ_=> ?_) (λq=>absurd (s_D rfl) q)⟩;exact⟨_,rfl,A.o,dx,_,rfl,p,u _ (by decide+kernel) (by decide+kernel) (by decide+kernel) (by decide+kernel) (by decide+kernel) (by decide+kernel),A,N,room,so,rfl,S,I,z rfl⟩
  | keep=>
    refine⟨_,rfl,a,_,_,_,rfl,rfl,SqT.of g,a_e (j:=0) rfl,rfl,_,rfl,a_x (λq=>absurd q (by decide+kernel)) (λ_=> ?_)⟩;refine⟨_,rfl,a,_,_,_,rfl,rfl,SqT.of g,a_e (j:=0) rfl,rfl,_,rfl,a_x (λq=>absurd q (by decide+kernel)) (λ_=> ?_)⟩;refine⟨_,rfl,a,_,_,_,rfl,rfl,SqT.of g,a_e (j:=0) rfl,rfl,_,rfl,a_x (λq=>absurd q (by decide+kernel)) (λ_=> ?_)⟩;refine⟨_,rfl,a,_,_,_,rfl,rfl,SqT.of g,a_e (j:=0) rfl,rfl,_,rfl,a_x (λq=>absurd q (by decide+kernel)) (λ_=> ?_)⟩;refine⟨_,rfl,a,_,_,_,rfl,rfl,SqT.of g,a_e (j:=0) rfl,rfl,_,rfl,a_x (λ_=> ?_) (λq=>absurd (s_D rfl) q)⟩;refine⟨_,rfl,A.o,dx,_,rfl,p,u _ (by decide+kernel) (by decide+kernel) (by decide+kernel) (by decide+kernel) (by decide+kernel) (by decide+kernel),A,N,room,so,rfl,S,λc=>y.n (by simp[c_u,c]),λk r c A' H' S' e' F' tk=> ?_⟩;have i:=z (by simp[c_u,c]);have v:(so.step room .keep).1={ so with marks:=r }:=by unfold Sto.step;rw[c]
    rw[v] at i;exact i A' H' (S'.mono (Nat.le_succ _)) e' F' tk
  | brk=>
    refine⟨_,rfl,a,_,_,_,rfl,rfl,SqT.of g,a_e (j:=0) rfl,rfl,_,rfl,a_x (λq=>absurd q (by decide+kernel)) (λ_=> ?_)⟩;refine⟨_,rfl,a,_,_,_,rfl,rfl,SqT.of g,a_e (j:=0) rfl,rfl,_,rfl,a_x (λq=>absurd q (by decide+kernel)) (λ_=> ?_)⟩;refine⟨_,rfl,a,_,_,_,rfl,rfl,SqT.of g,a_e (j:=0) rfl,rfl,_,rfl,a_x (λq=>absurd q (by decide+kernel)) (λ_=> ?_)⟩;refine⟨_,rfl,a,_,_,_,rfl,rfl,SqT.of g,a_e (j:=0) rfl,rfl,_,rfl,a_x (λq=>absurd q (by decide+kernel)) (λ_=> ?_)⟩;refine⟨_,rfl,a,_,_,_,rfl,rfl,SqT.of g,a_e (j:=0) rfl,rfl,_,rfl,a_x (λq=>absurd q (by decide+kernel)) (λ_=> ?_)⟩;refine⟨_,rfl,a,_,_,_,rfl,rfl,SqT.of g,a_e (j:=0) rfl,rfl,_,rfl,a_x (λ_=> ?_) (λq=>absurd (s_D rfl) q)⟩;refine⟨_,rfl,A.o,dx,_,rfl,p,u _ (by decide+kernel) (by decide+kernel) (by decide+kernel) (by decide+kernel) (by decide+kernel) (by decide+kernel),A,N,room,so,rfl,S,I,λc=>y.n (by simp[c_u,c]),λk r c A' H' S' e' F' tk=> ?_⟩;have i:=z (by simp[c_u,c]);have v:(so.step room .brk).1=⟨k,r⟩:=by unfold Sto.step;rw[c]
    rw[v] at i;exact i A' H' (S'.mono (Nat.le_succ _)) e' F' tk
  | _=>exact R.elim
end
end K1
namespace TO
open PySem L2
theorem h_Y:∀{l m:List Int},l.Nodup->(∀x∈l,x∈m)->l.length<=m.length
 | [],m,_,_=>s_p _
 | a::r,m,h,hs=>by
   rw[s_r] at h;have b:=hs a (r_1 ..);have:=h_Y (l:=r) (m:=m.erase a) h.2 λx c=>(List.mem_erase_of_ne (λe:x=a=>h.1 (by rw[<-e];exact c))).mpr (hs x (r_0 _ c));rw[List.length_erase_of_mem b] at this;have d:0 < m.length:=List.length_pos_of_mem b;simp only[r_3];omega
structure Sto.inML (sd:Int) (s:Sto):Prop where
 kept:∀x∈s.kept,x.n∈ML sd
 marks:∀k∈s.marks,∀x∈k,x.n∈ML sd
theorem c_J {sd:Int} {l:List Row} (hn:c_b l) (h:∀x∈l,x.n∈ML sd):l.length < 64:=by
 have:=h_Y hn λn hn'=>by
  obtain⟨x,hx,e⟩:=s_s.mp hn';rw[<-e];exact h x hx
 rw[r_X,p_d] at this;omega
theorem l_P {l:List Row} {ρ x:Row} (h:x∈c_m l ρ):x=ρ\/x∈l:=by
 unfold c_m at h;split at h
 ·obtain⟨y,hy,e⟩:=s_s.mp h
  split at e
  ·exact .inl e.symm
  ·exact .inr (e ▸ hy)
 ·rcases s_f.mp h with q | q
  ·exact .inr q
  ·exact .inl (r_2.mp q)
theorem g_Z {room sd:Int} {l:List Row} {c:Chg} (hc:c.tell sd) (h:∀x∈l,x.n∈ML sd):∀x∈(b_g room l c).1,x.n∈ML sd:=by
 have put:∀ρ:Row,ρ.n∈ML sd->∀x∈c_m l ρ,x.n∈ML sd:=λρ hρ x a=>by
  rcases l_P a with e | e
  ·rw[e];exact hρ
  ·exact h x e
 cases c with
 | bring ρ=>simp only[b_g];(repeat' split) <;> first | exact h | exact put ρ hc
 | alter ρ=>simp only[b_g];split <;> first | exact h | exact put ρ hc
 | cut n=>
   simp only[b_g];split
   ·exact λx a=>h x (List.mem_filter.mp a).1
   ·exact h
theorem i_5 {room sd:Int} {l0:List Row} (h0:∀x∈l0,x.n∈ML sd):∀{cs:List Chg} {i:Nat} {l:List Row},(∀c∈cs,c.tell sd)->(∀x∈l,x.n∈ML sd)->∀x∈(d_R room l0 i l cs).1,x.n∈ML sd
 | [],i,l,_,h=>h
 | c::r,i,l,hc,h=>by
   unfold d_R;dsimp only;split
   ·exact i_5 h0 (λd hd=>hc d (r_0 _ hd)) (g_Z (hc c (r_1 ..)) h)
   ·exact h0
theorem j_G {room sd:Int} {s:Sto} {d:Deed} (hd:d.tell sd) (h:s.inML sd):(s.step room d).1.inML sd:=by
 cases d with
 | chg c=>exact⟨g_Z hd h.kept,h.marks⟩
 | all cs=>exact⟨i_5 h.kept hd h.kept,h.marks⟩
 | begin=>exact⟨h.kept,fun k b=>by
    rcases r_8.mp b with e | e
    ·rw[e];exact h.kept
    ·exact h.marks k e⟩
 | keep=>
   unfold Sto.step;cases e:s.marks with
   | nil=>exact h
   | cons a r=>exact⟨h.kept,λk b=>h.marks k (by rw[e];exact r_0 _ b)⟩
 | brk=>
   unfold Sto.step;cases e:s.marks with
   | nil=>exact h
   | cons a r=>exact⟨h.marks a (by rw[e];exact r_1 ..),λk b=>h.marks k (by rw[e];exact r_0 _ b)⟩
 | _=>exact h
end TO
namespace K1
open PySem L2 TO
inductive Ans (H:Hp) (f:List Addr):D->V->Prop
 | str (x:Str):Ans H f (.str x) (.str x)
 | int (i:Int):Ans H f (.int i) (.int i)
 | row {a:Addr} {ρ:Row}:RowAt H a ρ->Ans H f (j_W ρ) (.ref a)
 | pair {a:Addr} {i:Int} {x:Str}:H a=some (.tup [.int i,.str x])->Ans H f (.tup [.int i,.str x]) (.ref a)
 | rows {t:Addr} {l:List Row}:LstAt H t l->t∉f->Ans H f (e_H l) (.ref t)
theorem Ans.bears {H:Hp} {f:List Addr} {d:D} {v:V} (h:Ans H f d v):Bears H d v:=by
 cases h with
 | str x=>exact .str x
 | int i=>exact .int i
 | row h=>exact RowAt.bears h
 | pair h=>exact .tup h (.cons (.int _) (.cons (.str _) .nil))
 | rows h _=>exact LstAt.bears h
theorem Ans.mov {H H':Hp} {f f':List Addr} {d:D} {v:V} (h:Ans H f d v) (S:Stp H H' f f') (tk:a_N H H'):Ans H' f' d v:=by
 cases h with
 | str x=>exact .str x
 | int i=>exact .int i
 | row h=>exact .row (tk _ _ h)
 | pair h=>exact .pair (tk _ _ h)
 | rows h hn=>
   obtain⟨as,a,c⟩:=h;refine .rows ⟨as,S.keep _ _ a hn,c.same tk⟩ λb=> ?_;rcases S.new _ b with q | q
   ·exact hn q
   ·rw[a] at q;cases q
def NewA (H H':Hp) (v:V):Prop:=∀t xs,v= .ref t->H' t=some (.lst xs)->H t=none
theorem NewA.str {H H':Hp} (x:Str):NewA H H' (.str x):=λt xs e=>by cases e
theorem NewA.tup {H H':Hp} {a:Addr} {ys:List V} (h:H' a=some (.tup ys)):NewA H H' (.ref a):=λt xs e z=>by
 cases e;rw[h] at z;cases z
abbrev p_Z (CS CO:Addr) (H:Hp) (A:Ads) (N:Nat) (room:Int) (Q:VK) (r:Sto×D):Prop:=∀(v:V) (A':Ads) (H':Hp),SAt CS CO H' A' N room r.1->A'.o=A.o->Stp H H' A.fp A'.fp->a_N H H'->Ans H' A'.fp r.2 v->NewA H H' v->Q v H'
section
variable {P:Program} {w:World} {K:PySem.W.Frag} {mg:Str->Option Value} {base:Heap}
def m_q (CS CO CNo CM:Addr):Sp:=λvs H Q E=>∃(A:Ads) (a:Addr) (d:Deed) (N:Nat) (room sd:Int) (s:Sto),vs= [.ref A.o,.ref a]/\SAt CS CO H A N room s/\DeedAt H a d/\d.asks/\d.form/\d.tell sd/\N<=8000/\s.kept.length < 64/\
 (∀v H',Same H H'->Ans H' A.fp (b_U s.kept d) v->NewA H H' v->Q v H')/\(b_U s.kept d= .str "missing"->E (.ref CM) none H)/\(b_U s.kept d= .str "no order"->∀H',Same H H'->E (.ref CNo) none H')
theorem p_Q:a_s ["store","deed"] ["store","deed"] (a_n q_a):=⟨rfl,rfl,rfl,by decide+kernel,rfl,by decide+kernel,by decide+kernel⟩
theorem g_T {x:Str} (h:c_r x) (hn:c_j x=none):(PySem.reprText x).length<=1000:=by
 rcases h with e | e | e
 ·rw[e] at hn;cases hn
 ·rw[e] at hn;cases hn
 ·rw[e];decide+kernel
theorem n_T {f fR fW fT fF fS CS CO CNo CM:Addr} {fd fdR fdW fdT fdF fdS:FuncData} (F:Fun K "answer_to_question" "answer_to_question" q_a f fd) (TS:e_W K mg CS CO)
 (mR:Mf K CS "row_of" fR fdR ["self","number"]) (GR:FnOk P w K mg base (CXR P w) 1 fR fdR ["self","number"] (e_G CS CO CM)) (gW:Gf K mg "rows_within" fW fdW ["store","word","low","high"]) (GW:FnOk P w K mg base (CXR P w) 5 fW fdW ["store","word","low","high"] (h_Z CS CO CNo))
 (gT:Gf K mg "rows_of_text" fT fdT ["store","low","high","text"]) (GT:FnOk P w K mg base CX0 5 fT fdT ["store","low","high","text"] (m_E CS CO)) (gF:Gf K mg "rows_from" fF fdF ["store","word","spot","many"]) (GF:FnOk P w K mg base (CXR P w) 3 fF fdF ["store","word","spot","many"] (m_z CS CO CNo))
 (gS:Gf K mg "spot_of" fS fdS ["store","word","number"]) (GS:FnOk P w K mg base (CXR P w) 5 fS fdS ["store","word","number"] (m_r CS CO CNo CM)):FnOk P w K mg base (CXR P w) 6 f fd ["store","deed"] (m_q CS CO CNo CM):=by
 refine F.okX p_Q (λvs H Q E h=> ?_) (λcdv A outer s H vs Q E L h=> ?_)
 ·obtain⟨A,a,d,N,room,sd,s,rfl,_⟩:=h
  rfl
 ·obtain⟨A,a,d,N,room,sd,so,rfl,S,p,has,J,R,hN,a0,O,T,M⟩:=h
  obtain⟨l,st,ms,C,hs,Z,h1,h2⟩:=S.ex;have X:Room 3 _:=L.mono (by decide);have W:Room 1 _:=L.mono (by decide);have I:=hs.nums;have hll:l.length=so.kept.length:=Z.length_eq
  have fpin:∀b∈A.fp,∃u,H b=some u:=λb Y=>by
   simp only[Ads.fp,r_8] at Y;rcases Y with e | e | e
   ·rw[e];exact⟨_,C.ob⟩
   ·obtain⟨rs,q,_⟩:=C.nb;rw[e];exact⟨_,q⟩
   ·obtain⟨xs,q⟩:=C.list b e;exact⟨_,q⟩
  have free:∀t,H t=none->t∉A.fp:=λt y hc=>by obtain⟨u,q⟩:=fpin t hc;rw[y] at q;cases q
  refine⟨_,a_c (a_C (a_m a_J (a_r (a_j K) (pv 1) a_g (λ_ _=>rfl)) a_l (a_q _)) (a_f (a_o (a_Q (pv 0) TS.cl mR.m GR W mR.b .nil (c_s (E':=E) λ_ _ _ h=>h) (a_a (a_r (a_j K) (pv 1) a_g (λ_ _=>rfl)) a_d)))) a_p)
   (a_c (a_C (a_m a_J (a_r (a_j K) (pv 1) a_g (λ_ _=>rfl)) a_l (a_q _)) (a_f (a_o (a_k GW L rfl gW.mg gW.kp gW.b .nil (c_s (E':=E) λ_ _ _ h=>h) (a_a (pv 0) (a_a (a_r (a_j K) (pv 1) a_g (λ_ _=>rfl)) (a_a (a_r (a_j K) (pv 1) a_g (λ_ _=>rfl)) (a_a (a_r (a_j K) (pv 1) a_g (λ_ _=>rfl)) a_d))))))) a_p)
   (a_c (a_C (a_m a_J (a_r (a_j K) (pv 1) a_g (λ_ _=>rfl)) a_l (a_q _)) (a_f (a_o (a_k GT L rfl gT.mg gT.kp gT.b .nil a_u (a_a (pv 0) (a_a (a_r (a_j K) (pv 1) a_g (λ_ _=>rfl)) (a_a (a_r (a_j K) (pv 1) a_g (λ_ _=>rfl)) (a_a (a_r (a_j K) (pv 1) a_g (λ_ _=>rfl)) a_d))))))) a_p)
   (a_c (a_C (a_m a_J (a_r (a_j K) (pv 1) a_g (λ_ _=>rfl)) a_l (a_q _)) (a_f (a_o (a_k GF X rfl gF.mg gF.kp gF.b .nil (c_s (E':=E) λ_ _ _ h=>h) (a_a (pv 0) (a_a (a_r (a_j K) (pv 1) a_g (λ_ _=>rfl)) (a_a (a_r (a_j K) (pv 1) a_g (λ_ _=>rfl)) (a_a (a_r (a_j K) (pv 1) a_g (λ_ _=>rfl)) a_d))))))) a_p)
   (a_f (a_o (a_k GS L rfl gS.mg gS.kp gS.b .nil (c_s (E':=E) λ_ _ _ h=>h) (a_a (pv 0) (a_a (a_r (a_j K) (pv 1) a_g (λ_ _=>rfl)) (a_a (a_r (a_j K) (pv 1) a_g (λ_ _=>rfl)) a_d))))))))),?_⟩
  rw[<-j_Q I Z] at O T M;have tell:∀{t:Addr} {m:List Row} {H':Hp},H t=none->Same H H'->LstAt H' t m->b_U l d=e_H m->Q (.ref t) H':=λ{t m H'} y s' B e=>O (.ref t) H' s' (by rw[e];exact .rows B (free t y)) λt' xs e' _=>by cases e';exact y
  cases d with
  | row n=>
    refine⟨_,rfl,a,_,_,_,rfl,rfl,SqT.of p,a_e (j:=0) rfl,rfl,_,rfl,a_x (λ_=> ?_) (λq=>absurd (s_D rfl) q)⟩;refine⟨_,rfl,A.o,A.dx,_,rfl,C.ob,d_E (by decide+kernel) (by decide+kernel) (by decide+kernel) (by decide+kernel) (by decide+kernel) (by decide+kernel),_,rfl,a,_,_,_,rfl,rfl,SqT.of p,a_e (j:=1) rfl,A,n,room,l,st,ms,rfl,C,R,λc r ρ G hρ=> ?_, λc=>T ?_⟩
    ·refine O (.ref r) H (Same.refl H) ?_ (NewA.tup hρ)
     simp only[b_U,G];exact .row hρ
    ·simp only[b_U,b_Q c]
  | within x lo U=>
    refine⟨_,rfl,a,_,_,_,rfl,rfl,SqT.of p,a_e (j:=0) rfl,rfl,_,rfl,a_x (λq=>absurd q (by decide+kernel)) (λ_=> ?_)⟩;refine⟨_,rfl,a,_,_,_,rfl,rfl,SqT.of p,a_e (j:=0) rfl,rfl,_,rfl,a_x (λ_=> ?_) (λq=>absurd (s_D rfl) q)⟩;refine⟨_,rfl,_,rfl,a,_,_,_,rfl,rfl,SqT.of p,a_e (j:=1) rfl,_,rfl,a,_,_,_,rfl,rfl,SqT.of p,a_e (j:=2) rfl,_,rfl,a,_,_,_,rfl,rfl,SqT.of p,a_e (j:=3) rfl,A,x,lo,U,room,l,st,ms,rfl,C,I,by omega,λw g=>⟨λρ=> ?_, λρ=> ?_, λt H' y s' B=>tell y s' B ?_⟩,λg=>⟨g_T J.2 g,M ?_⟩⟩
    ·have v:=J.1
     unfold b_v at v;unfold c_j at g;split at g
     ·rename_i e
      cases g;rw[e,if_neg (λz=>g_G z.symm)] at v;obtain⟨i,j,rfl,rfl⟩:=v;rfl
     ·split at g
      ·rename_i e
       cases g;rw[if_pos e] at v;obtain⟨i,j,rfl,rfl⟩:=v;rfl
      ·cases g
    ·have v:=J.1
     unfold b_v at v;unfold c_j at g;split at g
     ·rename_i e
      cases g;rw[e,if_neg (λz=>g_G z.symm)] at v;obtain⟨i,j,rfl,rfl⟩:=v;rfl
     ·split at g
      ·rename_i e
       cases g;rw[if_pos e] at v;obtain⟨i,j,rfl,rfl⟩:=v;rfl
      ·cases g
    ·simp only[b_U,g]
    ·simp only[b_U,g]
  | both lo U t0=>
    refine⟨_,rfl,a,_,_,_,rfl,rfl,SqT.of p,a_e (j:=0) rfl,rfl,_,rfl,a_x (λq=>absurd q (by decide+kernel)) (λ_=> ?_)⟩;refine⟨_,rfl,a,_,_,_,rfl,rfl,SqT.of p,a_e (j:=0) rfl,rfl,_,rfl,a_x (λq=>absurd q (by decide+kernel)) (λ_=> ?_)⟩;refine⟨_,rfl,a,_,_,_,rfl,rfl,SqT.of p,a_e (j:=0) rfl,rfl,_,rfl,a_x (λ_=> ?_) (λq=>absurd (s_D rfl) q)⟩;exact⟨_,rfl,_,rfl,a,_,_,_,rfl,rfl,SqT.of p,a_e (j:=1) rfl,_,rfl,a,_,_,_,rfl,rfl,SqT.of p,a_e (j:=2) rfl,_,rfl,a,_,_,_,rfl,rfl,SqT.of p,a_e (j:=3) rfl,A,lo,U,t0,room,l,st,ms,rfl,C,I,by omega,λt H' y s' B=>tell y s' B rfl⟩
  | «from» x k m=>
    refine⟨_,rfl,a,_,_,_,rfl,rfl,SqT.of p,a_e (j:=0) rfl,rfl,_,rfl,a_x (λq=>absurd q (by decide+kernel)) (λ_=> ?_)⟩;refine⟨_,rfl,a,_,_,_,rfl,rfl,SqT.of p,a_e (j:=0) rfl,rfl,_,rfl,a_x (λq=>absurd q (by decide+kernel)) (λ_=> ?_)⟩;refine⟨_,rfl,a,_,_,_,rfl,rfl,SqT.of p,a_e (j:=0) rfl,rfl,_,rfl,a_x (λq=>absurd q (by decide+kernel)) (λ_=> ?_)⟩;refine⟨_,rfl,a,_,_,_,rfl,rfl,SqT.of p,a_e (j:=0) rfl,rfl,_,rfl,a_x (λ_=> ?_) (λq=>absurd (s_D rfl) q)⟩;refine⟨_,rfl,_,rfl,a,_,_,_,rfl,rfl,SqT.of p,a_e (j:=1) rfl,_,rfl,a,_,_,_,rfl,rfl,SqT.of p,a_e (j:=2) rfl,_,rfl,a,_,_,_,rfl,rfl,SqT.of p,a_e (j:=3) rfl,A,x,k,m,room,l,st,ms,rfl,C,I,by omega,λw g t H' y s' B=>tell y s' B ?_, λg=>⟨g_T J.1 g,M ?_⟩⟩
    ·simp only[b_U,g,d_9]
    ·simp only[b_U,g]
  | spot x n=>
    refine⟨_,rfl,a,_,_,_,rfl,rfl,SqT.of p,a_e (j:=0) rfl,rfl,_,rfl,a_x (λq=>absurd q (by decide+kernel)) (λ_=> ?_)⟩;refine⟨_,rfl,a,_,_,_,rfl,rfl,SqT.of p,a_e (j:=0) rfl,rfl,_,rfl,a_x (λq=>absurd q (by decide+kernel)) (λ_=> ?_)⟩;refine⟨_,rfl,a,_,_,_,rfl,rfl,SqT.of p,a_e (j:=0) rfl,rfl,_,rfl,a_x (λq=>absurd q (by decide+kernel)) (λ_=> ?_)⟩;refine⟨_,rfl,a,_,_,_,rfl,rfl,SqT.of p,a_e (j:=0) rfl,rfl,_,rfl,a_x (λq=>absurd q (by decide+kernel)) (λ_=> ?_)⟩;refine⟨_,rfl,_,rfl,a,_,_,_,rfl,rfl,SqT.of p,a_e (j:=1) rfl,_,rfl,a,_,_,_,rfl,rfl,SqT.of p,a_e (j:=2) rfl,A,x,n,room,l,st,ms,rfl,C,I,by omega,R,λw g=>⟨λc=>T ?_, λρ G H' s'=>O _ H' s' ?_ λt xs e=>by cases e⟩,λg=>⟨g_T J g,M ?_⟩⟩
    ·simp only[b_U,g,b_Q c]
    ·simp only[b_U,g,G]
     exact .int _
    ·simp only[b_U,g]
  | _=>exact has.elim
end
theorem o_z {X:Cx} (K:PySem.W.Frag) (hK:X.K=K:=by rfl):OpR X (compareOp .In) (rIn K false):=by subst hK;exact d_e
structure q_B (K:PySem.W.Frag) (mg:Str->Option Value):Prop where
 done:∃t,mg "DONE"=some (.str "done" t)
 qs:∃a,mg "QUESTIONS"=some (.ref a)/\∀H:Hp,SqT K H a [V.str "row",V.str "within",V.str "both",V.str "from",V.str "spot"]
 len:mg "len"=none
 range:mg "range"=none
theorem SAt.ob {CS CO:Addr} {H:Hp} {A:Ads} {N:Nat} {room:Int} {s:Sto} (S:SAt CS CO H A N room s):∃fl dx,H A.o=some (.ins CS dx fl)/\∀m:Str,¬ m="room"->¬ m="by_number"->¬ m="by_rank"->¬ m="by_text"->¬ m="steps"->¬ m="marks"->fl.lookup m=none:=by
 obtain⟨l,st,ms,C,_⟩:=S.ex;exact⟨_,_,C.ob,λm a b c d e f=>d_E a b c d e f⟩
theorem SAt.fpin {CS CO:Addr} {H:Hp} {A:Ads} {N:Nat} {room:Int} {s:Sto} (S:SAt CS CO H A N room s):∀b∈A.fp,∃u,H b=some u/\∀xs,u≠ .tup xs:=λb a=>by
 obtain⟨l,st,ms,C,_⟩:=S.ex;simp only[Ads.fp,r_8] at a;rcases a with e | e | e
 ·rw[e];exact⟨_,C.ob,λxs z=>by cases z⟩
 ·obtain⟨rs,q,_⟩:=C.nb;rw[e];exact⟨_,q,λxs z=>by cases z⟩
 ·obtain⟨xs,q⟩:=C.list b e;exact⟨_,q,λxs z=>by cases z⟩
theorem k_K {H H':Hp} (s:Same H H'):a_N H H':=λb xs q=>s _ _ q
section
variable {P:Program} {w:World} {K:PySem.W.Frag} {mg:Str->Option Value} {base:Heap}
def n_a (CS CO:Addr):Sp:=λvs H Q _=>∃(A:Ads) (a:Addr) (d:Deed) (N:Nat) (room sd:Int) (s:Sto),vs= [.ref A.o,.ref a]/\SAt CS CO H A N room s/\DeedAt H a d/\(d.plain\/d.asks)/\d.form/\d.tell sd/\N<=8000/\s.inML sd/\p_Z CS CO H A (N+1) room Q (s.step room d)
theorem q_C:a_s ["store","deed"] ["store","deed"] (a_n p_2):=⟨rfl,rfl,rfl,by decide+kernel,rfl,by decide+kernel,by decide+kernel⟩
theorem p_k {f fA fD CS CO CT CF CM CN CNo:Addr} {fd fdA fdD:FuncData} (F:Fun K "answer_of_one" "answer_of_one" p_2 f fd) (TD:q_B K mg) (ex:o_U K mg CT CF CM CN) (eO:Exc K mg "NoOrder" CNo) (xm:p_D K CT CM CF CN CNo)
 (gA:Gf K mg "answer_to_question" fA fdA ["store","deed"]) (GA:FnOk P w K mg base (CXR P w) 6 fA fdA ["store","deed"] (m_q CS CO CNo CM)) (gD:Gf K mg "do_change" fD fdD ["store","deed"]) (GD:FnOk P w K mg base (CXR P w) 8 fD fdD ["store","deed"] (q_8 CS CO CT CF CM CN)):
 FnOk P w K mg base CX0 9 f fd ["store","deed"] (n_a CS CO):=by
 refine F.ok q_C (λvs H Q E h=> ?_) (λcdv A outer s H vs Q E J h=> ?_)
 ·obtain⟨A,a,d,N,room,sd,s,rfl,_⟩:=h
  rfl
 ·obtain⟨A,a,d,N,room,sd,so,rfl,S,g,M,W,q,I,O,fin⟩:=h
  obtain⟨t0,p⟩:=TD.done;obtain⟨aq,R,L⟩:=TD.qs;have G:Room 6 _:=J.mono (by decide)
  refine⟨_,a_f (p_L (.cons rfl ex.t.at_ (by decide) (λe=>a_f (a_o a_l)) (.cons rfl ex.m.at_ (by decide) (λe=>a_f (a_o a_l)) (.cons rfl ex.f.at_ (by decide) (λe=>a_f (a_o a_l)) (.cons rfl ex.n.at_ (by decide) (λe=>a_f (a_o a_l)) (.cons rfl eO.at_ (by decide) (λe=>a_f (a_o a_l)) .nil)))))
   λpn xe E C=>a_c (a_C (a_m (o_z K) (a_r (a_j K) (pv 1) a_g (λ_ _=>rfl)) (h_p (v:= .ref aq) rfl R rfl) (by with_unfolding_all rfl)) (a_f (a_o (a_k GA G rfl gA.mg gA.kp gA.b .nil C (a_a (pv 0) (a_a (pv 1) a_d))))) a_p)
    (a_c (a_y (a_k GD J rfl gD.mg gD.kp gD.b .nil C (a_a (pv 0) (a_a (pv 1) a_d)))) (a_f (a_o (d_T p))))),?_⟩
  have same0:∀H',Same H H'->∀(x:Str),(so.step room d).2= .str x->(so.step room d).1=so->Q (.str x) H':=λH' s' x T U=>by
   refine fin (.str x) A H' ?_ rfl (Stp.of_same s') (k_K s') ?_ (NewA.str x)
   ·rw[U];exact (S.same s').mono (Nat.le_succ _)
   ·rw[T];exact .str x
  rcases M with i | has
  ·have l:∃x r,H a=some (.tup (.str x::r))∧inV (.str x) [V.str "row",V.str "within",V.str "both",V.str "from",V.str "spot"]=false:=by
    cases d with
    | chg c=>
      cases c with
      | bring ρ=>obtain⟨r,z,Y⟩:=id g;exact⟨"bring",_,z,by decide+kernel⟩
      | alter ρ=>obtain⟨r,z,Y⟩:=id g;exact⟨"alter",_,z,by decide+kernel⟩
      | cut n=>exact⟨"cut",_,g,by decide+kernel⟩
    | begin=>exact⟨"begin",_,g,by decide+kernel⟩
    | keep=>exact⟨"keep",_,g,by decide+kernel⟩
    | brk=>exact⟨"break",_,g,by decide+kernel⟩
    | _=>exact i.elim
   obtain⟨x,r,l,o⟩:=l;refine⟨_,rfl,a,_,_,_,rfl,rfl,SqT.of l,a_e (j:=0) rfl,aq,_,rfl,.inr (L H),rfl,by decide+kernel,_,rfl,?_⟩;rw[if_neg s_e,o];refine i_W ?_;refine⟨_,rfl,_,rfl,A,a,d,N,room,sd,so,rfl,S,g,i,q,I,λB A' H' S' e' F' tk=> ?_, ?_⟩
   ·refine fin (.str "done") A' H' S' e' F' tk ?_ (NewA.str _)
    rw[g_e i,B];exact .str _
   ·have go:∀y:Str,c_u room so d=y->¬ y="done"->Q (.str y) H:=λy e Z=>same0 H (Same.refl H) y (by rw[g_e i,e]) (l_U i (by rw[e];exact Z))
    refine⟨λe=> ?_, λe=> ?_, λe=> ?_, λe=> ?_⟩
    ·exact .inl ⟨xm.tt,go _ e (by decide+kernel)⟩
    ·exact .inr ⟨xm.ft,.inr ⟨xm.fm,.inl ⟨xm.ff,go _ e (by decide+kernel)⟩⟩⟩
    ·exact .inr ⟨xm.mt,.inl ⟨xm.mm,go _ e (by decide+kernel)⟩⟩
    ·exact .inr ⟨xm.nt,.inr ⟨xm.nm,.inr ⟨xm.nf,.inl ⟨xm.nn,go _ e (by decide+kernel)⟩⟩⟩⟩
  ·have l:∃x r,H a=some (.tup (.str x::r))∧inV (.str x) [V.str "row",V.str "within",V.str "both",V.str "from",V.str "spot"]=true:=by
    cases d with
    | row n=>exact⟨"row",_,g,by decide+kernel⟩
    | within x lo hi=>exact⟨"within",_,g,by decide+kernel⟩
    | both lo hi t=>exact⟨"both",_,g,by decide+kernel⟩
    | «from» x k m=>exact⟨"from",_,g,by decide+kernel⟩
    | spot x n=>exact⟨"spot",_,g,by decide+kernel⟩
    | _=>exact has.elim
   obtain⟨x,r,l,o⟩:=l;rw[l_b has] at fin same0;refine⟨_,rfl,a,_,_,_,rfl,rfl,SqT.of l,a_e (j:=0) rfl,aq,_,rfl,.inr (L H),rfl,by decide+kernel,_,rfl,?_⟩;rw[if_neg s_e,o];refine k_S ?_;refine⟨_,rfl,_,rfl,A,a,d,N,room,sd,so,rfl,S,g,has,W,q,I,c_J S.nums O.kept,λv H' s' X u=> ?_, λe=> ?_, λe H' s'=> ?_⟩
   ·exact fin v A H' ((S.same s').mono (Nat.le_succ _)) rfl (Stp.of_same s') (k_K s') X u
   ·exact .inr ⟨xm.mt,.inl ⟨xm.mm,same0 H (Same.refl H) _ e rfl⟩⟩
   ·exact .inr ⟨xm.ot,.inr ⟨xm.om,.inr ⟨xm.of,.inr ⟨xm.on,.inl ⟨xm.oo,same0 H' s' _ e rfl⟩⟩⟩⟩⟩
def m_j (CS CO:Addr):Sp:=λvs H Q _=>∃(A:Ads) (la:Addr) (as:List Addr) (cs:List Chg) (N:Nat) (room sd:Int) (s:Sto),vs= [.ref A.o,.ref la]/\SAt CS CO H A N room s/\H la=some (.lst (as.map V.ref))/\Paired (ChgAt H) as cs/\la∉A.fp/\(∀c∈cs,c.tell sd)/\N+cs.length<=7000/\s.inML sd/\
 p_Z CS CO H A (N+cs.length+1) room Q (s.step room (.all cs))
theorem k_p:a_s ["store","changes","place","answer"] ["store","changes"] (a_n q_z):=⟨rfl,rfl,rfl,by decide+kernel,rfl,by decide+kernel,by decide+kernel⟩
theorem o_g {f fO fBe fKe fBk CS CO CN:Addr} {fd fdO fdBe fdKe fdBk:FuncData} (F:Fun K "all_or_none" "all_or_none" q_z f fd) (TS:e_W K mg CS CO) (TD:q_B K mg) (gO:Gf K mg "answer_of_one" fO fdO ["store","deed"]) (GO:FnOk P w K mg base CX0 9 fO fdO ["store","deed"] (n_a CS CO))
 (mBe:Mf K CS "begin" fBe fdBe ["self"]) (GBe:FnOk P w K mg base CX0 1 fBe fdBe ["self"] (h_m CS CO)) (mKe:Mf K CS "keep" fKe fdKe ["self"]) (GKe:FnOk P w K mg base (CXR P w) 2 fKe fdKe ["self"] (k_b CS CO CN)) (mBk:Mf K CS "break_off" fBk fdBk ["self"]) (GBk:FnOk P w K mg base (CXR P w) 6 fBk fdBk ["self"] (h_a CS CO CN)):
 FnOk P w K mg base CX0 10 f fd ["store","changes"] (m_j CS CO):=by
 refine F.ok k_p (λvs H Q E h=> ?_) (λcdv A outer s H vs Q E U h=> ?_)
 ·obtain⟨A,la,as,cs,N,room,sd,s,rfl,_⟩:=h
  rfl
 ·obtain⟨A,la,as,cs,N,room,sd,so,rfl,S,hla,hC,hnf,htl,hN,R,fin⟩:=h
  obtain⟨t0,p⟩:=TD.done;have hr6:Room 6 _:=U.mono (by decide);have hr2:Room 2 _:=U.mono (by decide);have hr1:Room 1 _:=U.mono (by decide)
  refine⟨_,a_c (a_y (b_A (pv 0) TS.cl mBe.m GBe hr1 mBe.b .nil a_u))
   (a_c (b_Z PassesOwn.never rfl (c_a rfl TD.range (a_a (a_t (a_B K) (by rfl) TD.len s_G (a_a (pv 1) a_d)) a_d)) (b_b (i:=2) k_p.nd rfl (Or.inl rfl))
     (a_c (a_w (i:=3) k_p.nd rfl (Or.inl rfl) (a_k GO U rfl gO.mg gO.kp gO.b .nil a_u (a_a (pv 0) (a_a (a_r (a_G K) (pv 1) (pv 2) (λ_ _=>rfl)) a_d))))
     (a_f (a_C (a_m d_m (pv 3) (d_T p) (a_q _)) (a_c (a_y (b_A (pv 0) TS.cl mBk.m GBk hr6 mBk.b .nil m_a)) (a_f (a_o (a_H (a_a (pv 2) (a_a (pv 3) a_d)))))) a_p))))
   (a_c (a_y (b_A (pv 0) TS.cl mKe.m GKe hr2 mKe.b .nil m_a)) (a_f (a_o (d_T p))))),?_⟩
  obtain⟨fl,dx,hob,hno⟩:=S.ob;refine⟨_,rfl,A.o,dx,_,rfl,hob,hno _ (by decide+kernel) (by decide+kernel) (by decide+kernel) (by decide+kernel) (by decide+kernel) (by decide+kernel),A,N,room,so,rfl,S,by omega,λA0 H0 S0 e0 F0 tk0=> ?_⟩;have hal:=Paired.length hC;have M:∀{g:Ads} {j:Hp},Stp H j A.fp g.fp->j la=some (.lst (as.map V.ref)):=λy=>y.keep _ _ hla hnf;have hn:((((as.map V.ref).length:Nat):Int)).toNat=cs.length:=by rw[r_X];omega
  refine⟨_,rfl,la,_,rfl,.inl (SqL.of (M F0)),_,rfl,by omega,by rw[r_X];omega,b_7 (lo:=0) (n:=((((as.map V.ref).length:Nat):Int)).toNat) (λi σ j=>∃(g:Ads) (d:List Row) (v2 v3:Option V),σ= [some (.ref A.o),some (.ref la),v2,v3]/\SAt CS CO j g (N+1+i) room ⟨d,so.kept::so.marks⟩/\g.o=A.o/\Stp H j A.fp g.fp/\a_N H j/\d_R room so.kept i d (cs.drop i)=d_R room so.kept 0 so.kept cs/\∀x∈d,x.n∈ML sd)
   ⟨A0,so.kept,none,none,rfl,S0,e0,F0,tk0,rfl,R.kept⟩ ?_ ?_⟩
  ·rintro i σ j hi ⟨g,d,v2,v3,rfl,C,l,y,u,B,L⟩
   rw[hn] at hi;obtain⟨c,hc⟩:∃c,cs[i]? =some c:=⟨_,r_Y hi⟩;obtain⟨a,ea,hca⟩:=a_U hC hc;have ga:(as.map V.ref)[i]? =some (V.ref a):=by rw[r_9,ea];rfl
   have gi:atI (as.map V.ref) (0+(i:Int))=some (V.ref a):=by rw[Int.zero_add];exact a_e ga
   have X:=htl c (s_n hc);refine⟨_,rfl,_,rfl,_,rfl,la,_,_,_,rfl,rfl,SqL.of (M y),gi,g,a,.chg c,N+1+i,room,sd,⟨d,so.kept::so.marks⟩,by rw[l];rfl,C,hca.mono u,.inl trivial,trivial,X,by omega,⟨L,λk hk=> ?_⟩,λv A2 H2 S2 e2 F2 tk2 hAn hnew=> ?_⟩
   ·rcases r_8.mp hk with e | e
    ·rw[e];exact R.kept
    ·exact R.marks k e
   have ed:cs.drop i=c::cs.drop (i+1):=by
    rw[List.drop_eq_getElem_cons hi,(s_b.mp hc).2]
   rw[ed] at B;have ev:v= .str (b_g room d c).2:=by cases hAn;rfl
   subst ev;have W:=y.trans F2;have J:a_N H H2:=λb xs e=>tk2 _ _ (u _ _ e);refine⟨_,rfl,rfl,_,rfl,a_x (λq=> ?_) (λq=> ?_)⟩
   ·have hq:¬ (b_g room d c).2="done":=λe=>by rw[e] at q;exact absurd q (by decide+kernel)
    obtain⟨fl2,dx2,I,hno2⟩:=S2.ob;have O:A2.o=A.o:=e2.trans l;rw[O] at I;refine⟨_,rfl,A.o,dx2,_,rfl,I,hno2 _ (by decide+kernel) (by decide+kernel) (by decide+kernel) (by decide+kernel) (by decide+kernel) (by decide+kernel),A2,N+1+i+1,room,_,by rw[O];rfl,S2,by omega,λz=>(by cases z),λk r ek A3 H3 Z Y F3 T=> ?_⟩;cases ek;refine⟨_,rfl,_,rfl,by show 2<=sizeLine;decide,λt ht=> ?_⟩;have s4:=Same.upd_new (o:= .tup [V.int (0+(i:Int)),V.str (b_g room d c).2]) ht
    have eA:so.step room (.all cs)=(so,D.tup [.int (i:Int),.str (b_g room d c).2]):=by
     show (({ so with kept:=(d_R room so.kept 0 so.kept cs).1 }:Sto),(d_R room so.kept 0 so.kept cs).2)=_;rw[<-B];simp only[d_R,if_neg hq]
    rw[eA] at fin;refine fin (.ref t) A3 _ ((Z.same s4).mono (by omega)) (Y.trans O) ((W.trans F3).trans (Stp.of_same s4)) (λb xs e=>s4 _ _ (T _ _ (J _ _ e))) (.pair (by rw[Int.zero_add];exact a_b)) (NewA.tup a_b)
   ·have hq:(b_g room d c).2="done":=by
     cases e:decide ((b_g room d c).2=("done":Str)) with
     | true=>exact s_F e
     | false=>
       exfalso;apply q;have:¬ V.str (b_g room d c).2=V.str "done":=λz=>(of_decide_eq_false e) (by injection z);rw[s_E this];rfl
    refine⟨A2,(b_g room d c).1,_,_,rfl,S2,e2.trans l,W,J,?_, g_Z X L⟩;rw[<-B];simp only[d_R,if_pos hq]
  ·rintro σ j ⟨g,d,v2,v3,rfl,C,l,y,u,B,L⟩
   rw[hn,List.drop_of_length_le (r_6 _)] at B;rw[hn] at C;obtain⟨fl1,dx1,G,hno1⟩:=C.ob;rw[l] at G;refine⟨_,rfl,A.o,dx1,_,rfl,G,hno1 _ (by decide+kernel) (by decide+kernel) (by decide+kernel) (by decide+kernel) (by decide+kernel) (by decide+kernel),g,_,room,_,by rw[l];rfl,C,λz=>(by cases z),λk r ek A3 H3 Z Y F3 T=> ?_⟩;cases ek
   have eA:so.step room (.all cs)=(⟨d,so.marks⟩,D.str "done"):=by
    show (({ so with kept:=(d_R room so.kept 0 so.kept cs).1 }:Sto),(d_R room so.kept 0 so.kept cs).2)=_;rw[<-B];rfl
   rw[eA] at fin;exact fin (.str "done") A3 H3 (Z.mono (by omega)) (Y.trans l) (y.trans F3) (λb xs e=>T _ _ (u _ _ e)) (.str _) (NewA.str _)
end
end K1
namespace TO
open PySem L2
def Deed.wsz:Deed->Nat
 | .all cs=>cs.length
 | _=>0
def tot (ds:List Deed):Nat:=(ds.map λd=>d.wsz+1).sum
theorem h_K (ds:List Deed) (d:Deed):tot (ds++ [d])=tot ds+(d.wsz+1):=by simp[tot]
theorem k_3 (ds:List Deed) (i:Nat):tot (ds.take i)<=tot ds:=by
 have e:tot ds=tot (ds.take i)+tot (ds.drop i):=by
  unfold tot;rw[<-List.sum_append,<-r_5,s_A]
 omega
theorem c_O (room:Int):∀(ds:List Deed) (s:Sto) (d:Deed),s.run room (ds++ [d])=(((s.run room ds).1.step room d).1,(s.run room ds).2++ [((s.run room ds).1.step room d).2])
 | [],s,d=>rfl
 | e::r,s,d=>by
   show (((s.step room e).1.run room (r++ [d])).1,(s.step room e).2::((s.step room e).1.run room (r++ [d])).2)=_;rw[c_O room r];rfl
theorem g_H {room sd:Int}:∀{ds:List Deed} {s:Sto},(∀d∈ds,d.tell sd)->s.inML sd->(s.run room ds).1.inML sd
 | [],s,_,h=>h
 | d::r,s,hd,h=>g_H (ds:=r) (λe he=>hd e (r_0 _ he)) (j_G (hd d (r_1 ..)) h)
end TO
namespace K1
open PySem L2 TO
theorem SAt.mvd {CS CO:Addr} {H H':Hp} {A:Ads} {N:Nat} {room:Int} {s:Sto} (h:SAt CS CO H A N room s) {f:List Addr} (m:Mvd H H' f) (hf:∀b∈f,b∉A.fp):SAt CS CO H' A N room s:=by
 obtain⟨l,st,ms,a,r⟩:=h.ex;exact⟨l,st,ms,a.mvd m hf,r⟩
theorem j_v {H:Hp} {a:Addr} {d:Deed} (h:DeedAt H a d) {la:Addr} (e:H a=some (.tup [.str "all",.ref la])):∃cs as,d= .all cs/\H la=some (.lst (as.map V.ref))/\Paired (ChgAt H) as cs:=by
 have aux:∀{x:Str} {r:List V},H a=some (.tup (.str x::r))->¬ x="all"->False:=λi g=>by
  rw[i] at e;injection e with e
  injection e with e
  injection e with e _
  injection e with e
  exact g e
 cases d with
 | chg c=>
   exfalso;cases c with
   | bring ρ=>obtain⟨r,b,_⟩:=h;exact aux b (by decide+kernel)
   | alter ρ=>obtain⟨r,b,_⟩:=h;exact aux b (by decide+kernel)
   | cut n=>exact aux h (by decide+kernel)
 | all cs=>
   obtain⟨l,as,b,f,j⟩:=h;rw[b] at e;injection e with e
   injection e with e
   injection e with _ e
   injection e with e _
   injection e with e
   subst e;exact⟨cs,as,rfl,f,j⟩
 | begin=>exact (aux h (by decide+kernel)).elim
 | keep=>exact (aux h (by decide+kernel)).elim
 | brk=>exact (aux h (by decide+kernel)).elim
 | row n=>exact (aux h (by decide+kernel)).elim
 | within x lo o=>exact (aux h (by decide+kernel)).elim
 | both lo o t=>exact (aux h (by decide+kernel)).elim
 | «from» x k m=>exact (aux h (by decide+kernel)).elim
 | spot x n=>exact (aux h (by decide+kernel)).elim
section
variable {P:Program} {w:World} {K:PySem.W.Frag} {mg:Str->Option Value} {base:Heap}
def r_g (CS CO:Addr):Sp:=λvs H Q _=>∃(A:Ads) (a:Addr) (d:Deed) (N:Nat) (room sd:Int) (s:Sto),vs= [.ref A.o,.ref a]/\SAt CS CO H A N room s/\DeedAt H a d/\(∀la,H a=some (.tup [.str "all",.ref la])->la∉A.fp)/\d.form/\d.tell sd/\N+d.wsz<=7000/\s.inML sd/\p_Z CS CO H A (N+(d.wsz+1)) room Q (s.step room d)
theorem r_p:a_s ["store","deed"] ["store","deed"] (a_n k_R):=⟨rfl,rfl,rfl,by decide+kernel,rfl,by decide+kernel,by decide+kernel⟩
theorem q_I {f fA fO CS CO:Addr} {fd fdA fdO:FuncData} (F:Fun K "answer_of" "answer_of" k_R f fd) (gA:Gf K mg "all_or_none" fA fdA ["store","changes"]) (GA:FnOk P w K mg base CX0 10 fA fdA ["store","changes"] (m_j CS CO))
 (gO:Gf K mg "answer_of_one" fO fdO ["store","deed"]) (GO:FnOk P w K mg base CX0 9 fO fdO ["store","deed"] (n_a CS CO)):FnOk P w K mg base CX0 11 f fd ["store","deed"] (r_g CS CO):=by
 refine F.ok r_p (λvs H Q E h=> ?_) (λcdv A outer s H vs Q E y h=> ?_)
 ·obtain⟨A,a,d,N,room,sd,s,rfl,_⟩:=h
  rfl
 ·obtain⟨A,a,d,N,room,sd,so,rfl,S,e,u,L,i,C,l,fin⟩:=h
  have v:Room 9 _:=y.mono (by decide)
  refine⟨_,a_c (a_C (a_m a_J (a_r (a_j K) (pv 1) a_g (λ_ _=>rfl)) a_l (a_q _)) (a_f (a_o (a_k GA y rfl gA.mg gA.kp gA.b .nil a_u (a_a (pv 0) (a_a (a_r (a_j K) (pv 1) a_g (λ_ _=>rfl)) a_d))))) a_p)
   (a_f (a_o (a_k GO v rfl gO.mg gO.kp gO.b .nil a_u (a_a (pv 0) (a_a (pv 1) a_d))))),?_⟩
  have B:(∃cs,d= .all cs)\/∃(x:Str) (r:List V),H a=some (.tup (.str x::r))/\¬ x="all"/\(d.plain\/d.asks)/\d.wsz=0:=by
   cases d with
   | all cs=>exact .inl ⟨cs,rfl⟩
   | chg c=>
     cases c with
     | bring ρ=>obtain⟨r,g,_⟩:=id e;exact .inr ⟨_,_,g,by decide+kernel,.inl trivial,rfl⟩
     | alter ρ=>obtain⟨r,g,_⟩:=id e;exact .inr ⟨_,_,g,by decide+kernel,.inl trivial,rfl⟩
     | cut n=>exact .inr ⟨_,_,e,by decide+kernel,.inl trivial,rfl⟩
   | begin=>exact .inr ⟨_,_,e,by decide+kernel,.inl trivial,rfl⟩
   | keep=>exact .inr ⟨_,_,e,by decide+kernel,.inl trivial,rfl⟩
   | brk=>exact .inr ⟨_,_,e,by decide+kernel,.inl trivial,rfl⟩
   | row n=>exact .inr ⟨_,_,e,by decide+kernel,.inr trivial,rfl⟩
   | within x lo M=>exact .inr ⟨_,_,e,by decide+kernel,.inr trivial,rfl⟩
   | both lo M t=>exact .inr ⟨_,_,e,by decide+kernel,.inr trivial,rfl⟩
   | «from» x k m=>exact .inr ⟨_,_,e,by decide+kernel,.inr trivial,rfl⟩
   | spot x n=>exact .inr ⟨_,_,e,by decide+kernel,.inr trivial,rfl⟩
  rcases B with⟨cs,rfl⟩ | ⟨x,r,J,p,o,G⟩
  ·obtain⟨la,as,g,I,O⟩:=id e
   refine⟨_,rfl,a,_,_,_,rfl,rfl,SqT.of g,a_e (j:=0) rfl,rfl,_,rfl,a_x (λ_=> ?_) (λq=>absurd (s_D rfl) q)⟩;exact⟨_,rfl,_,rfl,a,_,_,_,rfl,rfl,SqT.of g,a_e (j:=1) rfl,A,la,as,cs,N,room,sd,so,rfl,S,I,O,u la g,i,C,l,fin⟩
  ·refine⟨_,rfl,a,_,_,_,rfl,rfl,SqT.of J,a_e (j:=0) rfl,rfl,_,rfl,a_x (λq=>absurd (s_F q) (λz=>p (by injection z))) (λ_=> ?_)⟩
   refine⟨_,rfl,_,rfl,A,a,d,N,room,sd,so,rfl,S,e,o,L,i,by omega,l,?_⟩;rw[G] at fin;exact fin
theorem Ans.more {H:Hp} {f:List Addr} {d:D} {v:V} {lf:Addr} (h:Ans H f d v) (hl:∀t xs,v= .ref t->H t=some (.lst xs)->t≠lf):Ans H (lf::f) d v:=by
 cases h with
 | str x=>exact .str x
 | int x=>exact .int x
 | row h=>exact .row h
 | pair h=>exact .pair h
 | rows h hn=>
   refine .rows h λa=> ?_;rcases r_8.mp a with q | q
   ·obtain⟨as',b,_⟩:=h
    exact hl _ _ rfl b q
   ·exact hn q
theorem b_W {H:Hp} {f:List Addr}:∀{ds:List D} {vs:List V},Paired (Ans H f) ds vs->BearsL H ds vs
 | _,_,.nil=> .nil
 | _,_,.cons h t=> .cons h.bears (b_W t)
theorem d_H {H H':Hp} {f f':List Addr} (S:Stp H H' f f') (tk:a_N H H'):∀{ds:List D} {vs:List V},Paired (Ans H f) ds vs->Paired (Ans H' f') ds vs
 | _,_,.nil=> .nil
 | _,_,.cons h t=> .cons (h.mov S tk) (d_H S tk t)
def q_F (CS CO:Addr):Sp:=λvs H Q _=>∃(H0:Hp) (A:Ads) (ld:Addr) (as:List Addr) (ds:List Deed) (N:Nat) (room sd:Int) (s:Sto),vs= [.ref A.o,.ref ld]/\SAt CS CO H A N room s/\Same H0 H/\(∀b∈A.fp,H0 b=none)/\H0 ld=some (.lst (as.map V.ref))/\Paired (DeedAt H0) as ds/\
 (∀d∈ds,d.form/\d.tell sd)/\N+tot ds<=6000/\ds.length<=5000/\s.inML sd/\
 ∀(lf:Addr) (vs':List V) (A':Ads) (H':Hp),H0 lf=none->Same H0 H'->H' lf=some (.lst vs')->BearsL H' (s.run room ds).2 vs'->SAt CS CO H' A' (N+tot ds) room (s.run room ds).1->A'.o=A.o->(∀b∈A'.fp,H0 b=none)->lf∉A'.fp->Q (.ref lf) H'
theorem q_T:a_s ["store","deeds","found","deed"] ["store","deeds"] (a_n k_e):=⟨rfl,rfl,rfl,by decide+kernel,rfl,by decide+kernel,by decide+kernel⟩
theorem q_E {f fO CS CO:Addr} {fd fdO:FuncData} (F:Fun K "answers_in" "answers_in" k_e f fd) (gO:Gf K mg "answer_of" fO fdO ["store","deed"]) (GO:FnOk P w K mg base CX0 11 fO fdO ["store","deed"] (r_g CS CO)):FnOk P w K mg base CX0 12 f fd ["store","deeds"] (q_F CS CO):=by
 refine F.ok q_T (λvs H Q E h=> ?_) (λcdv A outer s H vs Q E hr h=> ?_)
 ·obtain⟨x,A,ld,as,ds,N,room,sd,s,rfl,_⟩:=h
  rfl
 ·obtain⟨x,A,ld,as,ds,N,room,sd,so,rfl,S,s0,hfp,W,hD,X,hN,hlen,hml,fin⟩:=h
  refine⟨_,a_c (a_w (i:=2) q_T.nd rfl (Or.inl rfl) (a_P a_d))
   (a_c (b_Z PassesOwn.never rfl (a_T K (pv 1)) (b_b (i:=3) q_T.nd rfl (Or.inl rfl)) (a_f (a_y (b_x s_H s_J s_I a_O (pv 2) (a_a (a_k GO hr rfl gO.mg gO.kp gO.b .nil a_u (a_a (pv 0) (a_a (pv 3) a_d))) a_d)))))
   (a_f (a_o (pv 2)))),?_⟩
  refine⟨by show 0<=sizeLine;decide,λlf I=> ?_⟩;have s1:Same H (upd H lf (.lst [])):=Same.upd_new I;have hal:=Paired.length hD;have M:x lf=none:=s0.free I;have lfA:lf∉A.fp:=λr=>by obtain⟨u,q,_⟩:=S.fpin lf r;rw[I] at q;cases q
  refine⟨_,rfl,ld,rfl,⟨_,SqL.of (s1 _ _ (s0 _ _ W))⟩,b_X (K:=K) (a:=ld) (xs:=as.map V.ref) (λi σ j=>∃(g:Ads) (vs:List V) (v3:Option V),σ= [some (.ref A.o),some (.ref ld),some (.ref lf),v3]/\SAt CS CO j g (N+tot (ds.take i)) room (so.run room (ds.take i)).1/\g.o=A.o/\Same x j/\(∀b∈g.fp,x b=none)/\lf∉g.fp/\j lf=some (.lst vs)/\vs.length=i/\Paired (Ans j (lf::g.fp)) (so.run room (ds.take i)).2 vs)
   ⟨A, [],none,rfl,S.same s1,rfl,s0.trans s1,hfp,lfA,a_b,rfl,.nil⟩ (λi σ j _ ⟨_,_,_,_,_,_,s',_⟩=>SqL.of (s' _ _ W)) ?_ ?_⟩
  ·rintro i v σ j R ⟨g,vs,v3,rfl,T,B,k,n,z,l,J,y⟩
   rw[r_9] at R;cases ea:as[i]? with
   | none=>rw[ea] at R;cases R
   | some a=>
     rw[ea] at R;obtain rfl:V.ref a=v:=r_4 R;have hil:=(s_b.mp ea).1;obtain⟨d,hd⟩:∃d,ds[i]? =some d:=⟨_,r_Y (by omega)⟩;obtain⟨a',e',G⟩:=a_U hD hd;rw[ea] at e';obtain rfl:a=a':=r_4 e';obtain⟨hdf,hdt⟩:=X d (s_n hd);have et:ds.take (i+1)=ds.take i++ [d]:=by rw[s_o,hd];rfl
     have a1:=k_3 ds (i+1);rw[et,h_K] at a1;have hda1:DeedAt j a d:=DeedAt.same k G;have ml1:(so.run room (ds.take i)).1.inML sd:=g_H (λe he=>(X e (List.mem_of_mem_take he)).2) hml;refine⟨_,rfl,.inl ⟨rfl,_,SqL.of l⟩,_,rfl,_,rfl,g,a,d,N+tot (ds.take i),room,sd,_,by rw[B];rfl,T,hda1,λla hla r=> ?_, hdf,hdt,by omega,ml1,λu C p S2 e2 O tk2 hAn a0=> ?_⟩
     ·obtain⟨xs,hx⟩:=G.head
      have U:=k _ _ hx;rw[hla] at U;have hx0:x a=some (.tup [.str "all",.ref la]):=by rw[hx];exact U.symm
      obtain⟨cs,as',_,Z,_⟩:=j_v G hx0;rw[n la r] at Z;cases Z
     ·have L:p lf=some (.lst vs):=O.keep _ _ l z
      have Y:lf∉C.fp:=λr=>by
       rcases O.new _ r with q | q
       ·exact z q
       ·rw[l] at q;cases q
      have sm2:Same x p:=λb u c=>O.keep _ _ (k _ _ c) λr=>by rw[n b r] at c;cases c
      have fp2:∀b∈C.fp,x b=none:=λb c=>by
       rcases O.new b c with q | q
       ·exact n b q
       ·exact k.free q
      have F3:Stp j p (lf::g.fp) (lf::C.fp):=O.wide (λb c=>r_0 _ c) λb c=>by
       rcases r_8.mp c with q | q
       ·exact .inl (by rw[q];exact r_1 ..)
       ·exact .inr q
      have tk4:a_N p (upd p lf (.lst (vs++ [u]))):=λb xs e=>by rw[a_i (λq=>by rw[q,L] at e;cases e)];exact e
      have F4:Stp p (upd p lf (.lst (vs++ [u]))) (lf::C.fp) (lf::C.fp):=⟨λb u' e hn=>by rw[a_i λq=>hn (by rw[q];exact r_1 ..)];exact e,λb c=> .inl c⟩
      have hAn2:=hAn.more (lf:=lf) λt xs B e2 q=>by
       have:=a0 t xs B e2;rw[q,l] at this;cases this
      refine⟨lf,_,_,rfl,rfl,L,by rw[J];exact s_C (m:=5000) (by omega) (by decide),C,vs++ [u],_,rfl,?_, e2.trans B,?_, fp2,Y,a_b,by simp[J],?_⟩
      ·rw[et,c_O,h_K,<-Nat.add_assoc]
       exact S2.mvd (f:= [lf]) ⟨λb u' e hn=>by rw[a_i λq=>hn (by rw[q];exact r_2.mpr rfl)];exact e,λb c u' e=>by rw[r_2.mp c,L] at e;exact .inl ⟨_,(r_4 e).symm⟩⟩ λb c=>by rw[r_2.mp c];exact Y
      ·exact λb u' c=>by rw[a_i (a_h c M)];exact sm2 _ _ c
      ·rw[et,c_O]
       exact d_H F4 tk4 (a_D (d_H F3 tk2 y) (.cons hAn2 .nil))
  ·rintro σ j ⟨g,vs,v3,rfl,T,B,k,n,z,l,J,y⟩
   rw[r_X,hal,s_h (r_6 _)] at T y;exact⟨_,rfl,fin lf vs g j M k l (b_W y) T B n z⟩
def f_Y:Sp:=λvs H Q _=>∃(room sd:Int) (ld:Addr) (as:List Addr) (ds:List Deed),vs= [.int room,.ref ld]/\H ld=some (.lst (as.map V.ref))/\Paired (DeedAt H) as ds/\(∀d∈ds,d.form/\d.tell sd)/\tot ds<=6000/\ds.length<=5000/\
 ∀(lf:Addr) (vs':List V) (H':Hp),H lf=none->Same H H'->H' lf=some (.lst vs')->BearsL H' ((⟨[], []⟩:Sto).run room ds).2 vs'->Q (.ref lf) H'
theorem k_H:a_s ["room","deeds"] ["room","deeds"] (a_n f_x):=⟨rfl,rfl,rfl,by decide+kernel,rfl,by decide+kernel,by decide+kernel⟩
theorem g_t {H H':Hp} {p dx C:Addr} (hp:H p=none) (hd:H dx=none) (kp:∀b u,(upd (upd H dx (.own p)) p (.ins C dx [])) b=some u->b≠p->H' b=some u):Same H H':=λb u hb=>
 kp b u (by rw[a_i (a_h hb hp),a_i (a_h hb hd)];exact hb) (a_h hb hp)
theorem g_l {H:Hp} {p dx C b:Addr} (hp:H p=none) (hd:H dx=none) (h:b=p\/(upd (upd H dx (.own p)) p (.ins C dx [])) b=none):H b=none:=by
 rcases h with e | e
 ·rw[e];exact hp
 ·cases q:H b with
  | none=>rfl
  | some u=>rw[a_i (a_h q hp),a_i (a_h q hd),q] at e;cases e
theorem i_T {f fN fI CS CO:Addr} {fd fdN fdI:FuncData} (F:Fun K "answers" "answers" f_x f fd) (TS:e_W K mg CS CO) (M:Mk K CS fI) (bI:Binds K fdI ["self","room"] []) (GI:FnOk P w K mg base CX0 4 fI fdI ["self","room"] (g_9 CS CO))
 (gN:Gf K mg "answers_in" fN fdN ["store","deeds"]) (GN:FnOk P w K mg base CX0 12 fN fdN ["store","deeds"] (q_F CS CO)):FnOk P w K mg base CX0 13 f fd ["room","deeds"] f_Y:=by
 refine F.ok k_H (λvs H Q E h=> ?_) (λcdv A outer s H vs Q E i h=> ?_)
 ·obtain⟨room,sd,ld,as,ds,rfl,_⟩:=h
  rfl
 ·obtain⟨room,sd,ld,as,ds,rfl,c,t,d,z,a,fin⟩:=h
  have g:Room 5 _:=i.mono (by decide);refine⟨_,a_f (a_o (a_k GN i rfl gN.mg gN.kp gN.b .nil a_u (a_a (f_T M GI g rfl TS.mgS bI .nil a_u (a_a (pv 0) a_d)) (a_a (pv 1) a_d)))),?_⟩;refine⟨_,rfl,λp dx np nd ne=>⟨p,dx,room,rfl,a_b,λA' B S e u kp=>⟨rfl,?_⟩⟩⟩;have m:=g_t np nd kp;refine⟨_,rfl,H,A',ld,as,ds,0,room,sd,⟨[], []⟩,by rw[e];rfl,S,m,λb o=>g_l np nd (u b o),c,t,d,by omega,a,⟨λx r=>(by cases r),λk v=>(by cases v)⟩,λlf vs' C l n q y j _ _ _ _=>fin lf vs' l n q y j⟩
def atF (ns:List Int) (k:Int):Int:=if ns= [] then 0 else ns.getD (k % (ns.length:Int)).toNat 0+3 * (k / (ns.length:Int))
def o_e (K:PySem.W.Frag):Sp:=λvs H Q _=>∃(a:Addr) (ns:List Int) (k:Int),vs= [.ref a,.int k]/\SqL K H a (ns.map V.int)/\ns.length<=1000/\0<=k/\k < 2 ^ 60/\∀H',Same H H'->Q (.int (atF ns k)) H'
theorem p_A {f:Addr} {fd:FuncData} (F:Fun K "_law_at" "_law_at" sAt f fd) (B:Bt mg):FnOk P w K mg base CX0 1 f fd ["_law_script","_law_k"] (o_e K):=by
 refine F.ok r_O (λvs H Q E h=> ?_) (λcdv A outer s H vs Q E q h=> ?_)
 ·obtain⟨a,ns,k,rfl,_⟩:=h
  rfl
 ·obtain⟨a,ns,k,rfl,d,y,v,u,fin⟩:=h
  have o:=q.units0
  refine⟨_,(a_c (a_C (a_m (h_6 o) (pv 0) (a_P a_d) (a_q _)) (a_f (a_o a_g)) a_p)
   (a_f (a_o (a_v a_V (a_r (a_G K) (pv 0) (a_v a_S (pv 1) (a_t (a_B K) (by rfl) B.len s_G (a_a (pv 0) a_d))) (λ_ _=>rfl)) (a_v b_H a_g (a_v a_3 (pv 1) (a_t (a_B K) (by rfl) B.len s_G (a_a (pv 0) a_d)))))))),?_⟩
  refine⟨_,rfl,by show 0<=sizeLine;decide,λn m=> ?_⟩;have c:Same H (upd H n (.lst [])):=Same.upd_new m;refine⟨a,n,_,rfl,rfl,c.seq d,a_b,_,rfl,?_⟩;cases ns with
  | nil=>exact fin _ c
  | cons z r=>
    refine i_W ?_;have b:((((z::r).map V.int).length:Nat):Int)=((z::r).length:Int):=by simp
    have e:(0:Int) < ((((z::r).map V.int).length:Nat):Int):=by rw[b];simp
    have t:((((z::r).map V.int).length:Nat):Int) < 1073741824:=by rw[b];omega
    have p:atI ((z::r).map V.int) (k % ((((z::r).map V.int).length:Nat):Int))=some (.int ((z::r).getD (k % ((z::r).length:Int)).toNat 0)):=by
     have x:=Int.emod_nonneg k (show ((((z::r).map V.int).length:Nat):Int)≠0 by omega);have l:=Int.emod_lt_of_pos k e;obtain⟨j,hj⟩:∃j:Nat,k % ((((z::r).map V.int).length:Nat):Int)=(j:Int):=⟨(k % ((((z::r).map V.int).length:Nat):Int)).toNat,by omega⟩;have g:j < (z::r).length:=by rw[b] at l hj;omega
     have i:(k % ((z::r).length:Int)).toNat=j:=by rw[<-b,hj];rfl
     rw[hj,i];exact a_e (by rw[r_9,s_g,r_Y g];rfl)
    refine⟨_,rfl,_,rfl,_,rfl,a,_,rfl,.inl (c.seq d),_,_,rfl,rfl,e,?_⟩;refine⟨a,_,_,_,rfl,rfl,c.seq d,p,?_⟩;refine⟨_,rfl,_,rfl,a,_,rfl,.inl (c.seq d),_,_,rfl,rfl,⟨e,t⟩,_,_,rfl,rfl,.inl ⟨by decide,by decide⟩,_,_,rfl,rfl,?_⟩;have:=fin _ c;unfold atF at this;rw[if_neg (by simp)] at this;rw[b];exact this
def o_J (K:PySem.W.Frag):Sp:=λvs H Q _=>∃(a:Addr) (ns:List Int) (k:Int),vs= [.ref a,.int k]/\SqL K H a (ns.map V.int)/\ns.length<=1000/\0<=k/\k < 2 ^ 60/\∀i H',Same H H'->Q (.int i) H'
theorem o_8 {f:Addr} {fd:FuncData} (G:FnOk P w K mg base CX0 1 f fd ["_law_script","_law_k"] (o_e K)):FnOk P w K mg base CX0 1 f fd ["_law_script","_law_k"] (o_J K):=
 G.imp λvs H Q E ⟨a,ns,k,e,ha,hl,h0,h1,fin⟩=>⟨a,ns,k,e,ha,hl,h0,h1,λH' s=>fin _ H' s⟩
def e_Y:Sp:=λvs H Q _=>∃(y n c:Int),vs= [.int y,.int n,.int c]/\-1<=n/\n<=25/\∀(a:Addr) (ch:Chg) (H':Hp),H a=none->Same H H'->ChgAt H' a ch->ch.short->Q (.ref a) H'
theorem i_F:a_s ["_law_way","_law_number","_law_cell"] ["_law_way","_law_number","_law_cell"] (a_n e_n):=⟨rfl,rfl,rfl,by decide+kernel,rfl,by decide+kernel,by decide+kernel⟩
theorem h_h {f fFar fDr:Addr} {fd fdFar fdDr:FuncData} (F:Fun K "_law_change_of" "_law_change_of" e_n f fd) (gFar:Gf K mg "_law_far" fFar fdFar ["_law_number"]) (GFar:FnOk P w K mg base CX0 1 fFar fdFar ["_law_number"] k_L)
 (gDr:Gf K mg "_law_drawn_row" fDr fdDr ["_law_number","_law_cell"]) (GDr:FnOk P w K mg base CX0 2 fDr fdDr ["_law_number","_law_cell"] h_t):FnOk P w K mg base CX0 3 f fd ["_law_way","_law_number","_law_cell"] e_Y:=by
 refine F.ok i_F (λvs H Q E h=> ?_) (λcdv A outer s H vs Q E g h=> ?_)
 ·obtain⟨y,n,c,rfl,_⟩:=h
  rfl
 ·obtain⟨y,n,c,rfl,k,l,fin⟩:=h
  have i:Room 1 _:=g.mono (by decide);have m:Room 2 _:=g.mono (by decide)
  refine⟨_,(a_c (a_C (a_m e_R (a_v a_S (pv 0) a_g) a_g (a_q _)) (a_f (a_o (a_H (a_a a_l (a_a (a_k GDr m rfl gDr.mg gDr.kp gDr.b .nil a_u (a_a (a_k GFar i rfl gFar.mg gFar.kp gFar.b .nil a_u (a_a (pv 1) a_d)) (a_a (pv 2) a_d))) a_d))))) a_p)
   (a_c (a_C (a_m a_J (a_v a_S (pv 0) a_g) a_g (a_q _)) (a_f (a_o (a_H (a_a a_l (a_a (a_k GDr m rfl gDr.mg gDr.kp gDr.b .nil a_u (a_a (a_k GFar i rfl gFar.mg gFar.kp gFar.b .nil a_u (a_a (pv 1) a_d)) (a_a (pv 2) a_d))) a_d))))) a_p)
   (a_f (a_o (a_H (a_a a_l (a_a (a_k GFar i rfl gFar.mg gFar.kp gFar.b .nil a_u (a_a (pv 1) a_d)) a_d))))))),?_⟩
  refine⟨_,rfl,_,_,rfl,rfl,(show (0:Int) < 5 by decide),_,_,rfl,rfl,_,rfl,?_⟩;refine a_x (λ_=> ?_) (λ_=> ?_)
  ·refine⟨_,rfl,_,rfl,λp e=>⟨_,rfl,_,_,rfl,λr ρ q t j g en o=>⟨by show 2<=sizeLine;decide,λa d=> ?_⟩⟩⟩
   exact fin a (.bring ρ) _ (e.free (j.free d)) ((e.trans j).trans (Same.upd_new d)) ⟨r,a_b,Same.upd_new d _ _ g⟩ ⟨o,by rw[en];exact h_R k l⟩
  refine⟨_,rfl,_,_,rfl,rfl,(show (0:Int) < 5 by decide),rfl,_,rfl,?_⟩;refine a_x (λ_=> ?_) (λ_=> ?_)
  ·refine⟨_,rfl,_,rfl,λp e=>⟨_,rfl,_,_,rfl,λr ρ q t j g en o=>⟨by show 2<=sizeLine;decide,λa d=> ?_⟩⟩⟩
   exact fin a (.alter ρ) _ (e.free (j.free d)) ((e.trans j).trans (Same.upd_new d)) ⟨r,a_b,Same.upd_new d _ _ g⟩ ⟨o,by rw[en];exact h_R k l⟩
  refine⟨_,rfl,_,rfl,λp e=>⟨by show 2<=sizeLine;decide,λa d=> ?_⟩⟩;exact fin a (.cut (far n)) _ (e.free d) (e.trans (Same.upd_new d)) a_b (h_R k l)
structure DNew (H H':Hp) (a:Addr) (d:Deed):Prop where
 new:H a=none
 same:Same H H'
 at_:DeedAt H' a d
 form:d.form
 short:d.short
 inn:∀l',H' a=some (.tup [.str "all",.ref l'])->H l'=none
theorem b_e {H':Hp} {H:Hp} {a:Addr} {x:Str} {r:List V} (e:H' a=some (.tup (.str x::r))) (hx:¬ x="all"):∀l',H' a=some (.tup [.str "all",.ref l'])->H l'=none:=λl' e'=>by
 rw[e] at e';injection e' with e'
 injection e' with e'
 injection e' with e1 _
 injection e1 with e1
 exact absurd e1 hx
def d_L:Sp:=λvs H Q _=>∃(y n c:Int),vs= [.int y,.int n,.int c]/\-1000<=n/\n<=1000/\∀(a:Addr) (d:Deed) (H':Hp),DNew H H' a d->d.asks->Q (.ref a) H'
theorem l_N (z:Int):∃x:Str,atI [V.str "rank",V.str "text",V.str "rank",V.str "text",V.str "ranks"] (z % 5)=some (.str x)/\c_r x:=by
 rcases (show z % 5=0\/z % 5=1\/z % 5=2\/z % 5=3\/z % 5=4 by omega) with e | e | e | e | e <;> rw[e]
 ·exact⟨_,a_e (j:=0) rfl,.inl rfl⟩
 ·exact⟨_,a_e (j:=1) rfl,.inr (.inl rfl)⟩
 ·exact⟨_,a_e (j:=2) rfl,.inl rfl⟩
 ·exact⟨_,a_e (j:=3) rfl,.inr (.inl rfl)⟩
 ·exact⟨_,a_e (j:=4) rfl,.inr (.inr rfl)⟩
theorem n_R (i j k z:Int):∃v:Int,atI [V.int i,V.int j,V.int k] (z % 3)=some (.int v):=by
 rcases (show z % 3=0\/z % 3=1\/z % 3=2 by omega) with e | e | e <;> rw[e]
 ·exact⟨_,a_e (j:=0) rfl⟩
 ·exact⟨_,a_e (j:=1) rfl⟩
 ·exact⟨_,a_e (j:=2) rfl⟩
theorem o_a (i j z:Int) (hi:0<=i) (hj:0<=j):∃v:Int,atI [V.int i,V.int j] (z % 3 / 2)=some (.int v)/\0<=v:=by
 rcases (show z % 3 / 2=0\/z % 3 / 2=1 by omega) with e | e <;> rw[e]
 ·exact⟨_,a_e (j:=0) rfl,hi⟩
 ·exact⟨_,a_e (j:=1) rfl,hj⟩
theorem c_H:a_s ["_law_way","_law_number","_law_cell","_law_word","_law_high"] ["_law_way","_law_number","_law_cell"] (a_n c_W):=⟨rfl,rfl,rfl,by decide+kernel,rfl,by decide+kernel,by decide+kernel⟩
theorem f_m {f fFar fTx:Addr} {fd fdFar fdTx:FuncData} (F:Fun K "_law_question_of" "_law_question_of" c_W f fd) (gFar:Gf K mg "_law_far" fFar fdFar ["_law_number"]) (GFar:FnOk P w K mg base CX0 1 fFar fdFar ["_law_number"] k_L)
 (gTx:Gf K mg "_law_texts" fTx fdTx []) (GTx:FnOk P w K mg base CX0 1 fTx fdTx [] g_Y):FnOk P w K mg base CX0 2 f fd ["_law_way","_law_number","_law_cell"] d_L:=by
 refine F.ok c_H (λvs H Q E h=> ?_) (λcdv A outer s H vs Q E hr h=> ?_)
 ·obtain⟨y,n,c,rfl,_⟩:=h
  rfl
 ·obtain⟨y,n,c,rfl,z,B,fin⟩:=h
  have k:Room 1 _:=hr.mono (by decide)
  refine⟨_,(a_c (a_w (i:=3) c_H.nd rfl (Or.inl rfl) (a_r (a_G K) (a_P (a_a a_l (a_a a_l (a_a a_l (a_a a_l (a_a a_l a_d)))))) (a_v a_S (a_v a_V (a_v a_3 (pv 2) a_g) (pv 0)) a_g) (λ_ _=>rfl)))
   (a_c (a_C (a_m a_J (pv 0) a_g (a_q _)) (a_f (a_o (a_H (a_a a_l (a_a (a_k GFar k rfl gFar.mg gFar.kp gFar.b .nil a_u (a_a (pv 1) a_d)) a_d))))) a_p)
   (a_c (a_C (PW.pt (e_O (a_m a_J (pv 0) a_g (a_q _)) (c_X (a_m a_J (pv 3) a_l (a_q _))))) (a_f (a_o (a_H (a_a a_l (a_a (pv 3) (a_a (a_r (a_G K) (d_d GTx k rfl gTx.mg gTx.kp gTx.b .nil a_u) (a_v a_S (pv 2) a_g) (λ_ _=>rfl)) (a_a (a_r (a_G K) (d_d GTx k rfl gTx.mg gTx.kp gTx.b .nil a_u) (a_v a_S (a_v a_3 (pv 2) a_g) a_g) (λ_ _=>rfl)) a_d))))))) a_p)
   (a_c (a_C (a_m a_J (pv 0) a_g (a_q _)) (a_f (a_o (a_H (a_a a_l (a_a (pv 3) (a_a (a_v b_S (a_v a_S (pv 2) a_g) a_g) (a_a (a_v a_V (a_v b_S (a_v a_S (pv 2) a_g) a_g) (a_v a_S (a_v a_3 (pv 2) a_g) a_g)) a_d))))))) a_p)
   (a_c (a_C (a_m a_J (pv 0) a_g (a_q _)) (a_c (a_w (i:=4) c_H.nd rfl (Or.inl rfl) (a_r (a_G K) (a_P (a_a a_g (a_a a_g (a_a a_g a_d)))) (a_v a_S (pv 1) a_g) (λ_ _=>rfl)))
   (a_f (a_o (a_H (a_a a_l (a_a (a_v b_S (a_v a_S (pv 2) a_g) a_g) (a_a (pv 4) (a_a (a_r (a_G K) (d_d GTx k rfl gTx.mg gTx.kp gTx.b .nil a_u) (a_v a_S (a_v a_3 (pv 2) a_g) a_g) (λ_ _=>rfl)) a_d)))))))) a_p)
   (a_c (a_C (a_m a_J (pv 0) a_g (a_q _)) (a_f (a_o (a_H (a_a a_l (a_a (pv 3) (a_a (a_v b_S (pv 1) a_g) (a_a (a_r (a_G K) (a_P (a_a (a_v a_S (pv 2) a_g) (a_a (a_v a_S (a_v a_3 (pv 2) a_g) a_g) a_d))) (a_v a_3 (a_v a_S (pv 2) a_g) a_g) (λ_ _=>rfl)) a_d))))))) a_p)
   (a_f (a_o (a_H (a_a a_l (a_a (pv 3) (a_a (a_k GFar k rfl gFar.mg gFar.kp gFar.b .nil a_u (a_a (pv 1) a_d)) a_d)))))))))))),?_⟩
  obtain⟨x,Z,l⟩:=l_N (c / 16+y);refine⟨by show 5<=sizeLine;decide,λL M=> ?_⟩;have j:Same H (upd H L (.lst [V.str "rank",V.str "text",V.str "rank",V.str "text",V.str "ranks"])):=Same.upd_new M;refine⟨_,rfl,_,_,rfl,rfl,⟨by decide,by decide⟩,_,rfl,_,_,rfl,rfl,_,_,rfl,rfl,(show (0:Int) < 5 by decide),L,_,_,_,rfl,rfl,SqL.of a_b,Z,?_⟩;refine⟨_,rfl,rfl,_,rfl,?_⟩;refine a_x (λ_=> ?_) (λ_=> ?_)
  ·refine⟨_,rfl,_,rfl,λJ g=>⟨by show 2<=sizeLine;decide,λa d=> ?_⟩⟩
   exact fin a (.row (far n)) _ ⟨j.free (g.free d),(j.trans g).trans (Same.upd_new d),a_b,trivial,h_V z B,b_e a_b (by decide+kernel)⟩ trivial
  refine⟨_,rfl,rfl,_,rfl,?_⟩;by_cases R:y=1
  ·have dy:decide (V.int y=V.int 1)=true:=by rw[R];exact s_D rfl
   refine a_x (λ_=> ?_) (λq=>absurd dy q);refine⟨_,rfl,rfl,_,rfl,?_⟩;refine a_x (λq=> ?_) (λq=> ?_)
   ·obtain⟨t1,T,l1⟩:=h_4 c
    obtain⟨S,X,Y⟩:=h_4 (c / 3);refine⟨_,rfl,rfl,λla J O g I=>⟨_,rfl,_,_,rfl,rfl,(show (0:Int) < 6 by decide),la,_,_,_,rfl,rfl,SqL.of I,T,rfl,λlb U hlb p m=>⟨_,rfl,_,_,rfl,rfl,⟨by decide,by decide⟩,_,_,rfl,rfl,(show (0:Int) < 6 by decide),lb,_,_,_,rfl,rfl,SqL.of m,X,by show 4<=sizeLine;decide,λa d=> ?_⟩⟩⟩;have r:x="text":=by have:=s_F q;injection this
    refine fin a (.within x (.str t1) (.str S)) _ ⟨j.free (g.free (p.free d)),((j.trans g).trans p).trans (Same.upd_new d),a_b,?_, ⟨λs e=>by cases e;exact l1,λs e=>by cases e;exact Y⟩,b_e a_b (by decide+kernel)⟩ trivial;show b_v x _ _/\c_r x;rw[b_v,if_pos r];exact⟨⟨_,_,rfl,rfl⟩,l⟩
   ·have r:¬ x="text":=λe=>q (by rw[e];exact s_D rfl)
    refine⟨_,rfl,rfl,_,rfl,?_⟩;refine a_x (λ_=> ?_) (λq=>absurd dy q);refine⟨_,rfl,_,rfl,_,_,rfl,rfl,(show (0:Int) < 9 by decide),_,_,rfl,rfl,_,rfl,_,_,rfl,rfl,(show (0:Int) < 9 by decide),_,_,rfl,rfl,_,rfl,_,_,rfl,rfl,⟨by decide,by decide⟩,_,_,rfl,rfl,(show (0:Int) < 7 by decide),_,_,rfl,rfl,by show 4<=sizeLine;decide,λa d=> ?_⟩;refine fin a (.within x (.int (c % 9 - 4)) (.int (c % 9 - 5+c / 9 % 7))) _ ⟨j.free d,j.trans (Same.upd_new d),a_b,?_, ⟨λs e=>(by cases e),λs e=>(by cases e)⟩,b_e a_b (by decide+kernel)⟩ trivial;show b_v x _ _/\c_r x;rw[b_v,if_neg r];exact⟨⟨_,_,rfl,rfl⟩,l⟩
  ·have dy:¬ decide (V.int y=V.int 1)=true:=λq=>R (by have:=s_F q;injection this)
   refine a_x (λq=>absurd q dy) (λ_=>i_W ?_);refine⟨_,rfl,rfl,_,rfl,?_⟩;refine a_x (λq=>absurd q dy) (λ_=> ?_);refine⟨_,rfl,rfl,_,rfl,?_⟩;refine a_x (λ_=> ?_) (λ_=> ?_)
   ·obtain⟨v,G⟩:=n_R 1 5 1000000000000 n
    obtain⟨t,W,lt⟩:=h_4 (c / 9);refine⟨by show 3<=sizeLine;decide,λC u=> ?_⟩;have g:=Same.upd_new (o:= .lst [V.int 1,V.int 5,V.int 1000000000000]) u;refine⟨_,rfl,_,_,rfl,rfl,(show (0:Int) < 3 by decide),C,_,_,_,rfl,rfl,SqL.of a_b,G,?_⟩;refine⟨_,rfl,_,_,rfl,rfl,(show (0:Int) < 9 by decide),_,_,rfl,rfl,_,rfl,rfl,λla U O p m=>⟨_,rfl,_,_,rfl,rfl,⟨by decide,by decide⟩,_,_,rfl,rfl,(show (0:Int) < 6 by decide),la,_,_,_,rfl,rfl,SqL.of m,W,by show 4<=sizeLine;decide,λa d=> ?_⟩⟩;exact fin a (.both (c % 9 - 4) v t) _ ⟨j.free (g.free (p.free d)),((j.trans g).trans p).trans (Same.upd_new d),a_b,trivial,lt,b_e a_b (by decide+kernel)⟩ trivial
   refine⟨_,rfl,rfl,_,rfl,?_⟩;refine a_x (λ_=> ?_) (λ_=> ?_)
   ·obtain⟨v,G,N⟩:=o_a (c % 7) (c / 9 % 40) c (by omega) (by omega)
    refine⟨_,rfl,_,rfl,_,_,rfl,rfl,_,rfl,_,_,rfl,rfl,(show (0:Int) < 7 by decide),_,rfl,_,_,rfl,rfl,⟨by decide,by decide⟩,_,_,rfl,rfl,(show (0:Int) < 40 by decide),by show 2<=sizeLine;decide,λC u=> ?_⟩;have g:=Same.upd_new (o:= .lst [V.int (c % 7),V.int (c / 9 % 40)]) u;refine⟨_,rfl,_,_,rfl,rfl,(show (0:Int) < 3 by decide),_,_,rfl,rfl,⟨by decide,by decide⟩,C,_,_,_,rfl,rfl,SqL.of a_b,G,by show 4<=sizeLine;decide,λa d=> ?_⟩;exact fin a (.from x (n - 2) v) _ ⟨j.free (g.free d),(j.trans g).trans (Same.upd_new d),a_b,⟨l,N⟩,trivial,b_e a_b (by decide+kernel)⟩ trivial
   ·refine⟨_,rfl,_,rfl,_,rfl,λJ g=>⟨by show 3<=sizeLine;decide,λa d=> ?_⟩⟩
    exact fin a (.spot x (far n)) _ ⟨j.free (g.free d),(j.trans g).trans (Same.upd_new d),a_b,l,h_V z B,b_e a_b (by decide+kernel)⟩ trivial
end
theorem k_k {ns:List Int} {j:Nat} (h:j < ns.length) {z:Int} (e:z=(j:Int)):atI (ns.map V.int) z=some (.int (ns.getD j 0)):=by
 rw[e];refine a_e ?_;rw[r_9,s_g,r_Y h];rfl
def LD (H:Hp) (l:Addr) (ds:List Deed):Prop:=∃as:List Addr,H l=some (.lst (as.map V.ref))/\Paired (DeedBy l H) as ds
def Oks (n:Nat) (ds:List Deed):Prop:=ds.length<=n/\∀d∈ds,d.form/\d.short
theorem LD.grow {H:Hp} {l a:Addr} {as:List Addr} {ds:List Deed} {d:Deed} (h1:H l=some (.lst (as.map V.ref))) (h2:Paired (DeedBy l H) as ds) (hd:DeedBy l H a d):LD (upd H l (.lst (as.map V.ref++ [V.ref a]))) l (ds++ [d]):=
 ⟨as++ [a],by rw[r_5];exact a_b,j_o h1 (a_D h2 (.cons hd .nil))⟩
theorem Oks.snoc {n:Nat} {ds:List Deed} {d:Deed} (h:Oks n ds) (hd:d.form/\d.short):Oks (n+1) (ds++ [d]):=⟨by have:=h.1;simp;omega,λx hx=>by
 rcases s_f.mp hx with q | q
 ·exact h.2 x q
 ·rw[r_2.mp q];exact hd⟩
theorem DNew.by {H H':Hp} {a l:Addr} {d:Deed} {u:HO} (h:DNew H H' a d) (hl:H l=some u):DeedBy l H' a d:=⟨h.at_,λl' e q=>by rw[<-q,h.inn l' e] at hl;cases hl⟩
theorem ChgAt.noAll {H:Hp} {a:Addr} {c:Chg} (h:ChgAt H a c):∀l',¬ H a=some (.tup [.str "all",.ref l']):=λl' e=>by
 have aux:∀{x:Str} {r:List V},H a=some (.tup (.str x::r))->¬ x="all"->False:=λd f=>by
  rw[d] at e;injection e with e
  injection e with e
  injection e with e _
  injection e with e
  exact f e
 cases c with
 | bring ρ=>obtain⟨r,b,_⟩:=h;exact aux b (by decide+kernel)
 | alter ρ=>obtain⟨r,b,_⟩:=h;exact aux b (by decide+kernel)
 | cut n=>exact aux h (by decide+kernel)
theorem DNew.of_chg {H H':Hp} {a:Addr} {c:Chg} (h0:H a=none) (s:Same H H') (h:ChgAt H' a c) (hs:c.short):DNew H H' a (.chg c):=⟨h0,s,h,trivial,hs,λl' e=>absurd e (ChgAt.noAll h l')⟩
theorem k_5 {z:Int} (h:11<=z) (h2:z < 15):∃(x:Str) (d:Deed),atI [V.str "begin",V.str "keep",V.str "break",V.str "begin"] (z - 11)=some (.str x)/\¬ x="all"/\(∀H a,H a=some (.tup [.str x])->DeedAt H a d)/\d.form/\d.short:=by
 rcases (show z - 11=0\/z - 11=1\/z - 11=2\/z - 11=3 by omega) with e | e | e | e <;> rw[e]
 ·exact⟨"begin",.begin,a_e (j:=0) rfl,by decide+kernel,λH a h=>h,trivial,trivial⟩
 ·exact⟨"keep",.keep,a_e (j:=1) rfl,by decide+kernel,λH a h=>h,trivial,trivial⟩
 ·exact⟨"break",.brk,a_e (j:=2) rfl,by decide+kernel,λH a h=>h,trivial,trivial⟩
 ·exact⟨"begin",.begin,a_e (j:=3) rfl,by decide+kernel,λH a h=>h,trivial,trivial⟩
section
variable {P:Program} {w:World} {K:PySem.W.Frag} {mg:Str->Option Value} {base:Heap}
def f_a (K:PySem.W.Frag):Sp:=λvs H Q _=>∃(a:Addr) (ns:List Int),vs= [.ref a]/\SqL K H a (ns.map V.int)/\ns.length<=1000/\∀(l:Addr) (ds:List Deed) (H':Hp),H l=none->Same H H'->LD H' l ds->Oks 26 ds->Q (.ref l) H'
theorem c_g:a_s ["_law_script","_law_deeds","_law_k","_law_number","_law_row"] ["_law_script"] (a_n e_l):=⟨rfl,rfl,rfl,by decide+kernel,rfl,by decide+kernel,by decide+kernel⟩
theorem h_n {f fAt fFar fDr:Addr} {fd fdAt fdFar fdDr:FuncData} (F:Fun K "_law_brings_of" "_law_brings_of" e_l f fd) (B:Bt mg) (gAt:Gf K mg "_law_at" fAt fdAt ["_law_script","_law_k"]) (GAt:FnOk P w K mg base CX0 1 fAt fdAt ["_law_script","_law_k"] (o_J K))
 (gFar:Gf K mg "_law_far" fFar fdFar ["_law_number"]) (GFar:FnOk P w K mg base CX0 1 fFar fdFar ["_law_number"] k_L)
 (gDr:Gf K mg "_law_drawn_row" fDr fdDr ["_law_number","_law_cell"]) (GDr:FnOk P w K mg base CX0 2 fDr fdDr ["_law_number","_law_cell"] h_t):FnOk P w K mg base CX0 3 f fd ["_law_script"] (f_a K):=by
 refine F.ok c_g (λvs H Q E h=> ?_) (λcdv A outer s H vs Q E U h=> ?_)
 ·obtain⟨a,ns,rfl,_⟩:=h
  rfl
 ·obtain⟨a,ns,rfl,I,c,fin⟩:=h
  have e:Room 1 _:=U.mono (by decide);have S:Room 2 _:=U.mono (by decide)
  refine⟨_,(a_c (a_w (i:=1) c_g.nd rfl (Or.inl rfl) (a_P a_d))
   (a_c (b_Z PassesOwn.never rfl (c_a rfl B.range (a_a (a_v a_S (a_k GAt e rfl gAt.mg gAt.kp gAt.b .nil a_u (a_a (pv 0) (a_a a_g a_d))) a_g) a_d)) (b_b (i:=2) c_g.nd rfl (Or.inl rfl))
   (a_c (a_w (i:=3) c_g.nd rfl (Or.inl rfl) (a_v a_S (a_v a_V (a_v b_H a_g (pv 2)) (a_k GAt e rfl gAt.mg gAt.kp gAt.b .nil a_u (a_a (pv 0) (a_a a_g a_d)))) a_g))
   (a_c (a_w (i:=4) c_g.nd rfl (Or.inl rfl) (a_k GDr S rfl gDr.mg gDr.kp gDr.b .nil a_u (a_a (a_k GFar e rfl gFar.mg gFar.kp gFar.b .nil a_u (a_a (pv 3) a_d)) (a_a (a_v a_V (a_v b_H a_g (pv 2)) (a_k GAt e rfl gAt.mg gAt.kp gAt.b .nil a_u (a_a (pv 0) (a_a a_g a_d)))) a_d))))
   (a_f (a_y (b_x s_H s_J s_I a_O (pv 1) (a_a (a_H (a_a a_l (a_a (pv 4) a_d))) a_d)))))))
   (a_f (a_o (pv 1))))),?_⟩
  refine⟨by show 0<=sizeLine;decide,λl G=> ?_⟩;have N:Same H (upd H l (.lst [])):=Same.upd_new G;refine⟨_,rfl,a,ns,1,rfl,N.seq I,c,by decide,by decide,λz H2 O=> ?_⟩;have e1:=Int.emod_nonneg z (show (27:Int)≠0 by decide);have e2:=Int.emod_lt_of_pos z (show (0:Int) < 27 by decide);have T:=N.trans O;refine⟨_,_,rfl,rfl,(show (0:Int) < 27 by decide),_,rfl,by omega,by omega,b_7 (lo:=0) (n:=(z % 27).toNat) (λi σ Hx=>∃(ds:List Deed) (x J L:Option V),σ= [some (.ref a),some (.ref l),x,J,L]/\Same H Hx/\LD Hx l ds/\Oks i ds) ⟨[],none,none,none,rfl,T,⟨[],O _ _ a_b,.nil⟩,by simp[Oks]⟩ ?_ ?_⟩
  ·rintro i σ Hx hi ⟨ds,x,J,L,rfl,sx,⟨as,W,R⟩,k⟩
   have hi26:i < 27:=by omega
   refine⟨_,rfl,_,_,rfl,rfl,.inl ⟨by decide,by decide⟩,_,rfl,a,ns,2,rfl,sx.seq I,c,by decide,by decide,λz2 H3 Y=> ?_⟩;refine⟨_,_,rfl,rfl,_,_,rfl,rfl,(show (0:Int) < 26 by decide),?_⟩;refine⟨_,rfl,_,rfl,λH4 s4=> ?_⟩;have q:=Y.trans s4;refine⟨_,rfl,_,_,rfl,rfl,.inl ⟨by decide,by decide⟩,_,rfl,a,ns,3,rfl,(sx.trans q).seq I,c,by decide,by decide,λz3 H5 Z=> ?_⟩;refine⟨_,_,rfl,rfl,_,_,rfl,λr ρ C hf6 s6 hρ en X=> ?_⟩;have p:=(q.trans Z).trans s6;have g:=p _ _ W;refine⟨_,rfl,.inl ⟨rfl,_,SqL.of g⟩,_,rfl,by show 2<=sizeLine;decide,λt v=> ?_⟩;have m:=Same.upd_new (o:= .tup [.str "bring",.ref r]) v;have j:=m _ _ g
   have M:(as.map V.ref).length < sizeLine:=by
    have:=Paired.length R;have h1:=k.1;rw[r_X];exact a_F (by omega)
   have y:ChgAt (upd C t (.tup [.str "bring",.ref r])) t (.bring ρ):=⟨r,a_b,m _ _ hρ⟩;have u:ρ.t.length<=2/\ρ.n∈BL:=⟨X,by rw[en];exact h_R (by omega) (by omega)⟩;have hD:DNew C (upd C t (.tup [.str "bring",.ref r])) t (.chg (.bring ρ)):= .of_chg v m y u;refine⟨l,_,_,rfl,rfl,j,M,ds++ [.chg (.bring ρ)],_,_,_,rfl,?_, LD.grow j (c_7 (p.trans m) R) (hD.by g),k.snoc (d:= .chg (.bring ρ)) ⟨trivial,u⟩⟩;exact (Mov.upd j).same ((sx.trans p).trans m) λb y=>by rw[r_2.mp y];exact G
  ·rintro σ Hx ⟨ds,x,J,L,rfl,sx,hL,k⟩
   exact⟨_,rfl,fin l ds Hx G sx hL ⟨by have:=k.1;omega,k.2⟩⟩
def g_y (K:PySem.W.Frag):Sp:=λvs H Q _=>∃(a:Addr) (ns:List Int),vs= [.ref a]/\SqL K H a (ns.map V.int)/\ns.length<=63/\∀(l:Addr) (ds:List Deed) (H':Hp),H l=none->Same H H'->LD H' l ds->Oks 32 ds->Q (.ref l) H'
theorem b_i:a_s ["_law_cells","_law_deeds","_law_k","_law_way","_law_number","_law_cell","_law_words","_law_some","_law_j","_law_other"] ["_law_cells"] (a_n f_y):=⟨rfl,rfl,rfl,by decide+kernel,rfl,by decide+kernel,by decide+kernel⟩
theorem i_M {f fCh fQu:Addr} {fd fdCh fdQu:FuncData} (F:Fun K "_law_deeds_of" "_law_deeds_of" f_y f fd) (B:Bt mg) (gCh:Gf K mg "_law_change_of" fCh fdCh ["_law_way","_law_number","_law_cell"]) (GCh:FnOk P w K mg base CX0 3 fCh fdCh ["_law_way","_law_number","_law_cell"] e_Y)
 (gQu:Gf K mg "_law_question_of" fQu fdQu ["_law_way","_law_number","_law_cell"]) (GQu:FnOk P w K mg base CX0 2 fQu fdQu ["_law_way","_law_number","_law_cell"] d_L):FnOk P w K mg base CX0 4 f fd ["_law_cells"] (g_y K):=by
 refine F.ok b_i (λvs H Q E h=> ?_) (λcdv A outer s H vs Q E hr h=> ?_)
 ·obtain⟨a,ns,rfl,_⟩:=h
  rfl
 ·obtain⟨a,ns,rfl,S,hlen,fin⟩:=h
  have W:Room 3 _:=hr.mono (by decide);have hr2:Room 2 _:=hr.mono (by decide)
  refine⟨_,(a_c (a_w (i:=1) b_i.nd rfl (Or.inl rfl) (a_P a_d))
   (a_c (b_Z PassesOwn.never rfl (c_a rfl B.range (a_a (a_v a_3 (a_t (a_B K) (by rfl) B.len s_G (a_a (pv 0) a_d)) a_g) a_d)) (b_b (i:=2) b_i.nd rfl (Or.inl rfl))
   (a_c (a_w (i:=3) b_i.nd rfl (Or.inl rfl) (a_v a_S (a_v a_V (a_r (a_G K) (pv 0) (a_v b_H a_g (pv 2)) (λ_ _=>rfl)) (a_v b_H a_g (pv 2))) a_g))
   (a_c (a_w (i:=4) b_i.nd rfl (Or.inl rfl) (a_v b_S (a_v a_S (a_v a_V (a_v a_3 (a_r (a_G K) (pv 0) (a_v b_H a_g (pv 2)) (λ_ _=>rfl)) a_g) (a_v b_H a_g (pv 2))) a_g) a_g))
   (a_c (a_w (i:=5) b_i.nd rfl (Or.inl rfl) (a_r (a_G K) (pv 0) (a_v a_V (a_v b_H a_g (pv 2)) a_g) (λ_ _=>rfl)))
   (a_f (a_C (a_m e_R (pv 3) a_g (a_q _)) (a_f (a_y (b_x s_H s_J s_I a_O (pv 1) (a_a (a_k GCh W rfl gCh.mg gCh.kp gCh.b .nil a_u (a_a (pv 3) (a_a (pv 4) (a_a (pv 5) a_d)))) a_d)))) (a_f (a_C (a_m e_R (pv 3) a_g (a_q _)) (a_f (a_y (b_x s_H s_J s_I a_O (pv 1) (a_a (a_k GQu hr2 rfl gQu.mg gQu.kp gQu.b .nil a_u (a_a (a_v b_S (pv 3) a_g) (a_a (pv 4) (a_a (pv 5) a_d)))) a_d)))) (a_f (a_C (a_m e_R (pv 3) a_g (a_q _)) (a_c (a_w (i:=6) b_i.nd rfl (Or.inl rfl) (a_P (a_a a_l (a_a a_l (a_a a_l (a_a a_l a_d))))))
   (a_f (a_y (b_x s_H s_J s_I a_O (pv 1) (a_a (a_H (a_a (a_r (a_G K) (pv 6) (a_v b_S (pv 3) a_g) (λ_ _=>rfl)) a_d)) a_d))))) (a_c (a_w (i:=7) b_i.nd rfl (Or.inl rfl) (a_P a_d))
   (a_c (b_Z PassesOwn.never rfl (c_a rfl B.range (a_a a_g a_d)) (b_b (i:=8) b_i.nd rfl (Or.inl rfl))
   (a_c (a_w (i:=9) b_i.nd rfl (Or.inl rfl) (a_v a_S (a_v a_V (pv 4) (a_v b_H a_g (pv 8))) a_g))
   (a_f (a_y (b_x s_H s_J s_I a_O (pv 7) (a_a (a_k GCh W rfl gCh.mg gCh.kp gCh.b .nil a_u (a_a (a_v a_V (pv 5) (pv 8)) (a_a (pv 9) (a_a (a_v a_V (pv 5) (a_v b_H a_g (pv 8))) a_d)))) a_d))))))
   (a_f (a_y (b_x s_H s_J s_I a_O (pv 1) (a_a (a_H (a_a a_l (a_a (pv 7) a_d))) a_d))))))))))))))))
   (a_f (a_o (pv 1))))),?_⟩
  refine⟨by show 0<=sizeLine;decide,λl hl=> ?_⟩;have s1:Same H (upd H l (.lst [])):=Same.upd_new hl;have hn0:(((ns.map V.int).length:Nat):Int) / 2 < 32:=by rw[r_X];omega
  have Y:0<=(((ns.map V.int).length:Nat):Int) / 2:=by rw[r_X];omega
  refine⟨_,rfl,a,_,rfl,.inl (s1.seq S),_,_,rfl,rfl,⟨by decide,by decide⟩,_,rfl,by omega,by omega,b_7 (lo:=0) (n:=((((ns.map V.int).length:Nat):Int) / 2).toNat) (λi σ Hx=>∃(ds:List Deed) (v2 v3 v4 Z M v7 L C:Option V),σ= [some (.ref a),some (.ref l),v2,v3,v4,Z,M,v7,L,C]/\Same H Hx/\LD Hx l ds/\Oks i ds) ⟨[],none,none,none,none,none,none,none,none,rfl,s1,⟨[],a_b,.nil⟩,by simp[Oks]⟩ ?_ ?_⟩
  ·rintro i σ Hx hi ⟨ds,v2,v3,v4,Z,M,v7,L,C,rfl,sx,⟨as,g,hP⟩,I⟩
   have hi2:2 * i+1 < ns.length:=by rw[r_X] at hi;omega
   have hi26:i < 32:=by omega
   have hal:=Paired.length hP;have ho1:=I.1
   have z:(as.map V.ref).length < sizeLine:=by
    rw[r_X];exact a_F (by omega)
   have a1:atI (ns.map V.int) (2 * (0+(i:Int)))=some (.int (ns.getD (2 * i) 0)):=k_k (j:=2 * i) (by omega) (by omega);have a2:atI (ns.map V.int) (2 * (0+(i:Int))+1)=some (.int (ns.getD (2 * i+1) 0)):=k_k (j:=2 * i+1) (by omega) (by omega);refine⟨_,rfl,_,rfl,_,_,rfl,rfl,.inl ⟨by decide,by decide⟩,a,_,_,_,rfl,rfl,sx.seq S,a1,_,rfl,_,_,rfl,rfl,.inl ⟨by decide,by decide⟩,_,_,rfl,rfl,_,_,rfl,rfl,(show (0:Int) < 16 by decide),?_⟩;refine⟨_,rfl,_,rfl,_,_,rfl,rfl,.inl ⟨by decide,by decide⟩,a,_,_,_,rfl,rfl,sx.seq S,a1,_,_,rfl,rfl,⟨by decide,by decide⟩,_,rfl,_,_,rfl,rfl,.inl ⟨by decide,by decide⟩,_,_,rfl,rfl,_,_,rfl,rfl,(show (0:Int) < 27 by decide),_,_,rfl,rfl,?_⟩;refine⟨_,rfl,_,rfl,_,_,rfl,rfl,.inl ⟨by decide,by decide⟩,_,_,rfl,rfl,a,_,_,_,rfl,rfl,sx.seq S,a2,?_⟩;dsimp only;generalize hway:(ns.getD (2 * i) 0+3 * (0+(i:Int))) % 16=way;generalize hnum:(ns.getD (2 * i) 0 / 16+5 * (0+(i:Int))) % 27 - 1=number;generalize hcel:ns.getD (2 * i+1) 0=cell;have hnb: -1<=number/\number<=25:=by omega
   have done:∀(t:Addr) (d:Deed) (m:Hp),DNew Hx m t d->Same H (upd m l (.lst (as.map V.ref++ [V.ref t])))/\LD (upd m l (.lst (as.map V.ref++ [V.ref t]))) l (ds++ [d])/\Oks (i+1) (ds++ [d]):=λt d m N=>
    ⟨(Mov.upd (N.same _ _ g)).same (sx.trans N.same) λb hb=>by rw[r_2.mp hb];exact hl,LD.grow (N.same _ _ g) (c_7 N.same hP) (N.by g),I.snoc ⟨N.form,N.short⟩⟩
   refine⟨_,rfl,_,_,rfl,rfl,_,rfl,?_⟩;refine a_x (λ_=> ?_) (λ_=> ?_)
   ·refine⟨_,rfl,.inl ⟨rfl,_,SqL.of g⟩,_,rfl,_,rfl,_,rfl,_,_,_,rfl,by omega,by omega,λt ch m h0 p hc hs=> ?_⟩
    have N:=DNew.of_chg h0 p hc hs;obtain⟨v,r,u⟩:=done t _ m N;exact⟨l,_,_,rfl,rfl,p _ _ g,z,_,_,_,_,_,_,_,_,_,rfl,v,r,u⟩
   refine⟨_,rfl,_,_,rfl,rfl,_,rfl,?_⟩;refine a_x (λ_=> ?_) (λc11=> ?_)
   ·refine⟨_,rfl,.inl ⟨rfl,_,SqL.of g⟩,_,rfl,_,_,rfl,rfl,_,rfl,_,rfl,_,_,_,rfl,by omega,by omega,λt d m N _=> ?_⟩
    obtain⟨v,r,u⟩:=done t _ m N;exact⟨l,_,_,rfl,rfl,N.same _ _ g,z,_,_,_,_,_,_,_,_,_,rfl,v,r,u⟩
   refine⟨_,rfl,_,_,rfl,rfl,_,rfl,?_⟩;refine a_x (λc15=> ?_) (λ_=> ?_)
   ·have h11:11≤way:=by
     have:¬ way < 11:=λq=>c11 (s_D q);omega
    obtain⟨x,d,hx,hxa,hd,hdf,hds⟩:=k_5 h11 (s_F c15);refine⟨by show 4<=sizeLine;decide,λn1 Y=> ?_⟩;have p:=Same.upd_new (o:= .lst [V.str "begin",V.str "keep",V.str "break",V.str "begin"]) Y;have U:=p _ _ g;refine⟨_,rfl,.inl ⟨rfl,_,SqL.of U⟩,_,rfl,_,rfl,_,_,rfl,rfl,n1,_,_,_,rfl,rfl,SqL.of a_b,hx,by show 1<=sizeLine;decide,λt G=> ?_⟩;have k:=Same.upd_new (o:= .tup [.str x]) G;have N:DNew Hx _ t d:=⟨p.free G,p.trans k,hd _ _ a_b,hdf,hds,b_e a_b hxa⟩;obtain⟨v,r,u⟩:=done t _ _ N;exact⟨l,_,_,rfl,rfl,k _ _ U,z,_,_,_,_,_,_,_,_,_,rfl,v,r,u⟩
   refine⟨by show 0<=sizeLine;decide,λsm R=> ?_⟩;have p:=Same.upd_new (o:= .lst []) R
   refine⟨3,rfl,by decide,by decide,b_7 (lo:=0) (n:=3) (λj σ Hy=>∃(cs:List Chg) (bs:List Addr) (M L C:Option V),σ= [some (.ref a),some (.ref l),some (.int (0+(i:Int))),some (.int way),some (.int number),some (.int cell),M,some (.ref sm),L,C]/\Same Hx Hy/\Hy sm=some (.lst (bs.map V.ref))/\Paired (ChgAt Hy) bs cs/\cs.length<=j/\∀c∈cs,c.short)
    ⟨[], [],_,_,_,rfl,p,a_b,.nil,by simp,by simp⟩ ?_ ?_⟩
   ·rintro j σ Hy hj ⟨cs,bs,w6,w8,w9,rfl,sy,y,T,hcl,O⟩
    have hbl:=Paired.length T;have hbz:(bs.map V.ref).length < sizeLine:=by rw[r_X];exact a_F (by omega)
    refine⟨_,rfl,_,rfl,_,_,rfl,rfl,.inl ⟨by decide,by decide⟩,_,_,rfl,rfl,_,_,rfl,rfl,(show (0:Int) < 26 by decide),?_⟩;refine⟨_,rfl,.inl ⟨rfl,_,SqL.of y⟩,_,rfl,_,rfl,_,_,rfl,rfl,_,rfl,_,rfl,_,rfl,_,_,rfl,rfl,.inl ⟨by decide,by decide⟩,_,_,rfl,rfl,_,_,_,rfl,by omega,by omega,λt ch m h0 k hc hs=> ?_⟩;have J:=k _ _ y;refine⟨sm,_,_,rfl,rfl,J,hbz,cs++ [ch],bs++ [t],_,_,_,rfl,(Mov.upd J).same (sy.trans k) λb hb=>(by rw[r_2.mp hb];exact R),by rw[r_5];exact a_b,?_, by simp;omega,λc hc'=> ?_⟩
    ·exact b_f (NoTup.keep (NoTup.lst J)) (a_D (b_f (λb xs q=>k _ _ q) T) (.cons hc .nil))
    ·rcases s_f.mp hc' with q | q
     ·exact O c q
     ·rw[r_2.mp q];exact hs
   ·rintro σ Hy ⟨cs,bs,w6,w8,w9,rfl,sy,y,T,hcl,O⟩
    have X:=sy _ _ g;refine⟨_,rfl,.inl ⟨rfl,_,SqL.of X⟩,_,rfl,by show 2<=sizeLine;decide,λt G=> ?_⟩;have k:=Same.upd_new (o:= .tup [.str "all",.ref sm]) G
    have N:DNew Hx (upd Hy t (.tup [.str "all",.ref sm])) t (.all cs):=⟨sy.free G,sy.trans k,⟨sm,bs,a_b,k _ _ y,b_f (λb xs q=>k _ _ q) T⟩,(show cs.length<=24 by omega),O,λl' e=>by
     rw[a_b] at e;injection e with e
     injection e with e
     injection e with _ e
     injection e with e _
     injection e with e
     rw[<-e];exact R⟩
    obtain⟨v,r,u⟩:=done t _ _ N;exact⟨l,_,_,rfl,rfl,k _ _ X,z,_,_,_,_,_,_,_,_,_,rfl,v,r,u⟩
  ·rintro σ Hx ⟨ds,v2,v3,v4,Z,M,v7,L,C,rfl,sx,hL,I⟩
   exact⟨_,rfl,fin l ds Hx hl sx hL ⟨by have:=I.1;omega,I.2⟩⟩
end
def Deed.word:Deed->Str
 | .chg (.bring _)=>"bring"
 | .chg (.alter _)=>"alter"
 | .chg (.cut _)=>"cut"
 | .all _=>"all"
 | .begin=>"begin"
 | .keep=>"keep"
 | .brk=>"break"
 | .row _=>"row"
 | .within .. =>"within"
 | .both .. =>"both"
 | .from .. =>"from"
 | .spot .. =>"spot"
theorem DeedAt.word {H:Hp} {a:Addr} {d:Deed} (h:DeedAt H a d):∃r,H a=some (.tup (.str (Deed.word d)::r)):=by
 cases d with
 | chg c=>cases c with
   | bring ρ=>obtain⟨r,h1,_⟩:=h;exact⟨_,h1⟩
   | alter ρ=>obtain⟨r,h1,_⟩:=h;exact⟨_,h1⟩
   | cut n=>exact⟨_,h⟩
 | all cs=>obtain⟨l,as,h1,_⟩:=h;exact⟨_,h1⟩
 | _=>exact⟨_,h⟩
theorem l_M {d:Deed} (h:Deed.word d="all"):∃cs,d= .all cs:=by
 cases d with
 | all cs=>exact⟨cs,rfl⟩
 | chg c=>cases c <;> exact absurd h (by dsimp only[Deed.word];decide+kernel)
 | _=>exact absurd h (by dsimp only[Deed.word];decide+kernel)
section
variable {P:Program} {w:World} {K:PySem.W.Frag} {mg:Str->Option Value} {base:Heap}
def h_G:Sp:=λvs H Q _=>∃c,vs= [.int c]/\∀i H',Same H H'->Q (.int i) H'
theorem n_G (a b c d e f z:Int):∃v:Int,atI [V.int a,V.int b,V.int c,V.int d,V.int e,V.int f] (z % 6)=some (.int v):=by
 rcases (show z % 6=0\/z % 6=1\/z % 6=2\/z % 6=3\/z % 6=4\/z % 6=5 by omega) with e | e | e | e | e | e <;> rw[e]
 ·exact⟨_,a_e (j:=0) rfl⟩
 ·exact⟨_,a_e (j:=1) rfl⟩
 ·exact⟨_,a_e (j:=2) rfl⟩
 ·exact⟨_,a_e (j:=3) rfl⟩
 ·exact⟨_,a_e (j:=4) rfl⟩
 ·exact⟨_,a_e (j:=5) rfl⟩
theorem l_c:a_s ["_law_cell"] ["_law_cell"] (a_n h_d):=⟨rfl,rfl,rfl,by decide+kernel,rfl,by decide+kernel,by decide+kernel⟩
theorem k_g {f:Addr} {fd:FuncData} (F:Fun K "_law_room_of" "_law_room_of" h_d f fd):FnOk P w K mg base CX0 1 f fd ["_law_cell"] h_G:=by
 refine F.ok l_c (λvs H Q E h=> ?_) (λcdv A outer s H vs Q E d h=> ?_)
 ·obtain⟨c,rfl,_⟩:=h
  rfl
 ·obtain⟨c,rfl,fin⟩:=h
  refine⟨_,(a_f (a_o (a_r (a_G K) (a_P (a_a a_g (a_a a_g (a_a a_g (a_a a_g (a_a (a_v a_V a_g (a_v a_S (a_v a_3 (pv 0) a_g) a_g)) (a_a (a_v a_S (pv 0) (a_v h_O a_g a_g)) a_d))))))) (a_v a_S (pv 0) a_g) (λ_ _=>rfl)))),?_⟩;obtain⟨v,b⟩:=n_G 40 12 26 1000000000000 (13+c / 6 % 60) (c % 10 ^ (30:Int).toNat) c;refine⟨_,rfl,_,_,rfl,rfl,⟨by decide,by decide⟩,_,_,rfl,rfl,(show (0:Int) < 60 by decide),_,_,rfl,rfl,_,rfl,_,_,rfl,rfl,⟨by decide,by decide,by decide⟩,_,_,rfl,rfl,(show (0:Int) < 10 ^ 30 by decide),by show 6<=sizeLine;decide,λl a=> ?_⟩;exact⟨_,rfl,_,_,rfl,rfl,(show (0:Int) < 6 by decide),l,_,_,_,rfl,rfl,SqL.of a_b,b,fin v _ (Same.upd_new a)⟩
def h_T:Sp:=λvs H Q _=>∃(l:Addr) (ds:List Deed),vs= [.ref l]/\m_M H l ds/\ds.length<=900/\∀(m:Addr) (H':Hp),H m=none->Same H H'->LD H' m ds->Q (.ref m) H'
theorem f_N:a_s ["_law_deeds","_law_made","_law_deed"] ["_law_deeds"] (a_n h_A):=⟨rfl,rfl,rfl,by decide+kernel,rfl,by decide+kernel,by decide+kernel⟩
theorem j_X {f:Addr} {fd:FuncData} (F:Fun K "_law_copied" "_law_copied" h_A f fd) (B:Bt mg):FnOk P w K mg base CX0 1 f fd ["_law_deeds"] h_T:=by
 refine F.ok f_N (λvs H Q E h=> ?_) (λcdv A outer s H vs Q E hr h=> ?_)
 ·obtain⟨l,ds,rfl,_⟩:=h
  rfl
 ·obtain⟨l,ds,rfl,⟨as,R,T⟩,hn,fin⟩:=h
  have S:=Paired.length T
  refine⟨_,(a_c (a_w (i:=1) f_N.nd rfl (Or.inl rfl) (a_P a_d))
   (a_c (b_Z PassesOwn.never rfl (a_T K (pv 0)) (b_b (i:=2) f_N.nd rfl (Or.inl rfl))
   (a_f (a_C (a_m a_J (a_r (a_j K) (pv 2) a_g (λ_ _=>rfl)) a_l (a_q _)) (a_f (a_y (b_x s_H s_J s_I a_O (pv 1) (a_a (a_H (a_a (a_r (a_j K) (pv 2) a_g (λ_ _=>rfl)) (a_a (b_B g_w (by rfl) B.list e_N (a_a (a_r (a_j K) (pv 2) a_g (λ_ _=>rfl)) a_d)) a_d))) a_d)))) (a_f (a_y (b_x s_H s_J s_I a_O (pv 1) (a_a (pv 2) a_d)))))))
   (a_f (a_o (pv 1))))),?_⟩
  refine⟨by show 0<=sizeLine;decide,λm y=> ?_⟩;have L:Same H (upd H m (.lst [])):=Same.upd_new y;refine⟨_,rfl,l,rfl,⟨_,SqL.of (L _ _ R)⟩,b_X (K:=K) (a:=l) (xs:=as.map V.ref) (λi σ Hx=>∃(v:Option V),σ= [some (.ref l),some (.ref m),v]/\Same H Hx/\LD Hx m (ds.take i)) ⟨none,rfl,L, [],a_b,.nil⟩ (λi σ Hx _ ⟨_,_,sx,_⟩=>SqL.of (sx _ _ R)) ?_ ?_⟩
  ·rintro i x σ Hx u ⟨v,rfl,sx,bs,c,G⟩
   rw[r_9] at u;cases e:as[i]? with
   | none=>rw[e] at u;cases u
   | some a=>
     rw[e] at u;obtain rfl:V.ref a=x:=r_4 u;have hil:=(s_b.mp e).1;obtain⟨d,hd⟩:∃d,ds[i]? =some d:=⟨_,r_Y (by omega)⟩;obtain⟨a',e',N⟩:=a_U T hd;rw[e] at e';obtain rfl:a=a':=r_4 e';have n:=DeedAt.same sx N;obtain⟨r,J⟩:=DeedAt.word n;have M:=Paired.length G;rw[s_j] at M;have C:(bs.map V.ref).length < sizeLine:=by rw[r_X];exact a_F (by omega)
     have et:ds.take (i+1)=ds.take i++ [d]:=by rw[s_o,hd];rfl
     refine⟨_,rfl,a,_,_,_,rfl,rfl,SqT.of J,a_e (j:=0) rfl,rfl,_,rfl,?_⟩;refine a_x (λq=> ?_) (λq=> ?_)
     ·obtain⟨cs,rfl⟩:=l_M (by have:=s_F q;injection this)
      obtain⟨la,cas,I,Z,h3⟩:=n;rw[I] at J;refine⟨_,rfl,.inl ⟨rfl,_,SqL.of c⟩,_,rfl,a,_,_,_,rfl,rfl,SqT.of I,a_e (j:=0) rfl,_,rfl,a,_,_,_,rfl,rfl,SqT.of I,a_e (j:=1) rfl,la,_,rfl,.inl (SqL.of Z),λlc z=>⟨by show 2<=sizeLine;decide,λt Y=> ?_⟩⟩;have X:=Same.upd_new (o:= .lst (cas.map V.ref)) z;have O:=Same.upd_new (o:= .tup [.str "all",.ref lc]) Y;have g:=X.trans O;have k:=g _ _ c;have U:lc≠m:=(a_h c z).symm;refine⟨m,_,_,rfl,rfl,k,C,_,rfl,(Mov.upd k).same (sx.trans g) λb' p=>(by rw[r_2.mp p];exact y),?_⟩;rw[et];refine LD.grow k (c_7 g G) ⟨⟨lc,cas,a_b,O _ _ a_b,b_f (λb xs q=>g _ _ q) h3⟩,λl' e=> ?_⟩;rw[a_b] at e;injection e with e
      injection e with e
      injection e with _ e
      injection e with e _
      injection e with e
      rw[<-e];exact U
     ·refine⟨_,rfl,.inl ⟨rfl,_,SqL.of c⟩,_,rfl,m,_,_,rfl,rfl,c,C,_,rfl,(Mov.upd c).same sx λb' p=>(by rw[r_2.mp p];exact y),?_⟩
      rw[et];refine LD.grow c G ⟨n,λl' e=> ?_⟩;rw[J] at e;injection e with e
      injection e with e
      injection e with e _
      exact absurd (s_D e) q
  ·rintro σ Hx ⟨v,rfl,sx,W⟩
   rw[r_X,S,s_h (r_6 _)] at W;exact⟨_,rfl,fin m Hx y sx W⟩
theorem b_l:a_s ["_law_deed","_law_seed","_law_word","_law_low"] ["_law_deed","_law_seed"] (a_n c_i):=⟨rfl,rfl,rfl,by decide+kernel,rfl,by decide+kernel,by decide+kernel⟩
def r_l:Sp:=λ_ _ _ _=>False
theorem p_Y {f:Addr} {fd:FuncData} {k:Nat} (F:Fun K "_law_moved" "_law_moved" c_i f fd):FnOk P w K mg base CX0 (k+1) f fd ["_law_deed","_law_seed"] r_l:=
 F.ok b_l (λvs H Q E h=>h.elim) (λcdv A outer s H vs Q E hr h=>h.elim)
def o_B:Sp:=λvs H Q _=>∃(a:Addr) (c:Chg) (sd:Int),vs= [.ref a,.int sd]/\ChgAt H a c/\c.short/\∀(b:Addr) (c':Chg) (H':Hp),H b=none->Same H H'->ChgAt H' b c'->c'.tell sd->Q (.ref b) H'
theorem p_w {f fRa fRk fSg fRm:Addr} {fd fdRa fdRk fdSg fdRm:FuncData} (F:Fun K "_law_moved" "_law_moved" c_i f fd) (gMv:Gf K mg "_law_moved" f fd ["_law_deed","_law_seed"])
 (gRa:Gf K mg "_law_raised" fRa fdRa ["_law_number","_law_seed"]) (GRa:FnOk P w K mg base CX0 2 fRa fdRa ["_law_number","_law_seed"] d_2) (gRk:Gf K mg "_law_ranked" fRk fdRk ["_law_rank","_law_seed"]) (GRk:FnOk P w K mg base CX0 2 fRk fdRk ["_law_rank","_law_seed"] d_3)
 (gSg:Gf K mg "_law_signed" fSg fdSg ["_law_letters","_law_seed"]) (GSg:FnOk P w K mg base CX0 1 fSg fdSg ["_law_letters","_law_seed"] d_7) (gRm:Gf K mg "_law_row_moved" fRm fdRm ["_law_row","_law_seed"]) (GRm:FnOk P w K mg base CX0 3 fRm fdRm ["_law_row","_law_seed"] g_V):
 FnOk P w K mg base CX0 5 f fd ["_law_deed","_law_seed"] o_B:=by
 have GMv:FnOk P w K mg base CX0 4 f fd ["_law_deed","_law_seed"] r_l:=p_Y F;refine F.ok b_l (λvs H Q E h=> ?_) (λcdv A outer s H vs Q E p h=> ?_)
 ·obtain⟨a,c,sd,rfl,_⟩:=h
  rfl
 ·obtain⟨a,c,sd,rfl,o,m,fin⟩:=h
  have k:Room 1 _:=p.mono (by decide);have e:Room 2 _:=p.mono (by decide);have u:Room 3 _:=p.mono (by decide);have v:Room 4 _:=p.mono (by decide)
  refine⟨_,(a_c (a_w (i:=2) b_l.nd rfl (Or.inl rfl) (a_r (a_j K) (pv 0) a_g (λ_ _=>rfl)))
   (a_c (a_C (PW.pt (c_D (a_m a_J (pv 2) a_l (a_q _)) (b_I (a_m a_J (pv 2) a_l (a_q _))))) (a_f (a_o (a_H (a_a (pv 2) (a_a (a_k GRm u rfl gRm.mg gRm.kp gRm.b .nil a_u (a_a (a_r (a_j K) (pv 0) a_g (λ_ _=>rfl)) (a_a (pv 1) a_d))) a_d))))) a_p)
   (a_c (a_C (PW.pt (c_D (a_m a_J (pv 2) a_l (a_q _)) (b_I (a_m a_J (pv 2) a_l (a_q _))))) (a_f (a_o (a_H (a_a (pv 2) (a_a (a_k GRa e rfl gRa.mg gRa.kp gRa.b .nil a_u (a_a (a_r (a_j K) (pv 0) a_g (λ_ _=>rfl)) (a_a (pv 1) a_d))) a_d))))) a_p)
   (a_c (a_C (a_m a_J (pv 2) a_l (a_q _)) (a_f (a_o (a_H (a_a (pv 2) (a_a (c_G (x:="_law_one") (fns:= ["_law_seed"]) (js:= [1]) rfl ⟨rfl,by decide+kernel,by decide+kernel,rfl,by decide+kernel,by decide+kernel,rfl,by simp[Env.kindOf];exact rfl,rfl,by decide+kernel⟩ (a_T K (a_r (a_j K) (pv 0) a_g (λ_ _=>rfl))) (λ_ _ _ _=>b_J) (λ_ _ _ _=>(a_k GMv v rfl gMv.mg gMv.kp gMv.b .nil a_u (a_a (pv 0) (a_a (pv 1) a_d))))) a_d))))) a_p)
   (a_c (a_C (a_m a_J (pv 2) a_l (a_q _)) (a_f (a_o (a_H (a_a (pv 2) (a_a (a_r (a_j K) (pv 0) a_g (λ_ _=>rfl)) (a_a (a_k GRa e rfl gRa.mg gRa.kp gRa.b .nil a_u (a_a (a_r (a_j K) (pv 0) a_g (λ_ _=>rfl)) (a_a (pv 1) a_d))) a_d)))))) a_p)
   (a_c (a_C (PW.pt (e_O (a_m a_J (pv 2) a_l (a_q _)) (c_X (a_m a_J (a_r (a_j K) (pv 0) a_g (λ_ _=>rfl)) a_l (a_q _))))) (a_f (a_o (a_H (a_a (pv 2) (a_a (a_r (a_j K) (pv 0) a_g (λ_ _=>rfl)) (a_a (a_k GSg k rfl gSg.mg gSg.kp gSg.b .nil a_u (a_a (a_r (a_j K) (pv 0) a_g (λ_ _=>rfl)) (a_a (pv 1) a_d))) (a_a (a_k GSg k rfl gSg.mg gSg.kp gSg.b .nil a_u (a_a (a_r (a_j K) (pv 0) a_g (λ_ _=>rfl)) (a_a (pv 1) a_d))) a_d))))))) a_p)
   (a_c (a_C (a_m a_J (pv 2) a_l (a_q _)) (a_f (a_o (a_H (a_a (pv 2) (a_a (a_r (a_j K) (pv 0) a_g (λ_ _=>rfl)) (a_a (a_k GRk e rfl gRk.mg gRk.kp gRk.b .nil a_u (a_a (a_r (a_j K) (pv 0) a_g (λ_ _=>rfl)) (a_a (pv 1) a_d))) (a_a (a_k GRk e rfl gRk.mg gRk.kp gRk.b .nil a_u (a_a (a_r (a_j K) (pv 0) a_g (λ_ _=>rfl)) (a_a (pv 1) a_d))) a_d))))))) a_p)
   (a_c (a_C (a_m a_J (pv 2) a_l (a_q _)) (a_c (a_w (i:=3) b_l.nd rfl (Or.inl rfl) (a_k GRk e rfl gRk.mg gRk.kp gRk.b .nil a_u (a_a (a_r (a_j K) (pv 0) a_g (λ_ _=>rfl)) (a_a (pv 1) a_d))))
   (a_f (a_o (a_H (a_a (pv 2) (a_a (pv 3) (a_a (a_k GRk e rfl gRk.mg gRk.kp gRk.b .nil a_u (a_a (a_r (a_j K) (pv 0) a_g (λ_ _=>rfl)) (a_a (pv 1) a_d))) (a_a (a_k GSg k rfl gSg.mg gSg.kp gSg.b .nil a_u (a_a (a_r (a_j K) (pv 0) a_g (λ_ _=>rfl)) (a_a (pv 1) a_d))) a_d)))))))) a_p)
   (a_f (a_o (pv 0))))))))))),?_⟩
  have body:True:=trivial;cases c with
  | bring ρ=>
    obtain⟨r,g,hρ⟩:=o;refine⟨_,rfl,a,_,_,_,rfl,rfl,SqT.of g,a_e (j:=0) rfl,?_⟩;refine⟨_,rfl,rfl,_,rfl,a_x (λ_=>k_S ?_) (λq=>absurd (s_D rfl) q)⟩;refine⟨_,rfl,_,rfl,a,_,_,_,rfl,rfl,SqT.of g,a_e (j:=1) rfl,_,rfl,r,ρ,sd,rfl,hρ,m.1,λb ρ' y z l hρ' en=>⟨by show 2<=sizeLine;decide,λt d=> ?_⟩⟩;exact fin t (.bring ρ') _ (l.free d) (l.trans (Same.upd_new d)) ⟨b,a_b,Same.upd_new d _ _ hρ'⟩ (show ρ'.n∈ML sd by rw[en];exact i_N m.2)
  | alter ρ=>
    obtain⟨r,g,hρ⟩:=o;refine⟨_,rfl,a,_,_,_,rfl,rfl,SqT.of g,a_e (j:=0) rfl,?_⟩;refine⟨_,rfl,rfl,_,rfl,a_x (λq=>absurd q (by decide+kernel)) (λ_=> ?_)⟩;refine⟨_,rfl,rfl,_,rfl,a_x (λ_=> ?_) (λq=>absurd (s_D rfl) q)⟩;refine⟨_,rfl,_,rfl,a,_,_,_,rfl,rfl,SqT.of g,a_e (j:=1) rfl,_,rfl,r,ρ,sd,rfl,hρ,m.1,λb ρ' y z l hρ' en=>⟨by show 2<=sizeLine;decide,λt d=> ?_⟩⟩;exact fin t (.alter ρ') _ (l.free d) (l.trans (Same.upd_new d)) ⟨b,a_b,Same.upd_new d _ _ hρ'⟩ (show ρ'.n∈ML sd by rw[en];exact i_N m.2)
  | cut n=>
    refine⟨_,rfl,a,_,_,_,rfl,rfl,SqT.of o,a_e (j:=0) rfl,?_⟩;refine⟨_,rfl,rfl,_,rfl,a_x (λq=>absurd q (by decide+kernel)) (λ_=> ?_)⟩;refine⟨_,rfl,rfl,_,rfl,a_x (λq=>absurd q (by decide+kernel)) (λ_=> ?_)⟩;refine⟨_,rfl,rfl,_,rfl,a_x (λ_=>k_S ?_) (λq=>absurd (s_D rfl) q)⟩;refine⟨_,rfl,_,rfl,a,_,_,_,rfl,rfl,SqT.of o,a_e (j:=1) rfl,_,rfl,n,sd,rfl,by show 2<=sizeLine;decide,λt d=> ?_⟩;exact fin t (.cut (b_w n sd)) _ d (Same.upd_new d) a_b (i_N m)
def r_j:Sp:=λvs H Q _=>∃(a:Addr) (d:Deed) (sd:Int),vs= [.ref a,.int sd]/\DeedAt H a d/\d.form/\d.short/\∀(b:Addr) (d':Deed) (H':Hp),Same H H'->DeedAt H' b d'->d'.form->d'.tell sd->(∀l',H' b=some (.tup [.str "all",.ref l'])->H l'=none)->(d.asks->d'.asks)->Q (.ref b) H'
theorem q_J {f fRa fRk fSg fRm:Addr} {fd fdRa fdRk fdSg fdRm:FuncData} (F:Fun K "_law_moved" "_law_moved" c_i f fd) (gMv:Gf K mg "_law_moved" f fd ["_law_deed","_law_seed"])
 (gRa:Gf K mg "_law_raised" fRa fdRa ["_law_number","_law_seed"]) (GRa:FnOk P w K mg base CX0 2 fRa fdRa ["_law_number","_law_seed"] d_2) (gRk:Gf K mg "_law_ranked" fRk fdRk ["_law_rank","_law_seed"]) (GRk:FnOk P w K mg base CX0 2 fRk fdRk ["_law_rank","_law_seed"] d_3)
 (gSg:Gf K mg "_law_signed" fSg fdSg ["_law_letters","_law_seed"]) (GSg:FnOk P w K mg base CX0 1 fSg fdSg ["_law_letters","_law_seed"] d_7) (gRm:Gf K mg "_law_row_moved" fRm fdRm ["_law_row","_law_seed"]) (GRm:FnOk P w K mg base CX0 3 fRm fdRm ["_law_row","_law_seed"] g_V):
 FnOk P w K mg base CX0 6 f fd ["_law_deed","_law_seed"] r_j:=by
 have GMv:FnOk P w K mg base CX0 5 f fd ["_law_deed","_law_seed"] o_B:=p_w F gMv gRa GRa gRk GRk gSg GSg gRm GRm;refine F.ok b_l (λvs H Q E h=> ?_) (λcdv A outer s H vs Q E U h=> ?_)
 ·obtain⟨a,d,sd,rfl,_⟩:=h
  rfl
 ·obtain⟨a,d,sd,rfl,g,I,B,fin⟩:=h
  have O:Room 1 _:=U.mono (by decide);have C:Room 2 _:=U.mono (by decide);have hr3:Room 3 _:=U.mono (by decide);have hr4:Room 5 _:=U
  refine⟨_,(a_c (a_w (i:=2) b_l.nd rfl (Or.inl rfl) (a_r (a_j K) (pv 0) a_g (λ_ _=>rfl)))
   (a_c (a_C (PW.pt (c_D (a_m a_J (pv 2) a_l (a_q _)) (b_I (a_m a_J (pv 2) a_l (a_q _))))) (a_f (a_o (a_H (a_a (pv 2) (a_a (a_k GRm hr3 rfl gRm.mg gRm.kp gRm.b .nil a_u (a_a (a_r (a_j K) (pv 0) a_g (λ_ _=>rfl)) (a_a (pv 1) a_d))) a_d))))) a_p)
   (a_c (a_C (PW.pt (c_D (a_m a_J (pv 2) a_l (a_q _)) (b_I (a_m a_J (pv 2) a_l (a_q _))))) (a_f (a_o (a_H (a_a (pv 2) (a_a (a_k GRa C rfl gRa.mg gRa.kp gRa.b .nil a_u (a_a (a_r (a_j K) (pv 0) a_g (λ_ _=>rfl)) (a_a (pv 1) a_d))) a_d))))) a_p)
   (a_c (a_C (a_m a_J (pv 2) a_l (a_q _)) (a_f (a_o (a_H (a_a (pv 2) (a_a (c_G (x:="_law_one") (fns:= ["_law_seed"]) (js:= [1]) rfl ⟨rfl,by decide+kernel,by decide+kernel,rfl,by decide+kernel,by decide+kernel,rfl,by simp[Env.kindOf];exact rfl,rfl,by decide+kernel⟩ (a_T K (a_r (a_j K) (pv 0) a_g (λ_ _=>rfl))) (λ_ _ _ _=>b_J) (λ_ _ _ _=>(a_k GMv hr4 rfl gMv.mg gMv.kp gMv.b .nil a_u (a_a (pv 0) (a_a (pv 1) a_d))))) a_d))))) a_p)
   (a_c (a_C (a_m a_J (pv 2) a_l (a_q _)) (a_f (a_o (a_H (a_a (pv 2) (a_a (a_r (a_j K) (pv 0) a_g (λ_ _=>rfl)) (a_a (a_k GRa C rfl gRa.mg gRa.kp gRa.b .nil a_u (a_a (a_r (a_j K) (pv 0) a_g (λ_ _=>rfl)) (a_a (pv 1) a_d))) a_d)))))) a_p)
   (a_c (a_C (PW.pt (e_O (a_m a_J (pv 2) a_l (a_q _)) (c_X (a_m a_J (a_r (a_j K) (pv 0) a_g (λ_ _=>rfl)) a_l (a_q _))))) (a_f (a_o (a_H (a_a (pv 2) (a_a (a_r (a_j K) (pv 0) a_g (λ_ _=>rfl)) (a_a (a_k GSg O rfl gSg.mg gSg.kp gSg.b .nil a_u (a_a (a_r (a_j K) (pv 0) a_g (λ_ _=>rfl)) (a_a (pv 1) a_d))) (a_a (a_k GSg O rfl gSg.mg gSg.kp gSg.b .nil a_u (a_a (a_r (a_j K) (pv 0) a_g (λ_ _=>rfl)) (a_a (pv 1) a_d))) a_d))))))) a_p)
   (a_c (a_C (a_m a_J (pv 2) a_l (a_q _)) (a_f (a_o (a_H (a_a (pv 2) (a_a (a_r (a_j K) (pv 0) a_g (λ_ _=>rfl)) (a_a (a_k GRk C rfl gRk.mg gRk.kp gRk.b .nil a_u (a_a (a_r (a_j K) (pv 0) a_g (λ_ _=>rfl)) (a_a (pv 1) a_d))) (a_a (a_k GRk C rfl gRk.mg gRk.kp gRk.b .nil a_u (a_a (a_r (a_j K) (pv 0) a_g (λ_ _=>rfl)) (a_a (pv 1) a_d))) a_d))))))) a_p)
   (a_c (a_C (a_m a_J (pv 2) a_l (a_q _)) (a_c (a_w (i:=3) b_l.nd rfl (Or.inl rfl) (a_k GRk C rfl gRk.mg gRk.kp gRk.b .nil a_u (a_a (a_r (a_j K) (pv 0) a_g (λ_ _=>rfl)) (a_a (pv 1) a_d))))
   (a_f (a_o (a_H (a_a (pv 2) (a_a (pv 3) (a_a (a_k GRk C rfl gRk.mg gRk.kp gRk.b .nil a_u (a_a (a_r (a_j K) (pv 0) a_g (λ_ _=>rfl)) (a_a (pv 1) a_d))) (a_a (a_k GSg O rfl gSg.mg gSg.kp gSg.b .nil a_u (a_a (a_r (a_j K) (pv 0) a_g (λ_ _=>rfl)) (a_a (pv 1) a_d))) a_d)))))))) a_p)
   (a_f (a_o (pv 0))))))))))),?_⟩
  have No:∀{x y:Str},(x == y)=false->¬ decide (V.str x=V.str y)=true:=λh q=>by
   have:=s_F q;injection this with this
   rw[this] at h;simp at h
  cases d with
  | chg c=>
    cases c with
    | bring ρ=>
      obtain⟨r,M,hρ⟩:=g;refine⟨_,rfl,a,_,_,_,rfl,rfl,SqT.of M,a_e (j:=0) rfl,?_⟩;refine⟨_,rfl,rfl,_,rfl,a_x (λ_=>k_S ?_) (λq=>absurd (s_D rfl) q)⟩;refine⟨_,rfl,_,rfl,a,_,_,_,rfl,rfl,SqT.of M,a_e (j:=1) rfl,_,rfl,r,ρ,sd,rfl,hρ,B.1,λb ρ' Z hb z hρ' en=>⟨by show 2<=sizeLine;decide,λt p=> ?_⟩⟩;exact fin t (.chg (.bring ρ')) _ (z.trans (Same.upd_new p)) ⟨b,a_b,Same.upd_new p _ _ hρ'⟩ trivial (show ρ'.n∈ML sd by rw[en];exact i_N B.2) (b_e a_b (by decide+kernel)) id
    | alter ρ=>
      obtain⟨r,M,hρ⟩:=g;refine⟨_,rfl,a,_,_,_,rfl,rfl,SqT.of M,a_e (j:=0) rfl,?_⟩;refine⟨_,rfl,rfl,_,rfl,a_x (λq=>absurd q (by decide+kernel)) (λ_=> ?_)⟩;refine⟨_,rfl,rfl,_,rfl,a_x (λ_=> ?_) (λq=>absurd (s_D rfl) q)⟩;refine⟨_,rfl,_,rfl,a,_,_,_,rfl,rfl,SqT.of M,a_e (j:=1) rfl,_,rfl,r,ρ,sd,rfl,hρ,B.1,λb ρ' Z hb z hρ' en=>⟨by show 2<=sizeLine;decide,λt p=> ?_⟩⟩;exact fin t (.chg (.alter ρ')) _ (z.trans (Same.upd_new p)) ⟨b,a_b,Same.upd_new p _ _ hρ'⟩ trivial (show ρ'.n∈ML sd by rw[en];exact i_N B.2) (b_e a_b (by decide+kernel)) id
    | cut n=>
      refine⟨_,rfl,a,_,_,_,rfl,rfl,SqT.of g,a_e (j:=0) rfl,?_⟩;refine⟨_,rfl,rfl,_,rfl,a_x (λq=>absurd q (by decide+kernel)) (λ_=> ?_)⟩;refine⟨_,rfl,rfl,_,rfl,a_x (λq=>absurd q (by decide+kernel)) (λ_=> ?_)⟩;refine⟨_,rfl,rfl,_,rfl,a_x (λ_=>k_S ?_) (λq=>absurd (s_D rfl) q)⟩;refine⟨_,rfl,_,rfl,a,_,_,_,rfl,rfl,SqT.of g,a_e (j:=1) rfl,_,rfl,n,sd,rfl,by show 2<=sizeLine;decide,λt p=> ?_⟩;exact fin t (.chg (.cut (b_w n sd))) _ (Same.upd_new p) a_b trivial (i_N B) (b_e a_b (by decide+kernel)) id
  | row n=>
    refine⟨_,rfl,a,_,_,_,rfl,rfl,SqT.of g,a_e (j:=0) rfl,?_⟩;refine⟨_,rfl,rfl,_,rfl,a_x (λq=>absurd q (by decide+kernel)) (λ_=> ?_)⟩;refine⟨_,rfl,rfl,_,rfl,a_x (λq=>absurd q (by decide+kernel)) (λ_=> ?_)⟩;refine⟨_,rfl,rfl,_,rfl,a_x (λq=>absurd q (by decide+kernel)) (λ_=> ?_)⟩;refine⟨_,rfl,rfl,_,rfl,a_x (λ_=> ?_) (λq=>absurd (s_D rfl) q)⟩;refine⟨_,rfl,_,rfl,a,_,_,_,rfl,rfl,SqT.of g,a_e (j:=1) rfl,_,rfl,n,sd,rfl,by show 2<=sizeLine;decide,λt p=> ?_⟩;exact fin t (.row (b_w n sd)) _ (Same.upd_new p) a_b trivial (c_0 B) (b_e a_b (by decide+kernel)) id
  | all cs=>
    obtain⟨l,as,M,h2,h3⟩:=g;refine⟨_,rfl,a,_,_,_,rfl,rfl,SqT.of M,a_e (j:=0) rfl,?_⟩;refine⟨_,rfl,rfl,_,rfl,a_x (λq=>absurd q (by decide+kernel)) (λ_=> ?_)⟩;refine⟨_,rfl,rfl,_,rfl,a_x (λq=>absurd q (by decide+kernel)) (λ_=> ?_)⟩;refine⟨_,rfl,rfl,_,rfl,a_x (λq=>absurd q (by decide+kernel)) (λ_=> ?_)⟩;refine⟨_,rfl,rfl,_,rfl,a_x (λq=>absurd q (by decide+kernel)) (λ_=> ?_)⟩;refine⟨_,rfl,rfl,_,rfl,a_x (λ_=> ?_) (λq=>absurd (s_D rfl) q)⟩;refine⟨_,rfl,_,rfl,a,_,_,_,rfl,rfl,SqT.of M,a_e (j:=1) rfl,l,rfl,⟨_,SqL.of h2⟩,λL hL=> ?_⟩;have s1:=Same.upd_new (o:= .lst []) hL;have hal:=Paired.length h3;refine c_C (K:=K) (xs:=as.map V.ref) (λi ys Hx=>Same H Hx/\∃(bs:List Addr) (cs':List Chg),ys=bs.map V.ref/\Paired (ChgAt Hx) bs cs'/\cs'.length=i/\∀c∈cs',c.tell sd) ⟨s1, [], [],rfl,.nil,rfl,by simp⟩ (λi ys Hx _ _ h=>SqL.of (h.1 _ _ h2)) ?_ ?_
    ·rintro i v ys Hx J hD ⟨sx,bs,cs',rfl,W,X,R⟩
     rw[r_9] at J;cases e:as[i]? with
     | none=>rw[e] at J;cases J
     | some b=>
       rw[e] at J;obtain rfl:V.ref b=v:=r_4 J;have hil:=(s_b.mp e).1;obtain⟨c,T⟩:∃c,cs[i]? =some c:=⟨_,r_Y (by omega)⟩;obtain⟨b',e',hcb⟩:=a_U h3 T;rw[e] at e';obtain rfl:b=b':=r_4 e';have hbl:=Paired.length W;have G:cs.length<=24:=I;refine⟨_,rfl,_,rfl,b,c,sd,rfl,hcb.mono (λx xs q=>sx _ _ q),B c (s_n T),λt c' Z p z hc' htc=> ?_⟩;have S:=z _ _ hD;refine⟨S,by rw[r_X];exact a_F (by omega),(Mov.upd S).same (sx.trans z) (λx N=>by rw[r_2.mp N];exact hL),bs++ [t],cs'++ [c'],by rw[r_5];rfl,?_, by simp;omega,λc T=> ?_⟩
       ·exact b_f (NoTup.keep (NoTup.lst S)) (a_D (b_f (λx xs q=>z _ _ q) W) (.cons hc' .nil))
       ·rcases s_f.mp T with q | q
        ·exact R c q
        ·rw[r_2.mp q];exact htc
    ·rintro ys Hx hD ⟨sx,bs,cs',rfl,W,X,R⟩
     refine⟨by show 2<=sizeLine;decide,λt p=> ?_⟩;have z:=Same.upd_new (o:= .tup [.str "all",.ref L]) p;refine fin t (.all cs') _ (sx.trans z) ⟨L,bs,a_b,z _ _ hD,b_f (λx xs q=>z _ _ q) W⟩ ?_ R (λl' e=> ?_) id
     ·have G:cs.length<=24:=I
      rw[r_X] at X;show cs'.length<=24;omega
     ·rw[a_b] at e
      injection e with e
      injection e with e
      injection e with _ e
      injection e with e _
      injection e with e
      rw[<-e];exact hL
  | spot x n=>
    refine⟨_,rfl,a,_,_,_,rfl,rfl,SqT.of g,a_e (j:=0) rfl,?_⟩;refine⟨_,rfl,rfl,_,rfl,a_x (λq=>absurd q (by decide+kernel)) (λ_=> ?_)⟩;refine⟨_,rfl,rfl,_,rfl,a_x (λq=>absurd q (by decide+kernel)) (λ_=> ?_)⟩;refine⟨_,rfl,rfl,_,rfl,a_x (λq=>absurd q (by decide+kernel)) (λ_=> ?_)⟩;refine⟨_,rfl,rfl,_,rfl,a_x (λq=>absurd q (by decide+kernel)) (λ_=> ?_)⟩;refine⟨_,rfl,rfl,_,rfl,a_x (λq=>absurd q (by decide+kernel)) (λ_=> ?_)⟩;refine⟨_,rfl,rfl,_,rfl,a_x (λ_=> ?_) (λq=>absurd (s_D rfl) q)⟩;refine⟨_,rfl,_,rfl,a,_,_,_,rfl,rfl,SqT.of g,a_e (j:=1) rfl,_,rfl,a,_,_,_,rfl,rfl,SqT.of g,a_e (j:=2) rfl,_,rfl,n,sd,rfl,by show 3<=sizeLine;decide,λt p=> ?_⟩;exact fin t (.spot x (b_w n sd)) _ (Same.upd_new p) a_b I (c_0 B) (b_e a_b (by decide+kernel)) id
  | within x lo J=>
    refine⟨_,rfl,a,_,_,_,rfl,rfl,SqT.of g,a_e (j:=0) rfl,?_⟩;refine⟨_,rfl,rfl,_,rfl,a_x (λq=>absurd q (by decide+kernel)) (λ_=> ?_)⟩;refine⟨_,rfl,rfl,_,rfl,a_x (λq=>absurd q (by decide+kernel)) (λ_=> ?_)⟩;refine⟨_,rfl,rfl,_,rfl,a_x (λq=>absurd q (by decide+kernel)) (λ_=> ?_)⟩;refine⟨_,rfl,rfl,_,rfl,a_x (λq=>absurd q (by decide+kernel)) (λ_=> ?_)⟩;refine⟨_,rfl,rfl,_,rfl,a_x (λq=>absurd q (by decide+kernel)) (λ_=> ?_)⟩;refine⟨_,rfl,rfl,_,rfl,a_x (λq=>absurd q (by decide+kernel)) (λ_=> ?_)⟩;refine⟨_,rfl,rfl,_,rfl,a_x (λ_=> ?_) (λq=>absurd (s_D rfl) q)⟩;refine⟨_,rfl,a,_,_,_,rfl,rfl,SqT.of g,a_e (j:=1) rfl,rfl,_,rfl,?_⟩;have G:b_v x lo J:=I.1;have Y:c_r x:=I.2;refine a_x (λq=> ?_) (λq=> ?_)
    ·have N:x="text":=by have:=s_F q;injection this
     rw[b_v,if_pos N] at G;obtain⟨t1,t2,rfl,rfl⟩:=G;refine⟨_,rfl,_,rfl,a,_,_,_,rfl,rfl,SqT.of g,a_e (j:=1) rfl,_,rfl,a,_,_,_,rfl,rfl,SqT.of g,a_e (j:=2) rfl,_,rfl,t1,sd,rfl,B.1 t1 rfl,λu1 Z z=> ?_⟩;refine⟨_,rfl,a,_,_,_,rfl,rfl,SqT.of (z _ _ g),a_e (j:=3) rfl,_,rfl,t2,sd,rfl,B.2 t2 rfl,λu2 H3 s3=>⟨by show 4<=sizeLine;decide,λt p=> ?_⟩⟩;refine fin t (.within x (.str u1) (.str u2)) _ ((z.trans s3).trans (Same.upd_new p)) a_b ?_ trivial (b_e a_b (by decide+kernel)) id;show b_v x _ _/\c_r x;rw[b_v,if_pos N];exact⟨⟨_,_,rfl,rfl⟩,Y⟩
    ·have N:¬ x="text":=λe=>q (by rw[e];exact s_D rfl)
     rw[b_v,if_neg N] at G;obtain⟨i,j,rfl,rfl⟩:=G;refine⟨_,rfl,rfl,_,rfl,a_x (λ_=> ?_) (λq=>absurd (s_D rfl) q)⟩;refine⟨_,rfl,_,rfl,a,_,_,_,rfl,rfl,SqT.of g,a_e (j:=1) rfl,_,rfl,a,_,_,_,rfl,rfl,SqT.of g,a_e (j:=2) rfl,_,rfl,i,sd,rfl,λr1=> ?_⟩;refine⟨_,rfl,a,_,_,_,rfl,rfl,SqT.of g,a_e (j:=3) rfl,_,rfl,j,sd,rfl,λr2=>⟨by show 4<=sizeLine;decide,λt p=> ?_⟩⟩;refine fin t (.within x (.int r1) (.int r2)) _ (Same.upd_new p) a_b ?_ trivial (b_e a_b (by decide+kernel)) id;show b_v x _ _/\c_r x;rw[b_v,if_neg N];exact⟨⟨_,_,rfl,rfl⟩,Y⟩
  | both lo J t0=>
    refine⟨_,rfl,a,_,_,_,rfl,rfl,SqT.of g,a_e (j:=0) rfl,?_⟩;refine⟨_,rfl,rfl,_,rfl,a_x (λq=>absurd q (by decide+kernel)) (λ_=> ?_)⟩;refine⟨_,rfl,rfl,_,rfl,a_x (λq=>absurd q (by decide+kernel)) (λ_=> ?_)⟩;refine⟨_,rfl,rfl,_,rfl,a_x (λq=>absurd q (by decide+kernel)) (λ_=> ?_)⟩;refine⟨_,rfl,rfl,_,rfl,a_x (λq=>absurd q (by decide+kernel)) (λ_=> ?_)⟩;refine⟨_,rfl,rfl,_,rfl,a_x (λq=>absurd q (by decide+kernel)) (λ_=> ?_)⟩;refine⟨_,rfl,rfl,_,rfl,a_x (λq=>absurd q (by decide+kernel)) (λ_=> ?_)⟩;refine⟨_,rfl,rfl,_,rfl,a_x (λq=>absurd q (by decide+kernel)) (λ_=>i_W ?_)⟩;refine⟨_,rfl,rfl,_,rfl,a_x (λq=>absurd q (by decide+kernel)) (λ_=> ?_)⟩;refine⟨_,rfl,rfl,_,rfl,a_x (λ_=> ?_) (λq=>absurd (s_D rfl) q)⟩;refine⟨_,rfl,a,_,_,_,rfl,rfl,SqT.of g,a_e (j:=1) rfl,_,rfl,lo,sd,rfl,λr1=> ?_⟩;refine⟨_,rfl,_,rfl,_,rfl,a,_,_,_,rfl,rfl,SqT.of g,a_e (j:=2) rfl,_,rfl,J,sd,rfl,λr2=> ?_⟩;refine⟨_,rfl,a,_,_,_,rfl,rfl,SqT.of g,a_e (j:=3) rfl,_,rfl,t0,sd,rfl,B,λu H3 s3=>⟨by show 4<=sizeLine;decide,λt p=> ?_⟩⟩;exact fin t (.both r1 r2 u) _ (s3.trans (Same.upd_new p)) a_b trivial trivial (b_e a_b (by decide+kernel)) id
  | begin=>
    refine⟨_,rfl,a,_,_,_,rfl,rfl,SqT.of g,a_e (j:=0) rfl,?_⟩;refine⟨_,rfl,rfl,_,rfl,a_x (λq=>absurd q (by decide+kernel)) (λ_=> ?_)⟩;refine⟨_,rfl,rfl,_,rfl,a_x (λq=>absurd q (by decide+kernel)) (λ_=> ?_)⟩;refine⟨_,rfl,rfl,_,rfl,a_x (λq=>absurd q (by decide+kernel)) (λ_=> ?_)⟩;refine⟨_,rfl,rfl,_,rfl,a_x (λq=>absurd q (by decide+kernel)) (λ_=> ?_)⟩;refine⟨_,rfl,rfl,_,rfl,a_x (λq=>absurd q (by decide+kernel)) (λ_=> ?_)⟩;refine⟨_,rfl,rfl,_,rfl,a_x (λq=>absurd q (by decide+kernel)) (λ_=> ?_)⟩;refine⟨_,rfl,rfl,_,rfl,a_x (λq=>absurd q (by decide+kernel)) (λ_=>i_W ?_)⟩;refine⟨_,rfl,rfl,_,rfl,a_x (λq=>absurd q (by decide+kernel)) (λ_=> ?_)⟩;refine⟨_,rfl,rfl,_,rfl,a_x (λq=>absurd q (by decide+kernel)) (λ_=> ?_)⟩;exact⟨_,rfl,fin a (.begin) H (Same.refl H) g I trivial (b_e g (by decide+kernel)) id⟩
  | keep=>
    refine⟨_,rfl,a,_,_,_,rfl,rfl,SqT.of g,a_e (j:=0) rfl,?_⟩;refine⟨_,rfl,rfl,_,rfl,a_x (λq=>absurd q (by decide+kernel)) (λ_=> ?_)⟩;refine⟨_,rfl,rfl,_,rfl,a_x (λq=>absurd q (by decide+kernel)) (λ_=> ?_)⟩;refine⟨_,rfl,rfl,_,rfl,a_x (λq=>absurd q (by decide+kernel)) (λ_=> ?_)⟩;refine⟨_,rfl,rfl,_,rfl,a_x (λq=>absurd q (by decide+kernel)) (λ_=> ?_)⟩;refine⟨_,rfl,rfl,_,rfl,a_x (λq=>absurd q (by decide+kernel)) (λ_=> ?_)⟩;refine⟨_,rfl,rfl,_,rfl,a_x (λq=>absurd q (by decide+kernel)) (λ_=> ?_)⟩;refine⟨_,rfl,rfl,_,rfl,a_x (λq=>absurd q (by decide+kernel)) (λ_=>i_W ?_)⟩;refine⟨_,rfl,rfl,_,rfl,a_x (λq=>absurd q (by decide+kernel)) (λ_=> ?_)⟩;refine⟨_,rfl,rfl,_,rfl,a_x (λq=>absurd q (by decide+kernel)) (λ_=> ?_)⟩;exact⟨_,rfl,fin a (.keep) H (Same.refl H) g I trivial (b_e g (by decide+kernel)) id⟩
  | brk=>
    refine⟨_,rfl,a,_,_,_,rfl,rfl,SqT.of g,a_e (j:=0) rfl,?_⟩;refine⟨_,rfl,rfl,_,rfl,a_x (λq=>absurd q (by decide+kernel)) (λ_=> ?_)⟩;refine⟨_,rfl,rfl,_,rfl,a_x (λq=>absurd q (by decide+kernel)) (λ_=> ?_)⟩;refine⟨_,rfl,rfl,_,rfl,a_x (λq=>absurd q (by decide+kernel)) (λ_=> ?_)⟩;refine⟨_,rfl,rfl,_,rfl,a_x (λq=>absurd q (by decide+kernel)) (λ_=> ?_)⟩;refine⟨_,rfl,rfl,_,rfl,a_x (λq=>absurd q (by decide+kernel)) (λ_=> ?_)⟩;refine⟨_,rfl,rfl,_,rfl,a_x (λq=>absurd q (by decide+kernel)) (λ_=> ?_)⟩;refine⟨_,rfl,rfl,_,rfl,a_x (λq=>absurd q (by decide+kernel)) (λ_=>i_W ?_)⟩;refine⟨_,rfl,rfl,_,rfl,a_x (λq=>absurd q (by decide+kernel)) (λ_=> ?_)⟩;refine⟨_,rfl,rfl,_,rfl,a_x (λq=>absurd q (by decide+kernel)) (λ_=> ?_)⟩;exact⟨_,rfl,fin a (.brk) H (Same.refl H) g I trivial (b_e g (by decide+kernel)) id⟩
  | «from» x k m=>
    refine⟨_,rfl,a,_,_,_,rfl,rfl,SqT.of g,a_e (j:=0) rfl,?_⟩;refine⟨_,rfl,rfl,_,rfl,a_x (λq=>absurd q (by decide+kernel)) (λ_=> ?_)⟩;refine⟨_,rfl,rfl,_,rfl,a_x (λq=>absurd q (by decide+kernel)) (λ_=> ?_)⟩;refine⟨_,rfl,rfl,_,rfl,a_x (λq=>absurd q (by decide+kernel)) (λ_=> ?_)⟩;refine⟨_,rfl,rfl,_,rfl,a_x (λq=>absurd q (by decide+kernel)) (λ_=> ?_)⟩;refine⟨_,rfl,rfl,_,rfl,a_x (λq=>absurd q (by decide+kernel)) (λ_=> ?_)⟩;refine⟨_,rfl,rfl,_,rfl,a_x (λq=>absurd q (by decide+kernel)) (λ_=> ?_)⟩;refine⟨_,rfl,rfl,_,rfl,a_x (λq=>absurd q (by decide+kernel)) (λ_=>i_W ?_)⟩;refine⟨_,rfl,rfl,_,rfl,a_x (λq=>absurd q (by decide+kernel)) (λ_=> ?_)⟩;refine⟨_,rfl,rfl,_,rfl,a_x (λq=>absurd q (by decide+kernel)) (λ_=> ?_)⟩;exact⟨_,rfl,fin a (.from x k m) H (Same.refl H) g I trivial (b_e g (by decide+kernel)) id⟩
end
def e_T (room:Int) (kd mk:Addr):List (Key×V):= [(Sum.inr "room",.int room),(Sum.inr "kept",.ref kd),(Sum.inr "marks",.ref mk)]
theorem q_f:¬ ((Sum.inr ("room":Str):Key)=Sum.inr ("kept":Str)):=by decide+kernel
theorem r_f:¬ ((Sum.inr ("room":Str):Key)=Sum.inr ("marks":Str)):=by decide+kernel
theorem q_6:¬ ((Sum.inr ("kept":Str):Key)=Sum.inr ("marks":Str)):=by decide+kernel
theorem k_0 (room:Int) (kd mk:Addr):d_K (e_T room kd mk) (Sum.inr "room")=some (.int room):=b_Y rfl
theorem l_O (room:Int) (kd mk:Addr):d_K (e_T room kd mk) (Sum.inr "kept")=some (.ref kd):=(b_t q_f).trans (b_Y rfl)
theorem j_m (room:Int) (kd mk:Addr):d_K (e_T room kd mk) (Sum.inr "marks")=some (.ref mk):=(b_t r_f).trans ((b_t q_6).trans (b_Y rfl))
theorem k_X {H:Hp} {st kd mk:Addr} {room:Int} (h:H st=some (.dK (e_T room kd mk))):DGet H st (.str "room") (some (.int room)):=k_0 room kd mk ▸ DGet.k (k:=Sum.inr "room") h
theorem b_2 {H:Hp} {st kd mk:Addr} {room:Int} (h:H st=some (.dK (e_T room kd mk))):DGet H st (.str "kept") (some (.ref kd)):=l_O room kd mk ▸ DGet.k (k:=Sum.inr "kept") h
theorem c_v {H:Hp} {st kd mk:Addr} {room:Int} (h:H st=some (.dK (e_T room kd mk))):DGet H st (.str "marks") (some (.ref mk)):=j_m room kd mk ▸ DGet.k (k:=Sum.inr "marks") h
theorem c_2 {H:Hp} {d:Addr} {kvs:List (Key×V)} {n:Int} (h:H d=some (.dK kvs)):DGet H d (.int n) (d_K kvs (Sum.inl n)):=DGet.k (k:=Sum.inl n) h
theorem l_D {H:Hp} {d:Addr} {kvs:List (Key×V)} {o:HO} (h:H d=some (.dK kvs)):∀b xs,H b=some (.tup xs)->(upd H d o) b=some (.tup xs):=λb xs e=>by
 rw[a_i (λq=>by rw[q,h] at e;cases e)];exact e
theorem n_C {H:Hp} {o:HO} (d:Addr):∀b u,H b=some u->b≠d->(upd H d o) b=some u:=λb u e hn=>by rw[a_i hn];exact e
section
variable {P:Program} {w:World} {K:PySem.W.Frag} {mg:Str->Option Value} {base:Heap}
def e_d:Sp:=λvs H Q _=>∃(st kd mk a:Addr) (room:Int) (l:List Row) (c:Chg),vs= [.ref st,.ref a]/\H st=some (.dK (e_T room kd mk))/\KeptAt H kd l/\ChgAt H a c/\l.length<=1000/\
 ∀H',KeptAt H' kd (b_g room l c).1->(∀b u,H b=some u->b≠kd->H' b=some u)->Q (.str (b_g room l c).2) H'
theorem g_r:a_s ["_law_store","_law_deed","_law_kept"] ["_law_store","_law_deed"] (a_n f_K):=⟨rfl,rfl,rfl,by decide+kernel,rfl,by decide+kernel,by decide+kernel⟩
theorem i_p {f:Addr} {fd:FuncData} (F:Fun K "_law_changed" "_law_changed" f_K f fd) (B:Bt mg):FnOk P w K mg base CX0 1 f fd ["_law_store","_law_deed"] e_d:=by
 refine F.ok g_r (λvs H Q E h=> ?_) (λcdv A outer s H vs Q E O h=> ?_)
 ·obtain⟨st,kd,mk,a,room,l,c,rfl,_⟩:=h
  rfl
 ·obtain⟨st,kd,mk,a,room,l,c,rfl,I,⟨rs,g,m⟩,v,M,fin⟩:=h
  have p:=e_V O
  refine⟨_,(a_c (a_w (i:=2) g_r.nd rfl (Or.inl rfl) (b_n p (pv 0) a_l (λ_ _=>rfl)))
   (a_c (a_C (a_m a_J (a_r (a_j K) (pv 1) a_g (λ_ _=>rfl)) a_l (a_q _)) (a_c (a_C (d_N (m_f p (a_r (a_j K) (a_r (a_j K) (pv 1) a_g (λ_ _=>rfl)) a_g (λ_ _=>rfl)) (pv 2))) (a_f (a_o a_l)) a_p)
   (a_c (a_C (a_m j_c (a_t f_8 (by rfl) B.len s_G (a_a (pv 2) a_d)) (b_n p (pv 0) a_l (λ_ _=>rfl)) (a_q _)) (a_f (a_o a_l)) a_p)
   (a_f (e_g p (pv 2) (a_r (a_j K) (a_r (a_j K) (pv 1) a_g (λ_ _=>rfl)) a_g (λ_ _=>rfl)) (a_r (a_j K) (pv 1) a_g (λ_ _=>rfl)) rfl)))) (a_f (a_C (a_m a_J (a_r (a_j K) (pv 1) a_g (λ_ _=>rfl)) a_l (a_q _)) (a_c (a_C (d_N (d_s p (a_r (a_j K) (a_r (a_j K) (pv 1) a_g (λ_ _=>rfl)) a_g (λ_ _=>rfl)) (pv 2))) (a_f (a_o a_l)) a_p)
   (a_f (e_g p (pv 2) (a_r (a_j K) (a_r (a_j K) (pv 1) a_g (λ_ _=>rfl)) a_g (λ_ _=>rfl)) (a_r (a_j K) (pv 1) a_g (λ_ _=>rfl)) rfl))) (a_c (a_C (d_N (d_s p (a_r (a_j K) (pv 1) a_g (λ_ _=>rfl)) (pv 2))) (a_f (a_o a_l)) a_p)
   (a_f (a_y (h_2 (pv 2) (a_r (a_j K) (pv 1) a_g (λ_ _=>rfl)) ⟨rfl,rfl,rfl,rfl⟩)))))))
   (a_f (a_o a_l)))),?_⟩
  have G:(a_L rs l).length < sizeLine:=by rw[c_8 m];exact a_F M
  refine⟨_,rfl,st,_,rfl,b_2 I,?_⟩;have same:∀b u,H b=some u->b≠kd->H b=some u:=λb u h _=>h;cases c with
  | bring ρ=>
    obtain⟨r,t,hρ⟩:=v;obtain⟨C,J⟩:=b_4 (n:=ρ.n) m;refine⟨_,rfl,a,_,_,_,rfl,rfl,SqT.of t,a_e (j:=0) rfl,rfl,_,rfl,a_x (λ_=> ?_) (λq=>absurd (s_D rfl) q)⟩;refine⟨_,rfl,a,_,_,_,rfl,rfl,SqT.of t,a_e (j:=1) rfl,r,_,_,_,rfl,rfl,SqT.of hρ,a_e (j:=0) rfl,_,rfl,kd,_,rfl,c_2 g,_,rfl,?_⟩;rw[C];refine a_x (λd=> ?_) (λd=> ?_)
    ·have e:b_g room l (.bring ρ)=(l,("taken":Str)):=by simp[b_g,d]
     have:=fin H;rw[e] at this;exact this ⟨rs,g,m⟩ same
    refine⟨_,rfl,kd,_,rfl,g,_,rfl,st,_,rfl,k_X I,_,_,rfl,rfl,_,rfl,?_⟩;refine a_x (λL=> ?_) (λL=> ?_)
    ·have x:room<=(l.length:Int):=by have:=s_F L;rw[c_8 m] at this;exact this
     have e:b_g room l (.bring ρ)=(l,("full":Str)):=by simp[b_g,d,x]
     have:=fin H;rw[e] at this;exact this ⟨rs,g,m⟩ same
    have x:¬ room<=(l.length:Int):=λq=>L (s_D (by rw[c_8 m];exact q));obtain⟨rs',y,z⟩:=h_g hρ m;refine⟨_,rfl,a,_,_,_,rfl,rfl,SqT.of t,a_e (j:=1) rfl,_,rfl,_,rfl,a,_,_,_,rfl,rfl,SqT.of t,a_e (j:=1) rfl,r,_,_,_,rfl,rfl,SqT.of hρ,a_e (j:=0) rfl,kd,_,rfl,DPut.k (k:=Sum.inl ρ.n) g G,?_⟩;have e:b_g room l (.bring ρ)=(c_m l ρ,("done":Str)):=by simp only[b_g,if_neg d,if_neg x]
    have:=fin (upd H kd (.dK (d_q (a_L rs l) (Sum.inl ρ.n) (V.ref r))));rw[e] at this;exact this ⟨rs',by rw[y];exact a_b,z.same (l_D g)⟩ (n_C kd)
  | alter ρ=>
    obtain⟨r,t,hρ⟩:=v;obtain⟨C,J⟩:=b_4 (n:=ρ.n) m;refine⟨_,rfl,a,_,_,_,rfl,rfl,SqT.of t,a_e (j:=0) rfl,rfl,_,rfl,a_x (λq=>absurd q (by decide+kernel)) (λ_=> ?_)⟩;refine⟨_,rfl,a,_,_,_,rfl,rfl,SqT.of t,a_e (j:=0) rfl,rfl,_,rfl,a_x (λ_=> ?_) (λq=>absurd (s_D rfl) q)⟩;refine⟨_,rfl,a,_,_,_,rfl,rfl,SqT.of t,a_e (j:=1) rfl,r,_,_,_,rfl,rfl,SqT.of hρ,a_e (j:=0) rfl,_,rfl,kd,_,rfl,c_2 g,_,rfl,?_⟩;rw[C];refine a_x (λd=> ?_) (λd=> ?_)
    ·have o:¬ b_u l ρ.n=true:=λq=>by rw[q] at d;cases d
     have e:b_g room l (.alter ρ)=(l,("missing":Str)):=by simp only[b_g,if_neg o]
     have:=fin H;rw[e] at this;exact this ⟨rs,g,m⟩ same
    have o:b_u l ρ.n=true:=by
     cases q:b_u l ρ.n with
     | true=>rfl
     | false=>rw[q] at d;exact absurd rfl d
    obtain⟨rs',y,z⟩:=h_g hρ m;refine⟨_,rfl,a,_,_,_,rfl,rfl,SqT.of t,a_e (j:=1) rfl,_,rfl,_,rfl,a,_,_,_,rfl,rfl,SqT.of t,a_e (j:=1) rfl,r,_,_,_,rfl,rfl,SqT.of hρ,a_e (j:=0) rfl,kd,_,rfl,DPut.k (k:=Sum.inl ρ.n) g G,?_⟩;have e:b_g room l (.alter ρ)=(c_m l ρ,("done":Str)):=by simp only[b_g,if_pos o]
    have:=fin (upd H kd (.dK (d_q (a_L rs l) (Sum.inl ρ.n) (V.ref r))));rw[e] at this;exact this ⟨rs',by rw[y];exact a_b,z.same (l_D g)⟩ (n_C kd)
  | cut n=>
    obtain⟨C,J⟩:=b_4 (n:=n) m;refine⟨_,rfl,a,_,_,_,rfl,rfl,SqT.of v,a_e (j:=0) rfl,rfl,_,rfl,a_x (λq=>absurd q (by decide+kernel)) (λ_=> ?_)⟩;refine⟨_,rfl,a,_,_,_,rfl,rfl,SqT.of v,a_e (j:=0) rfl,rfl,_,rfl,a_x (λq=>absurd q (by decide+kernel)) (λ_=> ?_)⟩;refine⟨_,rfl,a,_,_,_,rfl,rfl,SqT.of v,a_e (j:=1) rfl,_,rfl,kd,_,rfl,c_2 g,_,rfl,?_⟩;rw[C];refine a_x (λd=> ?_) (λd=> ?_)
    ·have o:¬ b_u l n=true:=λq=>by rw[q] at d;cases d
     have e:b_g room l (.cut n)=(l,("missing":Str)):=by simp only[b_g,if_neg o]
     have:=fin H;rw[e] at this;exact this ⟨rs,g,m⟩ same
    have o:b_u l n=true:=by
     cases q:b_u l n with
     | true=>rfl
     | false=>rw[q] at d;exact absurd rfl d
    obtain⟨rs',y,z⟩:=f_L (n:=n) m;obtain⟨r,ρ,N,_⟩:=J o;refine⟨_,rfl,kd,rfl,.inl ⟨_,.inl g⟩,_,rfl,a,_,_,_,rfl,rfl,SqT.of v,a_e (j:=1) rfl,_,Sum.inl n,_,g,rfl,N,?_⟩;have e:b_g room l (.cut n)=(b_a l n,("done":Str)):=by simp only[b_g,if_pos o]
    have:=fin (upd H kd (.dK (d_I (a_L rs l) (Sum.inl n))));rw[e] at this;exact this ⟨rs',by rw[y];exact a_b,z.same (l_D g)⟩ (n_C kd)
end
end K1
namespace L2
open PySem PySem.Spec PyProof.Rows
section
variable {X:Cx}
def p_N:V->List V->Hp->VK->Prop:=λx vs H Q=>∃a kvs,x= .ref a/\vs= []/\H a=some (.dK kvs)/\∀p,H p=none->Q (.ref p) (upd H p (.dK kvs))
theorem h_7:MtM X "dict.copy" p_N:=by
 intro pins s σ H x vs v us Q I rx rv h;obtain⟨a,kvs,rfl,rfl,b,q⟩:=h;cases rx;cases rv;obtain⟨z,c,ws,rel,dd⟩:=i_L I.hok b;refine call_meetsIn PySem.F.slot_dict_copy dd.typeIs PySem.F.entry_dict_copy (PySem.F.args_dict_copy_1 _) (meets_dict_copy (a_Y X.prog X.w) a c) ⟨ws,dd,by rw[<-rel.length];exact z,λg e f d=> ?_⟩;exact⟨.ref s.heap.objs.size,_,I.laid (a:=s.heap.objs.size) (o:= .dK kvs) (t':=s.toks) d (r_6 _) (g_i z (beq_eq_false_iff_ne.mpr (Ne.symm (s_l I.big))) rel e),rfl,q _ (I.hok.fresh (r_6 _))⟩
end
end L2
namespace K1
open PySem L2 TO
section
variable {P:Program} {w:World} {K:PySem.W.Frag} {mg:Str->Option Value} {base:Heap}
def e_5:Sp:=λvs H Q _=>∃room,vs= [.int room]/\∀(st kd mk:Addr) (H':Hp),H st=none->H kd=none->H mk=none-> [st,kd,mk].Nodup->Same H H'->H' st=some (.dK (e_T room kd mk))->H' kd=some (.dK [])->H' mk=some (.lst [])->Q (.ref st) H'
def d_P:Sp:=λvs H Q _=>∃(st kd mk la:Addr) (as:List Addr) (room:Int) (l:List Row) (cs:List Chg),vs= [.ref st,.ref la]/\H st=some (.dK (e_T room kd mk))/\KeptAt H kd l/\H la=some (.lst (as.map V.ref))/\Paired (ChgAt H) as cs/\cs.length+l.length<=1000/\kd≠st/\
 ∀(v:V) (kd':Addr) (H':Hp),H' st=some (.dK (e_T room kd' mk))->KeptAt H' kd' (d_R room l 0 l cs).1->(kd'=kd\/H kd'=none)->(∀b u,H b=some u->b≠kd->b≠st->H' b=some u)->Bears H' (d_R room l 0 l cs).2 v->Q v H'
theorem b_V:a_s ["_law_store","_law_deeds","_law_before","_law_place","_law_told"] ["_law_store","_law_deeds"] (a_n c_1):=⟨rfl,rfl,rfl,by decide+kernel,rfl,by decide+kernel,by decide+kernel⟩
theorem r_Q:¬ ((Sum.inr ("marks":Str):Key)=Sum.inr ("kept":Str)):=by decide+kernel
theorem j_B (room:Int) (kd mk bd:Addr):d_q (e_T room kd mk) (Sum.inr ("kept":Str)) (.ref bd)=e_T room bd mk:=by
 unfold d_q e_T;simp only[List.any_cons,s_c,List.map_nil,if_neg q_f,if_neg r_Q,if_true,decide_true,Bool.true_or,Bool.or_true]
theorem o_s (l:List Row) (ρ:Row):(c_m l ρ).length<=l.length+1:=by
 unfold c_m
 split <;> simp
theorem n_P (room:Int) (l:List Row) (c:Chg):(b_g room l c).1.length<=l.length+1:=by
 cases c <;> unfold b_g <;> (repeat' split) <;> first | exact Nat.le_succ _ | exact o_s _ _ | exact Nat.le_succ_of_le (s_y _ _)
theorem f_B {f fCd:Addr} {fd fdCd:FuncData} (F:Fun K "_law_all_changed" "_law_all_changed" c_1 f fd) (B:Bt mg) (gCd:Gf K mg "_law_changed" fCd fdCd ["_law_store","_law_deed"]) (GCd:FnOk P w K mg base CX0 1 fCd fdCd ["_law_store","_law_deed"] e_d):FnOk P w K mg base CX0 2 f fd ["_law_store","_law_deeds"] d_P:=by
 refine F.ok b_V (λvs H Q E h=> ?_) (λcdv A outer s H vs Q E hr h=> ?_)
 ·obtain⟨st,kd,mk,la,as,room,l,cs,rfl,_⟩:=h
  rfl
 ·obtain⟨st,kd,mk,la,as,room,l,cs,rfl,C,hk,r,hC,hsz,a7,fin⟩:=h
  have L:=e_V hr;have a1:Room 1 _:=hr.mono (by decide)
  refine⟨_,(a_c (a_w (i:=2) b_V.nd rfl (Or.inl rfl) (e_v PySem.F.plainAttrs_dict PySem.F.slot_dict_copy PySem.F.type_dict_copy h_7 (b_n L (pv 0) a_l (λ_ _=>rfl))))
   (a_c (b_Z PassesOwn.never rfl (c_a rfl B.range (a_a (a_t (a_B K) (by rfl) B.len s_G (a_a (pv 1) a_d)) a_d)) (b_b (i:=3) b_V.nd rfl (Or.inl rfl))
   (a_c (a_w (i:=4) b_V.nd rfl (Or.inl rfl) (a_k GCd a1 rfl gCd.mg gCd.kp gCd.b .nil a_u (a_a (pv 0) (a_a (a_r (a_G K) (pv 1) (pv 3) (λ_ _=>rfl)) a_d))))
   (a_f (a_C (a_m d_m (pv 4) a_l (a_q _)) (a_c (e_g L (pv 0) a_l (pv 2) rfl)
   (a_f (a_o (a_H (a_a (pv 3) (a_a (pv 4) a_d)))))) a_p))))
   (a_f (a_o a_l)))),?_⟩
  obtain⟨rs,j,hR⟩:=id hk;have hal:=Paired.length hC;refine⟨_,rfl,st,_,rfl,b_2 C,.inr (.inr (.inl ⟨rfl,.inl ⟨_,j⟩⟩)),kd,_,rfl,rfl,j,λd v=> ?_⟩;have y:Same H (upd H d (.dK (a_L rs l))):=Same.upd_new v;have a6:d≠kd:=(a_h j v).symm;have hbs:d≠st:=(a_h C v).symm;have a2:KeptAt (upd H d (.dK (a_L rs l))) d l:=⟨rs,a_b,hR.same λb xs q=>y _ _ q⟩;have G:((((as.map V.ref).length:Nat):Int)).toNat=cs.length:=by rw[r_X];omega
  refine⟨_,rfl,la,_,rfl,.inl (SqL.of (y _ _ r)),_,rfl,by omega,by rw[r_X];omega,b_7 (lo:=0) (n:=((((as.map V.ref).length:Nat):Int)).toNat) (λi σ Hx=>∃(li:List Row) (W S:Option V),σ= [some (.ref st),some (.ref la),some (.ref d),W,S]/\d_R room l i li (cs.drop i)=d_R room l 0 l cs/\Hx st=some (.dK (e_T room kd mk))/\KeptAt Hx kd li/\KeptAt Hx d l/\li.length<=l.length+i/\∀b u,H b=some u->b≠kd->Hx b=some u)
   ⟨l,none,none,rfl,rfl,y _ _ C,KeptAt.same hk y,a2,by omega,λb u h _=>y _ _ h⟩ ?_ ?_⟩
  ·rintro i σ Hx Z ⟨li,W,S,rfl,x,g,p,M,hli,kp⟩
   rw[G] at Z;obtain⟨c,hc⟩:∃c,cs[i]? =some c:=⟨_,r_Y Z⟩;obtain⟨a,ea,a4⟩:=a_U hC hc;have a0:la≠kd:=λe=>by rw[e,j] at r;cases r
   have ga:(as.map V.ref)[i]? =some (V.ref a):=by rw[r_9,ea];rfl
   have gi:atI (as.map V.ref) (0+(i:Int))=some (V.ref a):=by rw[Int.zero_add];exact a_e ga
   obtain⟨rs',hkx,hRx⟩:=id p;have a5:ChgAt Hx a c:=a4.mono λb xs q=>kp _ _ q λe=>by rw[e,j] at q;cases q
   refine⟨_,rfl,_,rfl,_,rfl,la,_,_,_,rfl,rfl,SqL.of (kp _ _ r a0),gi,st,kd,mk,a,room,li,c,rfl,g,p,a5,by omega,λI k2 T=> ?_⟩
   have ed:cs.drop i=c::cs.drop (i+1):=by
    rw[List.drop_eq_getElem_cons Z];have:=(s_b.mp hc).2;rw[this]
   have m:=T _ _ g a7.symm;have J:KeptAt I d l:=KeptAt.but M hkx a6 T;have N:∀b u,H b=some u->b≠kd->I b=some u:=λb u h G=>T _ _ (kp _ _ h G) G;have hle:=n_P room li c;rw[ed] at x;refine⟨_,rfl,rfl,_,rfl,a_x (λq=> ?_) (λq=> ?_)⟩
   ·have R:¬ (b_g room li c).2="done":=λe=>by rw[e] at q;exact absurd q (by decide+kernel)
    refine⟨_,rfl,_,rfl,st,_,rfl,DPut.k (k:=Sum.inr ("kept":Str)) m (by show 3 < sizeLine;decide),?_⟩;rw[j_B];refine⟨_,rfl,_,rfl,by show 2<=sizeLine;decide,λt ht=> ?_⟩;have U:=Same.upd_new (o:= .tup [V.int (0+(i:Int)),V.str (b_g room li c).2]) ht
    have eA:d_R room l 0 l cs=(l,D.tup [.int (i:Int),.str (b_g room li c).2]):=by
     rw[<-x];simp only[d_R,if_neg R]
    have f:=fin (.ref t) d (upd (upd I st (.dK (e_T room d mk))) t (.tup [V.int (0+(i:Int)),V.str (b_g room li c).2]));rw[eA] at f;obtain⟨rb,Y,O⟩:=id J;have a3:KeptAt (upd I st (.dK (e_T room d mk))) d l:=⟨rb,by rw[a_i hbs];exact Y,O.same (l_D m)⟩;refine f (U _ _ a_b) (KeptAt.same a3 U) (.inr v) (λb u h X h2=>U _ _ (by rw[a_i h2];exact N _ _ h X)) ?_;refine .tup a_b (.cons ?_ (.cons (.str _) .nil));rw[Int.zero_add];exact .int _
   ·have R:(b_g room li c).2="done":=by
     cases e:decide ((b_g room li c).2=("done":Str)) with
     | true=>exact s_F e
     | false=>
       exfalso;apply q;have:¬ V.str (b_g room li c).2=V.str "done":=λz=>(of_decide_eq_false e) (by injection z);rw[s_E this];rfl
    refine⟨(b_g room li c).1,_,_,rfl,?_, m,k2,J,by omega,N⟩;rw[<-x];simp only[d_R,if_pos R]
  ·rintro σ Hx ⟨li,W,S,rfl,x,g,p,M,hli,kp⟩
   rw[G,List.drop_of_length_le (r_6 _)] at x;have f:=fin (.str "done") kd Hx;rw[<-x] at f;exact f g p (.inl rfl) (λb u h X _=>kp _ _ h X) (.str _)
theorem i_E:a_s ["_law_room"] ["_law_room"] (a_n e_J):=⟨rfl,rfl,rfl,by decide+kernel,rfl,by decide+kernel,by decide+kernel⟩
theorem p_z (x y z:V):e_k [] [((Sum.inr ("room":Str):Key),x),(Sum.inr ("kept":Str),y),(Sum.inr ("marks":Str),z)]= [(Sum.inr ("room":Str),x),(Sum.inr ("kept":Str),y),(Sum.inr ("marks":Str),z)]:=by
 have b:d_q ([]:List (Key×V)) (Sum.inr ("room":Str)) x= [(Sum.inr ("room":Str),x)]:=d_X _ rfl;have c:d_q [((Sum.inr ("room":Str):Key),x)] (Sum.inr ("kept":Str)) y= [(Sum.inr ("room":Str),x),(Sum.inr ("kept":Str),y)]:=d_X _ (b_t q_f);have a:d_q [((Sum.inr ("room":Str):Key),x),(Sum.inr ("kept":Str),y)] (Sum.inr ("marks":Str)) z= [(Sum.inr ("room":Str),x),(Sum.inr ("kept":Str),y),(Sum.inr ("marks":Str),z)]:=d_X _ ((b_t r_f).trans (b_t q_6));simp only[e_k,List.foldl_cons,List.foldl_nil,b,c,a]
theorem g_4 {f:Addr} {fd:FuncData} (F:Fun K "_law_new_store" "_law_new_store" e_J f fd):FnOk P w K mg base CX0 1 f fd ["_law_room"] e_5:=by
 refine F.ok i_E (λvs H Q E h=> ?_) (λcdv A outer s H vs Q E m h=> ?_)
 ·obtain⟨room,rfl,_⟩:=h
  rfl
 ·obtain⟨room,rfl,fin⟩:=h
  refine⟨_,(a_f (a_o (m_O (f_H a_l (pv 0) (f_H a_l h_U (f_H a_l (a_P a_d) n_y))) rfl rfl (by simp) (by decide)))),?_⟩;intro st d;refine⟨_,rfl,λkd c=>⟨by show 0<=sizeLine;decide,λmk a=> ?_⟩⟩;have g:Same H (upd H st (.dK [])):=Same.upd_new d;have e:=Same.upd_new (o:= .dK []) c;have i:=Same.upd_new (o:= .lst []) a;have j:st≠kd:=a_h a_b c;have k:st≠mk:=a_h (e _ _ a_b) a;have l:kd≠mk:=a_h a_b a;refine⟨i _ _ (e _ _ a_b), [(Sum.inr ("room":Str),.int room),(Sum.inr ("kept":Str),.ref kd),(Sum.inr ("marks":Str),.ref mk)],rfl,by show 3<=15;decide,?_⟩;rw[p_z];refine fin st kd mk _ d (g.free c) (g.free (e.free a)) (by simp[j,k,l]) (λb u h=> ?_) a_b (by rw[a_i j.symm];exact i _ _ a_b) (by rw[a_i k.symm];exact a_b);rw[a_i (a_h h d)];exact i _ _ (e _ _ (g _ _ h))
def m_A:Sp:=λvs H Q _=>∃(lo v hi:V),vs= [lo,v,hi]/\b_j lo v=true/\b_j v hi=true/\Q (.bl (!ltV v lo&& !ltV hi v)) H
theorem p_J:a_s ["_law_low","_law_value","_law_high"] ["_law_low","_law_value","_law_high"] (a_n m_Q):=⟨rfl,rfl,rfl,by decide+kernel,rfl,by decide+kernel,by decide+kernel⟩
theorem n_X {f:Addr} {fd:FuncData} (F:Fun K "_law_lies" "_law_lies" m_Q f fd):FnOk P w K mg base CX0 1 f fd ["_law_low","_law_value","_law_high"] m_A:=by
 refine F.ok p_J (λvs H Q E h=> ?_) (λcdv A outer s H vs Q E g h=> ?_)
 ·obtain⟨lo,v,b,rfl,_⟩:=h
  rfl
 ·obtain⟨lo,v,b,rfl,d,a,q⟩:=h
  refine⟨_,(a_f (a_o (i_9 (c_n m_i (pv 0) (pv 1) (a_q _)) (j_V (c_n m_i (pv 1) (pv 2) (a_q _)))))),?_⟩;refine⟨_,rfl,_,rfl,d,_,rfl,a_x (λc=> ?_) (λc=> ?_)⟩
  ·refine⟨_,rfl,_,rfl,a,?_⟩
   have c':(!ltV v lo)=true:=c;rw[c',Bool.true_and] at q;exact q
  ·have c':(!ltV v lo)=false:=by
    cases e:(!ltV v lo) with
    | false=>rfl
    | true=>exact absurd e c
   rw[c',Bool.false_and] at q;exact q
end
end K1
namespace TO
open PySem L2
theorem j_7 {H:Hp}:∀{rs:List Addr} {l:List Row} {i:Nat} {k:Key} {v:V},RowsAt H rs l->(a_L rs l)[i]? =some (k,v)->∃r ρ,v=V.ref r/\rs[i]? =some r/\l[i]? =some ρ/\RowAt H r ρ
 | _,_,i,k,v,.nil,e=>by simp[a_L] at e
 | r::rs,ρ::l,0,k,v,.cons h t,e=>by
   simp[a_L] at e;exact⟨r,ρ,e.2.symm,rfl,rfl,h⟩
 | r::rs,ρ::l,i+1,k,v,.cons h t,e=>by
   obtain⟨r',ρ',d,c,b,a⟩:=j_7 (i:=i) t (by simpa[a_L] using e);exact⟨r',ρ',d,by simpa using c,by simpa using b,a⟩
end TO
namespace K1
open PySem L2 TO
theorem j_I:bootBuiltins "sorted"=some (.builtin "sorted"):=by decide+kernel
def o_I (w:Bool):Int:=if w=true then 2 else 1
theorem h_I (w:Bool) (ρ:Row):atI (d_Z ρ) (o_I w)=some (c_t w ρ):=by
 cases w with
 | false=>exact a_e (j:=1) rfl
 | true=>exact a_e (j:=2) rfl
theorem d_1 (w:Bool):1+(if decide (V.str (e_A w)=V.str "text")=true then (1:Int) else 0)=o_I w:=by cases w <;> decide+kernel
section
variable {P:Program} {w:World} {K:PySem.W.Frag} {mg:Str->Option Value} {base:Heap}
def f_z:Sp:=λvs H Q _=>∃(st kd mk:Addr) (room:Int) (l:List Row) (w:Bool),vs= [.ref st,.str (e_A w)]/\H st=some (.dK (e_T room kd mk))/\KeptAt H kd l/\c_b l/\l.length < 64/\
 ∀(d:Addr) (H':Hp),H d=none->Same H H'->LstAt H' d (a_W w l)->Q (.ref d) H'
theorem f_C:a_s ["_law_store","_law_word","_law_spot","_law_pairs"] ["_law_store","_law_word"] (a_n h_z):=⟨rfl,rfl,rfl,by decide+kernel,rfl,by decide+kernel,by decide+kernel⟩
theorem j_a {f:Addr} {fd:FuncData} (F:Fun K "_law_rows_by" "_law_rows_by" h_z f fd) (B:Bt mg):FnOk P w K mg base CX0 1 f fd ["_law_store","_law_word"] f_z:=by
 refine F.ok f_C (λvs H Q E h=> ?_) (λcdv A outer s H vs Q E hr h=> ?_)
 ·obtain⟨st,kd,mk,room,l,w,rfl,_⟩:=h
  rfl
 ·obtain⟨st,kd,mk,room,l,w,rfl,hst,X,R,hlt,fin⟩:=h
  obtain⟨rs,z,hR⟩:=id X;have hlen:=hR.len;have T:=e_V hr
  refine⟨_,a_c (a_w (i:=2) f_C.nd rfl (Or.inr rfl) (a_v a_V a_g (b_B b_T (by rfl) B.int f_X (a_a (c_n a_J (pv 1) a_l (a_q _)) a_d))))
   (a_c (n_5 (c_k (k:=3) (x:="_law_row") (fns:= ["_law_spot"]) (js:= [2]) rfl
     ⟨rfl,by decide+kernel,by decide+kernel,rfl,by decide+kernel,by decide+kernel,rfl,by simp[Env.kindOf];rfl,rfl,by decide+kernel⟩
     (j_f (b_n T (pv 0) a_l (λ_ _=>rfl))) (λ_ _ _ _=>b_J)
     (λ_ _ _ _=>a_H (a_a (a_r (a_j K) (pv 0) (pv 1) (λ_ _=>rfl)) (a_a (a_r (a_j K) (pv 0) a_g (λ_ _=>rfl)) a_d)))
     f_C.nd rfl (Or.inl rfl)))
   (a_f (a_o (l_z (x:="_law_value") (x2:="_law_number") (fns:= ["_law_store"]) (js:= [0]) rfl
     ⟨rfl,by decide+kernel,by decide+kernel,rfl,rfl,by decide+kernel,by decide+kernel,rfl,by simp[Env.kindOf];rfl,rfl,by decide+kernel⟩
     (a_T K (a_t h_b (by rfl) B.sorted j_I (a_a (pv 3) a_d))) (λ_ _ _ _=>b_J)
     (λ_ _ _ _=>b_n T (b_n T (pv 2) a_l (λ_ _=>rfl)) (pv 1) (λ_ _=>rfl)))))),?_⟩
  refine⟨_,rfl,rfl,.inr ⟨_,rfl,_,_,rfl,rfl,?_⟩⟩;dsimp only;rw[d_1];refine⟨kd,_,z,_,rfl,st,_,rfl,b_2 hst,kd,_,rfl,z,λob L O=> ?_⟩;have hLk:L≠kd:=λe=>by rw[e,a_b] at O;cases O
  have hL0:H L=none:=by rw[a_i hLk] at O;exact O
  refine j_d (λi ys d=>Same (upd H kd (.frz ob (.dK (a_L rs l)))) d/\∃tas:List Addr,ys=tas.map V.ref/\c_f d tas ((l.take i).map (a_I w))) ⟨Same.upd_new O, [],rfl,.nil⟩ (λi ys d _ _ h=>h.1 _ _ a_b) ?_ ?_
  ·rintro i k v ys d M C ⟨U,tas,rfl,m⟩
   obtain⟨r,ρ,rfl,er,hρ,G⟩:=j_7 hR M;have hr3:RowAt d r ρ:=U _ _ (by rw[a_i (λe=>by rw[e] at G;unfold RowAt at G;rw[z] at G;cases G)];exact G);refine⟨_,rfl,_,rfl,r,_,_,_,rfl,rfl,SqT.of hr3,h_I w ρ,?_⟩;refine⟨_,rfl,r,_,_,_,rfl,rfl,SqT.of hr3,a_e (j:=0) rfl,by show 2<=sizeLine;decide,λt S=> ?_⟩;have htL:L≠t:=a_h C S;have I:Same d (upd d t (.tup [c_t w ρ,.int ρ.n])):=Same.upd_new S;refine⟨I _ _ C,?_, λb u p=> ?_, tas++ [t],by rw[r_5];rfl,?_⟩
   ·have:=Paired.length m
    rw[r_X,s_j] at this;rw[r_X];exact a_F (by omega)
   ·rw[a_i (a_h p O)]
    exact I _ _ (U _ _ p)
   ·rw[s_o,hρ]
    show c_f _ _ ((l.take i++ [ρ]).map (a_I w));rw[r_5];refine a_D ?_ (.cons ?_ .nil)
    ·exact Paired.mapP m λx k q=>NoTup.keep (NoTup.lst (I _ _ C)) _ _ (I _ _ q)
    ·rw[a_i htL.symm]
     exact a_b
  ·rintro ys d C ⟨U,tas,rfl,m⟩
   rw[c_8 hR,s_h (r_6 _)] at m;have htl:tas.length=l.length:=by rw[Paired.length m,r_X]
   have Y:=U _ _ (a_b (H:=H) (a:=kd) (o:= .frz ob (.dK (a_L rs l))));refine⟨ob,Y,?_⟩
   have sk:Same H (upd d kd (.dK (a_L rs l))):=λb u p=>by
    by_cases e:b=kd
    ·rw[e] at p ⊢;rw[a_b,<-p,z]
    ·rw[a_i e];exact U _ _ (by rw[a_i e];exact p)
   have W:c_f (upd d kd (.dK (a_L rs l))) tas (l.map (a_I w)):=Paired.mapP m λx k q=>by
    show upd d kd (.dK (a_L rs l)) x=_;rw[a_i (λe=>by rw[e] at q;rw[show d kd=some (.tup k) from q] at Y;cases Y)];exact q
   have hL4:upd d kd (.dK (a_L rs l)) L=some (.lst (tas.map V.ref)):=by rw[a_i hLk];exact C
   generalize upd d kd (.dK (a_L rs l))=H4 at sk W hL4 ⊢;refine⟨_,rfl,L,tas,l.map (a_I w),rfl,SqL.of hL4,W,by omega,λk X=> ?_, λk X k' hk'=> ?_, by rw[htl];exact k_w R,λla is hla c hup=> ?_⟩
   ·obtain⟨ρ,_,rfl⟩:=s_s.mp X
    exact⟨_,_,rfl⟩
   ·obtain⟨ρ,_,rfl⟩:=s_s.mp X
    obtain⟨ρ',_,rfl⟩:=s_s.mp hk';exact⟨⟨c_I w ρ ρ',rfl,trivial⟩,rfl⟩
   rw[htl] at c hup;have hin:∀i∈is,i < l.length:=λi M=>by simpa using c.mem_iff.mp M
   have I:Same H4 (upd H4 la (.lst (is.map λi=>V.ref (tas.getD i 0)))):=Same.upd_new hla;have hla0:H la=none:=sk.free hla;refine⟨la,rfl,⟨_,SqL.of a_b⟩,λD hD=> ?_⟩;have s5:=Same.upd_new (o:= .lst []) hD;have hlD:la≠D:=a_h a_b hD;have hD4:H4 D=none:=I.free hD;have hD0:H D=none:=sk.free hD4;have hil:is.length=l.length:=by rw[c.length_eq,List.length_range]
   refine i_s (K:=K) (xs:=is.map λi=>V.ref (tas.getD i 0)) (λj ys y=>Same H4 y/\y la=some (.lst (is.map λi=>V.ref (tas.getD i 0)))/\∃bs:List Addr,ys=bs.map V.ref/\RowsAt y bs ((is.take j).map λi=>l.getD i i_b))
    ⟨I.trans s5,s5 _ _ a_b, [],rfl,.nil⟩ (λj ys y _ _ h=>SqL.of h.2.1) ?_ ?_
   ·rintro j v ys y Z N ⟨J,hl5,bs,rfl,g⟩
    rw[r_9] at Z;cases ej:is[j]? with
    | none=>rw[ej] at Z;cases Z
    | some i=>
      rw[ej] at Z;obtain rfl:V.ref (tas.getD i 0)=v:=r_4 Z;have M:=hin i (s_n ej);have S:=(c_L W (i:=i) (by omega)).1;rw[d_i M] at S
      have hm:l.getD i i_b∈l:=by
       rw[s_g,r_Y M];exact List.getElem_mem M
      have hR5:RowsAt y rs l:=hR.same λb xs q=>J _ _ (sk _ _ q);obtain⟨_,v2⟩:=b_4 (n:=(l.getD i i_b).n) hR5;obtain⟨r,ρ,g1,g2,g3,_⟩:=v2 (b_z.mpr ⟨_,hm,rfl⟩);rw[i_g R hm] at g2;obtain rfl:=r_4 g2;refine⟨_,_,_,rfl,J _ _ S,?_⟩;refine⟨_,rfl,st,_,rfl,b_2 (J _ _ (sk _ _ hst)),_,rfl,kd,_,rfl,g1 ▸ c_2 (J _ _ (sk _ _ z)),N,?_, λb u p=> ?_, ?_, bs++ [r],by rw[r_5];rfl,?_⟩
      ·have:=g.len
       rw[r_X,s_j] at this;rw[r_X];exact a_F (by omega)
      ·rw[a_i (a_h p hD4)]
       exact J _ _ p
      ·rw[a_i hlD]
       exact hl5
      ·rw[s_o,ej,r_5]
       exact (RowsAt.app g (.cons g3 .nil)).same (NoTup.keep (NoTup.lst N))
   ·rintro ys y N ⟨J,hl5,bs,rfl,g⟩
    rw[r_X,s_h (r_6 _)] at g;rw[d_V R (h_J c hup) (g_a c)] at g;exact fin D y hD0 (sk.trans J) ⟨bs,N,g⟩
end
end K1
namespace TO
open PySem L2
section
variable {X:Cx}
def p_q:V->List V->Hp->VK->Prop:=λx vs H Q=>∃l,∃as:List Addr,∃a,∃ρs:List Row,∃ρ,x= .ref l/\vs= [.ref a]/\H l=some (.lst (as.map .ref))/\RowsAt H as ρs/\RowAt H a ρ/\ρ∈ρs/\ρs.length < 10000/\Q (.int ((ρs.idxOf ρ:Nat):Int)) H
theorem l_g (hu:X.A.units+1 < cLine):MtM X "list.index" p_q:=by
 intro pins s σ H x vs v us Q I rx rv h;obtain⟨l,as,a,ρs,ρ,rfl,rfl,w,t,G,d,K,q⟩:=h;cases rx;obtain⟨u,rfl,ru⟩:=rv.one;cases ru;obtain⟨z,its,n,r,L,e⟩:=I.lstM w;have f:=b_E r;subst f;have C:=t.len;have p:ρs.idxOf ρ < ρs.length:=List.idxOf_lt_length_of_mem d
 let ev:Value->Bool:=λv=>match v with
  | .ref b=>(match H b with | some (.tup ys)=>decide (ys=d_Z ρ) | _=>false)
  | _=>false
 have i:∀b ρ',RowAt H b ρ'->ev (.ref b)=decide (ρ'=ρ):=λb ρ' c=>by
  show (match H b with | some (.tup ys)=>decide (ys=d_Z ρ) | _=>false)=_;rw[show H b=_ from c];by_cases q:ρ'=ρ
  ·subst q;simp
  ·rw[s_E q]
   exact s_E λq'=>q (d_U q')
 have j:ρs.idxOf ρ < (as.map Value.ref).toArray.size:=by simp;omega
 have item:∀m (d:m < (as.map Value.ref).toArray.size),∃b ρ',(as.map Value.ref).toArray[m]= .ref b/\ρs[m]? =some ρ'/\RowAt H b ρ':=λm d=>by
  have o:m < as.length:=by simpa using d
  obtain⟨ρ',B,E⟩:=t.get' (r_Y o);exact⟨as[m],ρ',by simp,B,E⟩
 refine call_meets F.slot_list_index ⟨_,e,rfl⟩ F.entry_list_index (F.args_list_index_2 _ _) (SeqAt.list_indexAt l (as.map Value.ref).toArray n _ _ (.ref a) ev (ρs.idxOf ρ) j (by omega) ?_ ?_) ⟨e,λy J=> ?_, ?_⟩
 ·obtain⟨b,ρ',f,g,c⟩:=item _ j
  rw[f,i b ρ' c];rw[r_Y p,List.getElem_idxOf p] at g;cases g;exact s_D rfl
 ·intro m d k
  obtain⟨b,ρ',f,g,c⟩:=item m d;rw[f,i b ρ' c];refine s_E λq=> ?_;subst q;exact e_t k g
 ·obtain⟨m,d,f⟩:=Array.getElem_of_mem J
  obtain⟨b,ρ',g,M,c⟩:=item m d;rw[<-f,g,i b ρ' c];exact p_m I c G (by first | exact hu | simpa using hu)
 ·exact⟨.int _,H,I.tok _,⟨_,rfl⟩,q⟩
end
theorem k_i {w:Bool} {ρ:Row}:∀{s:List Row},Srt (ltR w) s->ρ∈s->s.idxOf ρ=(s.filter λy=>ltR w y ρ).length
 | [],_,h=>by cases h
 | x::r,hs,h=>by
   have a:=s_B.mp hs;rw[List.idxOf_cons];by_cases e:x=ρ
   ·subst e
    have c:(r.filter λy=>ltR w y x)= []:=by
     refine List.filter_eq_nil_iff.mpr λy d q=> ?_;have:=c_y w _ _ _ (a.1 y d) q;rw[b_L] at this;cases this
    rw[s_m,if_neg (by rw[b_L];decide),c];simp
   ·have b:ρ∈r:=by
     rcases r_8.mp h with q | q
     ·exact absurd q.symm e
     ·exact q
    rw[s_m,if_pos (a.1 ρ b),r_3,<-k_i a.2 b];have:(x == ρ)=false:=by simpa using e
    rw[this];rfl
end TO
namespace K1
open PySem L2 TO
section
variable {P:Program} {w:World} {K:PySem.W.Frag} {mg:Str->Option Value} {base:Heap}
theorem d_G {x:Str} (h:c_r x):(inV (.str x) [V.str "rank",V.str "text"]=false/\c_j x=none)\/∃w,x=e_A w/\inV (.str x) [V.str "rank",V.str "text"]=true/\c_j x=some w:=by
 rcases h with e | e | e
 ·subst e;exact .inr ⟨false,rfl,by decide+kernel,rfl⟩
 ·subst e;exact .inr ⟨true,rfl,by decide+kernel,by decide+kernel⟩
 ·subst e;exact .inl ⟨by decide+kernel,by decide+kernel⟩
theorem i_D {w:Bool} {lo hi:V} (h:b_v (e_A w) lo hi) (ρ:Row):b_j lo (c_t w ρ)=true/\b_j (c_t w ρ) hi=true:=by
 unfold b_v at h;cases w with
 | false=>
   rw[if_neg (by decide+kernel)] at h;obtain⟨i,j,rfl,rfl⟩:=h;exact⟨rfl,rfl⟩
 | true=>
   rw[if_pos (by decide+kernel)] at h;obtain⟨i,j,rfl,rfl⟩:=h;exact⟨rfl,rfl⟩
def m_b:Sp:=λvs H Q _=>∃(st kd mk a:Addr) (room:Int) (l:List Row) (d:Deed) (f:List Addr),vs= [.ref st,.ref a]/\H st=some (.dK (e_T room kd mk))/\KeptAt H kd l/\DeedAt H a d/\d.asks/\d.form/\l.length < 64/\c_b l/\(∀b∈f,H b≠none)/\
 ∀(v:V) (H':Hp),Same H H'->Ans H' f (b_U l d) v->NewA H H' v->Q v H'
theorem g_P:a_s ["_law_store","_law_deed","_law_rows","_law_spot","_law_last"] ["_law_store","_law_deed"] (a_n d_B):=⟨rfl,rfl,rfl,by decide+kernel,rfl,by decide+kernel,by decide+kernel⟩
theorem n_D {f fRb fLi:Addr} {fd fdRb fdLi:FuncData} (F:Fun K "_law_told_by_all" "_law_told_by_all" d_B f fd) (B:Bt mg) (gRb:Gf K mg "_law_rows_by" fRb fdRb ["_law_store","_law_word"]) (GRb:FnOk P w K mg base CX0 1 fRb fdRb ["_law_store","_law_word"] f_z)
 (gLi:Gf K mg "_law_lies" fLi fdLi ["_law_low","_law_value","_law_high"]) (GLi:FnOk P w K mg base CX0 1 fLi fdLi ["_law_low","_law_value","_law_high"] m_A):FnOk P w K mg base CX0 2 f fd ["_law_store","_law_deed"] m_b:=by
 refine F.ok g_P (λvs H Q E h=> ?_) (λcdv A outer s H vs Q E hr h=> ?_)
 ·obtain⟨st,kd,mk,a,room,l,d,f,rfl,_⟩:=h
  rfl
 ·obtain⟨st,kd,mk,a,room,l,d,ff,rfl,O,hk,C,has,hf,hlt,Y,hff,fin⟩:=h
  have N:=e_V hr;have X:Room 1 _:=hr.mono (by decide);obtain⟨rs,hkd,hR⟩:=id hk
  refine⟨_,(a_c (a_C (a_m a_J (a_r (a_j K) (pv 1) a_g (λ_ _=>rfl)) a_l (a_q _)) (a_f (a_o (l_x N (b_n N (pv 0) a_l (λ_ _=>rfl)) (a_r (a_j K) (pv 1) a_g (λ_ _=>rfl)) a_l ⟨rfl,rfl,rfl,rfl⟩))) a_p)
   (a_c (a_C (a_m a_J (a_r (a_j K) (pv 1) a_g (λ_ _=>rfl)) a_l (a_q _)) (a_c (a_w (i:=2) g_P.nd rfl (Or.inr rfl) (c_G (x:="_law_row") (fns:= ["_law_deed"]) (js:= [1]) rfl ⟨rfl,by decide+kernel,by decide+kernel,rfl,by decide+kernel,by decide+kernel,rfl,by simp[Env.kindOf];exact rfl,rfl,by decide+kernel⟩ (a_T K (a_k GRb X rfl gRb.mg gRb.kp gRb.b .nil a_u (a_a (pv 0) (a_a a_l a_d)))) (λ_ _ _ _=>(d_j (a_m a_J (a_r (a_j K) (pv 0) a_g (λ_ _=>rfl)) (a_r (a_j K) (pv 1) a_g (λ_ _=>rfl)) (a_q _)))) (λ_ _ _ _=>(pv 0))))
   (a_f (a_o (c_G (x:="_law_row") (fns:= ["_law_deed"]) (js:= [1]) rfl ⟨rfl,by decide+kernel,by decide+kernel,rfl,by decide+kernel,by decide+kernel,rfl,by simp[Env.kindOf];exact rfl,rfl,by decide+kernel⟩ (a_T K (pv 2)) (λ_ _ _ _=>(d_j (b_s (a_k GLi X rfl gLi.mg gLi.kp gLi.b .nil a_u (a_a (a_r (a_j K) (pv 1) a_g (λ_ _=>rfl)) (a_a (a_r (a_j K) (pv 0) a_g (λ_ _=>rfl)) (a_a (a_r (a_j K) (pv 1) a_g (λ_ _=>rfl)) a_d))))))) (λ_ _ _ _=>(pv 0)))))) a_p)
   (a_c (a_C (a_m d_O (a_r (a_j K) (pv 1) a_g (λ_ _=>rfl)) (a_P (a_a a_l (a_a a_l a_d))) (by with_unfolding_all rfl)) (a_f (a_o a_l)) a_p)
   (a_c (a_w (i:=2) g_P.nd rfl (Or.inr rfl) (a_k GRb X rfl gRb.mg gRb.kp gRb.b .nil a_u (a_a (pv 0) (a_a (a_r (a_j K) (pv 1) a_g (λ_ _=>rfl)) a_d))))
   (a_c (a_w (i:=3) g_P.nd rfl (Or.inr rfl) (a_v a_V a_g (b_B b_T (by rfl) B.int f_X (a_a (c_n a_J (a_r (a_j K) (pv 1) a_g (λ_ _=>rfl)) a_l (a_q _)) a_d))))
   (a_c (a_C (a_m a_J (a_r (a_j K) (pv 1) a_g (λ_ _=>rfl)) a_l (a_q _)) (a_f (a_o (c_G (x:="_law_row") (fns:= ["_law_spot","_law_deed"]) (js:= [3,1]) rfl ⟨rfl,by decide+kernel,by decide+kernel,rfl,by decide+kernel,by decide+kernel,rfl,by simp[Env.kindOf];exact⟨rfl,rfl⟩,rfl,by decide+kernel⟩ (a_T K (pv 2)) (λ_ _ _ _=>(d_j (b_s (a_k GLi X rfl gLi.mg gLi.kp gLi.b .nil a_u (a_a (a_r (a_j K) (pv 2) a_g (λ_ _=>rfl)) (a_a (a_r (a_j K) (pv 0) (pv 1) (λ_ _=>rfl)) (a_a (a_r (a_j K) (pv 2) a_g (λ_ _=>rfl)) a_d))))))) (λ_ _ _ _=>(pv 0))))) a_p)
   (a_c (a_C (a_m a_J (a_r (a_j K) (pv 1) a_g (λ_ _=>rfl)) a_l (a_q _)) (a_c (a_w (i:=4) g_P.nd rfl (Or.inr rfl) (a_v b_S (a_v a_V (a_r (a_j K) (pv 1) a_g (λ_ _=>rfl)) (a_r (a_j K) (pv 1) a_g (λ_ _=>rfl))) a_g))
   (a_f (a_o (c_G (x:="_law_k") (fns:= ["_law_rows","_law_last","_law_deed"]) (js:= [2,4,1]) rfl ⟨rfl,by decide+kernel,by decide+kernel,rfl,by decide+kernel,by decide+kernel,rfl,by simp[Env.kindOf];exact⟨rfl,rfl,rfl⟩,rfl,by decide+kernel⟩ (c_a rfl B.range (a_a (a_t (a_B K) (by rfl) B.len s_G (a_a (pv 2) a_d)) a_d)) (λ_ _ _ _=>(d_j (b_s (a_k GLi X rfl gLi.mg gLi.kp gLi.b .nil a_u (a_a (a_r (a_j K) (pv 3) a_g (λ_ _=>rfl)) (a_a (pv 0) (a_a (pv 2) a_d))))))) (λ_ _ _ _=>(a_r (a_G K) (pv 1) (pv 0) (λ_ _=>rfl))))))) a_p)
   (a_c (a_C (d_N (d_s N (a_r (a_j K) (pv 1) a_g (λ_ _=>rfl)) (b_n N (pv 0) a_l (λ_ _=>rfl)))) (a_f (a_o a_l)) a_p)
   (a_f (a_o (b_x s_H PySem.F.slot_list_index PySem.F.type_list_index (l_g N) (pv 2) (a_a (b_n N (b_n N (pv 0) a_l (λ_ _=>rfl)) (a_r (a_j K) (pv 1) a_g (λ_ _=>rfl)) (λ_ _=>rfl)) a_d)))))))))))),?_⟩
  have free:∀t,H t=none->t∉ff:=λt ht hc=>hff t hc ht;have tell:∀{t:Addr} {m:List Row} {H':Hp},H t=none->Same H H'->LstAt H' t m->b_U l d=e_H m->Q (.ref t) H':=λ{t m H'} ht s' hL e=>fin (.ref t) H' s' (by rw[e];exact .rows hL (free t ht)) λt' xs e' _=>by cases e';exact ht
  have kv:=λn=>b_4 (n:=n) hR;cases d with
  | row n=>
    obtain⟨v1,v2⟩:=kv n;refine⟨_,rfl,a,_,_,_,rfl,rfl,SqT.of C,a_e (j:=0) rfl,rfl,_,rfl,a_x (λ_=> ?_) (λq=>absurd (s_D rfl) q)⟩;refine⟨_,rfl,st,_,rfl,b_2 O,kd,rfl,.inl ⟨_,.inl hkd⟩,_,rfl,a,_,_,_,rfl,rfl,SqT.of C,a_e (j:=1) rfl,_,c_2 hkd,?_⟩;by_cases c:b_u l n=true
    ·obtain⟨r,ρ,g1,g2,g3,_⟩:=v2 c
     rw[g1];refine fin _ H (Same.refl H) ?_ (NewA.tup g3);simp only[b_U,g2];exact .row g3
    ·have c':b_u l n=false:=by simpa using c
     have g1:d_K (a_L rs l) (Sum.inl n)=none:=by
      cases e:d_K (a_L rs l) (Sum.inl n) with
      | none=>rfl
      | some u=>rw[e,c'] at v1;cases v1
     rw[g1];refine fin _ H (Same.refl H) ?_ (NewA.str _);simp only[b_U,b_Q c'];exact .str _
  | both lo hi t0=>
    refine⟨_,rfl,a,_,_,_,rfl,rfl,SqT.of C,a_e (j:=0) rfl,rfl,_,rfl,a_x (λq=>absurd q (by decide+kernel)) (λ_=> ?_)⟩;refine⟨_,rfl,a,_,_,_,rfl,rfl,SqT.of C,a_e (j:=0) rfl,rfl,_,rfl,a_x (λ_=> ?_) (λq=>absurd (s_D rfl) q)⟩;refine⟨_,rfl,st,kd,mk,room,l,false,rfl,O,hk,Y,hlt,λS H1 U M R=> ?_⟩;obtain⟨T,y,G⟩:=id R;have hl1:(a_W false l).length=l.length:=a_6 false l;refine⟨S,rfl,⟨_,SqL.of y⟩,λLa hLa=>c_o (λx=>decide (V.str x.t=V.str t0)) y G hLa (by omega) ?_ (λr L Q q=>⟨_,rfl,q⟩) λH3 s3 hL3=> ?_⟩
    ·intro r ρ L Qb s2 hρ k
     exact⟨_,rfl,r,_,_,_,rfl,rfl,SqT.of hρ,a_e (j:=2) rfl,_,rfl,a,_,_,_,rfl,rfl,SqT.of (s2 _ _ (M _ _ C)),a_e (j:=3) rfl,rfl,_,rfl,k L (Same.refl L)⟩
    obtain⟨as2,hla2,hRa2⟩:=id hL3;have hl2:((a_W false l).filter λx=>decide (V.str x.t=V.str t0)).length<=l.length:=by rw[<-hl1];exact s_y _ _
    refine⟨_,rfl,La,rfl,⟨_,SqL.of hla2⟩,λLb J=>c_o (i_j false (.int lo) (.int hi)) hla2 hRa2 J (by omega) ?_ (λr L Q q=>⟨_,rfl,q⟩) λH4 s4 hL4=> ?_⟩
    ·intro r ρ L Qb s2 hρ k
     exact⟨_,rfl,a,_,_,_,rfl,rfl,SqT.of (s2 _ _ (s3 _ _ (M _ _ C))),a_e (j:=1) rfl,_,rfl,r,_,_,_,rfl,rfl,SqT.of hρ,a_e (j:=1) rfl,_,rfl,a,_,_,_,rfl,rfl,SqT.of (s2 _ _ (s3 _ _ (M _ _ C))),a_e (j:=2) rfl,_,_,_,rfl,rfl,rfl,_,rfl,k L (Same.refl L)⟩
    refine tell (M.free (s3.free J)) ((M.trans s3).trans s4) hL4 ?_;simp only[b_U];congr 2;exact List.filter_congr λx _=>by simp
  | within x lo hi=>
    refine⟨_,rfl,a,_,_,_,rfl,rfl,SqT.of C,a_e (j:=0) rfl,rfl,_,rfl,a_x (λq=>absurd q (by decide+kernel)) (λ_=> ?_)⟩;refine⟨_,rfl,a,_,_,_,rfl,rfl,SqT.of C,a_e (j:=0) rfl,rfl,_,rfl,a_x (λq=>absurd q (by decide+kernel)) (λ_=> ?_)⟩;refine⟨_,rfl,a,_,_,_,rfl,rfl,SqT.of C,a_e (j:=1) rfl,by show 2<=sizeLine;decide,λn1 hn1=> ?_⟩;have v:=Same.upd_new (o:= .lst [V.str "rank",V.str "text"]) hn1;refine⟨n1,_,rfl,.inl (SqL.of a_b),rfl,rfl,_,rfl,?_⟩;generalize upd H n1 (.lst [V.str "rank",V.str "text"])=H0 at v ⊢;have Z:=v _ _ C;rcases d_G hf.2 with⟨I,a0⟩ | ⟨w,rfl,I,W⟩
    ·refine a_x (λ_=> ?_) (λq=>absurd (by rw[if_pos rfl,I];rfl) q)
     refine fin _ H0 v ?_ (NewA.str _);simp only[b_U,a0];exact .str _
    refine a_x (λq=>by rw[if_pos rfl,I] at q;cases q) (λ_=> ?_);refine⟨_,rfl,_,rfl,a,_,_,_,rfl,rfl,SqT.of Z,a_e (j:=1) rfl,st,kd,mk,room,l,w,rfl,v _ _ O,KeptAt.same hk v,Y,hlt,λS H1 U M R=> ?_⟩;have p:=v.trans M;have g:=p _ _ C;refine⟨_,rfl,a,_,_,_,rfl,rfl,SqT.of g,a_e (j:=1) rfl,rfl,.inr ⟨_,rfl,_,_,rfl,rfl,?_⟩⟩;dsimp only;rw[d_1];have hd1n:H S=none:=v.free U;obtain⟨T,y,G⟩:=id R;have hl1:(a_W w l).length=l.length:=a_6 w l;refine⟨_,rfl,a,_,_,_,rfl,rfl,SqT.of g,a_e (j:=0) rfl,rfl,_,rfl,a_x (λ_=> ?_) (λq=>absurd (s_D rfl) q)⟩;refine⟨_,rfl,S,rfl,⟨_,SqL.of y⟩,λLb J=>c_o (i_j w lo hi) y G J (by omega) ?_ (λr L Q q=>⟨_,rfl,q⟩) λH4 s4 hL4=> ?_⟩
    ·intro r ρ L Qb s2 hρ k
     obtain⟨q1,q2⟩:=i_D hf.1 ρ;exact⟨_,rfl,a,_,_,_,rfl,rfl,SqT.of (s2 _ _ g),a_e (j:=2) rfl,_,rfl,_,rfl,r,_,_,_,rfl,rfl,SqT.of hρ,h_I w ρ,_,rfl,a,_,_,_,rfl,rfl,SqT.of (s2 _ _ g),a_e (j:=3) rfl,_,_,_,rfl,q1,q2,_,rfl,k L (Same.refl L)⟩
    refine tell (p.free J) (p.trans s4) hL4 ?_;simp only[b_U,W]
  | «from» x k m=>
    refine⟨_,rfl,a,_,_,_,rfl,rfl,SqT.of C,a_e (j:=0) rfl,rfl,_,rfl,a_x (λq=>absurd q (by decide+kernel)) (λ_=> ?_)⟩;refine⟨_,rfl,a,_,_,_,rfl,rfl,SqT.of C,a_e (j:=0) rfl,rfl,_,rfl,a_x (λq=>absurd q (by decide+kernel)) (λ_=> ?_)⟩;refine⟨_,rfl,a,_,_,_,rfl,rfl,SqT.of C,a_e (j:=1) rfl,by show 2<=sizeLine;decide,λn1 hn1=> ?_⟩;have v:=Same.upd_new (o:= .lst [V.str "rank",V.str "text"]) hn1;refine⟨n1,_,rfl,.inl (SqL.of a_b),rfl,rfl,_,rfl,?_⟩;generalize upd H n1 (.lst [V.str "rank",V.str "text"])=H0 at v ⊢;have Z:=v _ _ C;rcases d_G hf.1 with⟨I,a0⟩ | ⟨w,rfl,I,W⟩
    ·refine a_x (λ_=> ?_) (λq=>absurd (by rw[if_pos rfl,I];rfl) q)
     refine fin _ H0 v ?_ (NewA.str _);simp only[b_U,a0];exact .str _
    refine a_x (λq=>by rw[if_pos rfl,I] at q;cases q) (λ_=> ?_);refine⟨_,rfl,_,rfl,a,_,_,_,rfl,rfl,SqT.of Z,a_e (j:=1) rfl,st,kd,mk,room,l,w,rfl,v _ _ O,KeptAt.same hk v,Y,hlt,λS H1 U M R=> ?_⟩;have p:=v.trans M;have g:=p _ _ C;refine⟨_,rfl,a,_,_,_,rfl,rfl,SqT.of g,a_e (j:=1) rfl,rfl,.inr ⟨_,rfl,_,_,rfl,rfl,?_⟩⟩;dsimp only;rw[d_1];have hd1n:H S=none:=v.free U;obtain⟨T,y,G⟩:=id R;have hl1:(a_W w l).length=l.length:=a_6 w l;refine⟨_,rfl,a,_,_,_,rfl,rfl,SqT.of g,a_e (j:=0) rfl,rfl,_,rfl,a_x (λq=>absurd q (by decide+kernel)) (λ_=> ?_)⟩;refine⟨_,rfl,a,_,_,_,rfl,rfl,SqT.of g,a_e (j:=0) rfl,rfl,_,rfl,a_x (λ_=> ?_) (λq=>absurd (s_D rfl) q)⟩;refine⟨_,rfl,a,_,_,_,rfl,rfl,SqT.of g,a_e (j:=2) rfl,_,rfl,a,_,_,_,rfl,rfl,SqT.of g,a_e (j:=3) rfl,_,_,rfl,rfl,_,_,rfl,rfl,?_⟩;have hal:=G.len;have hn1':((((T.map V.ref).length:Nat):Int)).toNat=(a_W w l).length:=by rw[r_X];omega
    refine⟨_,rfl,S,_,rfl,.inl (SqL.of y),_,rfl,by omega,by rw[r_X];omega,λLb J=> ?_⟩;refine i_o (lo:=0) (λi ys H5=>Same H1 H5/\∃bs:List Addr,ys=bs.map V.ref/\RowsAt H5 bs (c_p k (k+m) 0 ((a_W w l).take i))) ⟨Same.upd_new J, [],rfl,.nil⟩ ?_ ?_
    ·rintro i ys H5 hi a1 ⟨s5,bs,rfl,hb⟩
     rw[hn1'] at hi;obtain⟨ρ,hρ⟩:∃ρ,(a_W w l)[i]? =some ρ:=⟨_,r_Y hi⟩;obtain⟨r,er,hr0⟩:=G.get hρ;have gr:(T.map V.ref)[i]? =some (V.ref r):=by rw[r_9,er];rfl
     have e0:(0:Int)+(i:Int)=(i:Int):=by omega
     rw[e0];refine⟨_,rfl,a,_,_,_,rfl,rfl,SqT.of (s5 _ _ g),a_e (j:=2) rfl,_,rfl,_,rfl,_,_,_,rfl,rfl,rfl,_,rfl,?_⟩;have hbl:=hb.len
     have hle:(c_p k (k+m) 0 ((a_W w l).take i)).length<=i:=by
      rw[c_h,List.length_drop,s_j,s_j];omega
     have et:(a_W w l).take (i+1)=(a_W w l).take i++ [ρ]:=by rw[s_o,hρ];rfl
     have hti:((a_W w l).take i).length=i:=by rw[s_j];omega
     have eone:c_p k (k+m) 0 ((a_W w l).take (i+1))=c_p k (k+m) 0 ((a_W w l).take i)++if k<=(i:Int)/\(i:Int) < k+m then [ρ] else []:=by
      rw[et,e_F,hti,Nat.zero_add];congr 1;unfold c_p;rw[List.zipIdx_cons,List.filterMap_cons];by_cases c:k<=(i:Int)/\(i:Int) < k+m
      ·rw[if_pos c,if_pos c];rfl
      ·rw[if_neg c,if_neg c];rfl
     refine a_x (λc=> ?_) (λc=> ?_)
     ·have c':k≤(i:Int)∧(i:Int) < k+m:=by
       have:((!decide ((i:Int) < k))&& !decide (k+m - 1 < (i:Int)))=true:=c;simp at this;omega
      refine⟨_,rfl,_,rfl,S,_,_,_,rfl,rfl,SqL.of (s5 _ _ y),a_e gr,a1,?_, λb u hb'=> ?_, bs++ [r],by rw[r_5];rfl,?_⟩
      ·rw[r_X];exact a_F (by omega)
      ·rw[a_i (a_h hb' J)];exact s5 _ _ hb'
      ·rw[eone,if_pos c']
       exact (RowsAt.app hb (.cons (s5 _ _ hr0) .nil)).same (NoTup.keep (NoTup.lst a1))
     ·have c':¬ (k≤(i:Int)∧(i:Int) < k+m):=fun z=>c (by
       show ((!decide ((i:Int) < k))&& !decide (k+m - 1 < (i:Int)))=true;simp;omega)
      refine⟨a1,s5,bs,rfl,?_⟩;rw[eone,if_neg c',s_u];exact hb
    ·rintro ys H5 a1 ⟨s5,bs,rfl,hb⟩
     rw[hn1',s_h (r_6 _)] at hb;refine tell (p.free J) (p.trans s5) ⟨bs,a1,hb⟩ ?_;simp only[b_U,W,d_9]
  | spot x n=>
    obtain⟨v1,v2⟩:=kv n;refine⟨_,rfl,a,_,_,_,rfl,rfl,SqT.of C,a_e (j:=0) rfl,rfl,_,rfl,a_x (λq=>absurd q (by decide+kernel)) (λ_=> ?_)⟩;refine⟨_,rfl,a,_,_,_,rfl,rfl,SqT.of C,a_e (j:=0) rfl,rfl,_,rfl,a_x (λq=>absurd q (by decide+kernel)) (λ_=> ?_)⟩;refine⟨_,rfl,a,_,_,_,rfl,rfl,SqT.of C,a_e (j:=1) rfl,by show 2<=sizeLine;decide,λn1 hn1=> ?_⟩;have v:=Same.upd_new (o:= .lst [V.str "rank",V.str "text"]) hn1;refine⟨n1,_,rfl,.inl (SqL.of a_b),rfl,rfl,_,rfl,?_⟩;generalize upd H n1 (.lst [V.str "rank",V.str "text"])=H0 at v ⊢;have Z:=v _ _ C;rcases d_G hf with⟨I,a0⟩ | ⟨w,rfl,I,W⟩
    ·refine a_x (λ_=> ?_) (λq=>absurd (by rw[if_pos rfl,I];rfl) q)
     refine fin _ H0 v ?_ (NewA.str _);simp only[b_U,a0];exact .str _
    refine a_x (λq=>by rw[if_pos rfl,I] at q;cases q) (λ_=> ?_);refine⟨_,rfl,_,rfl,a,_,_,_,rfl,rfl,SqT.of Z,a_e (j:=1) rfl,st,kd,mk,room,l,w,rfl,v _ _ O,KeptAt.same hk v,Y,hlt,λS H1 U M R=> ?_⟩;have p:=v.trans M;have g:=p _ _ C;refine⟨_,rfl,a,_,_,_,rfl,rfl,SqT.of g,a_e (j:=1) rfl,rfl,.inr ⟨_,rfl,_,_,rfl,rfl,?_⟩⟩;dsimp only;rw[d_1];have hd1n:H S=none:=v.free U;obtain⟨T,y,G⟩:=id R;have hl1:(a_W w l).length=l.length:=a_6 w l;refine⟨_,rfl,a,_,_,_,rfl,rfl,SqT.of g,a_e (j:=0) rfl,rfl,_,rfl,a_x (λq=>absurd q (by decide+kernel)) (λ_=> ?_)⟩;refine⟨_,rfl,a,_,_,_,rfl,rfl,SqT.of g,a_e (j:=0) rfl,rfl,_,rfl,a_x (λq=>absurd q (by decide+kernel)) (λ_=> ?_)⟩;refine⟨_,rfl,a,_,_,_,rfl,rfl,SqT.of g,a_e (j:=2) rfl,_,rfl,st,_,rfl,b_2 (p _ _ O),kd,_,rfl,c_2 (p _ _ hkd),_,rfl,?_⟩;rw[v1];by_cases c:b_u l n=true
    ·obtain⟨r,ρ,g1,g2,g3,_⟩:=v2 c
     refine a_x (λq=>by rw[c] at q;cases q) (λ_=> ?_);have hm:ρ∈a_W w l:=(a_5 w l).mem_iff.mpr (List.mem_of_find?_eq_some g2);refine⟨_,rfl,.inl ⟨rfl,_,SqL.of y⟩,_,rfl,st,_,rfl,b_2 (p _ _ O),_,rfl,a,_,_,_,rfl,rfl,SqT.of g,a_e (j:=2) rfl,kd,_,rfl,g1 ▸ c_2 (p _ _ hkd),S,T,r,_,ρ,rfl,rfl,y,G,p _ _ g3,hm,by omega,?_⟩;refine fin _ H1 p ?_ (λt xs e=>by cases e);simp only[b_U,W,g2];rw[k_i (c_F w Y) hm,((a_5 w l).filter _).length_eq];exact .int _
    ·have c':b_u l n=false:=by simpa using c
     refine a_x (λ_=> ?_) (λq=>absurd (by rw[c'];rfl) q);refine fin _ H1 p ?_ (NewA.str _);simp only[b_U,W,b_Q c'];exact .str _
  | _=>exact has.elim
end
end K1
namespace TO
open PySem L2
structure Sto.nums (s:Sto):Prop where
 kept:c_b s.kept
 marks:∀k∈s.marks,c_b k
theorem g_E {room:Int} {l0:List Row} (h0:c_b l0):∀{cs:List Chg} {i:Nat} {l:List Row},c_b l->c_b (d_R room l0 i l cs).1
 | [],i,l,h=>h
 | c::r,i,l,h=>by
   unfold d_R;dsimp only;split
   ·exact g_E h0 (g_c h)
   ·exact h0
theorem g_u {room:Int} {s:Sto} {d:Deed} (h:s.nums):(s.step room d).1.nums:=by
 cases d with
 | chg c=>exact⟨g_c h.kept,h.marks⟩
 | all cs=>exact⟨g_E h.kept h.kept,h.marks⟩
 | begin=>exact⟨h.kept,fun k b=>by
    rcases r_8.mp b with e | e
    ·rw[e];exact h.kept
    ·exact h.marks k e⟩
 | keep=>
   unfold Sto.step;cases e:s.marks with
   | nil=>exact h
   | cons a r=>exact⟨h.kept,λk b=>h.marks k (by rw[e];exact r_0 _ b)⟩
 | brk=>
   unfold Sto.step;cases e:s.marks with
   | nil=>exact h
   | cons a r=>exact⟨h.marks a (by rw[e];exact r_1 ..),λk b=>h.marks k (by rw[e];exact r_0 _ b)⟩
 | _=>exact h
theorem i_P {room:Int} {s:Sto} {d:Deed}:(s.step room d).1.marks.length<=s.marks.length+1:=by
 cases d with
 | keep=>
   unfold Sto.step;cases e:s.marks with
   | nil=>simp[e]
   | cons a r=>simp;omega
 | brk=>
   unfold Sto.step;cases e:s.marks with
   | nil=>simp[e]
   | cons a r=>simp;omega
 | begin=>simp[Sto.step]
 | _=>exact Nat.le_succ _
theorem e_b {room:Int} {s:Sto} {d:Deed} (h:d.asks):s.step room d=(s,b_U s.kept d):=by
 cases d <;> first | rfl | exact h.elim
theorem b_N {H H':Hp} (tk:K1.a_N H H'):∀{ms:List Addr} {ls:List (List Row)},Paired (KeptAt H) ms ls->(∀b∈ms,∀u,H b=some u->H' b=some u)->Paired (KeptAt H') ms ls
 | _,_,.nil,_=> .nil
 | _,_,.cons h t,hk=> .cons (by
    obtain⟨rs,h1,h2⟩:=h;exact⟨rs,hk _ (r_1 ..) _ h1,h2.same tk⟩) (b_N tk t λb hb=>hk b (r_0 _ hb))
end TO
namespace K1
open PySem L2 TO
structure StoAt (H:Hp) (st kd mk:Addr) (mas:List Addr) (room:Int) (s:Sto):Prop where
 sto:H st=some (.dK (e_T room kd mk))
 kept:KeptAt H kd s.kept
 marks:H mk=some (.lst (mas.map V.ref))
 ms:Paired (KeptAt H) mas s.marks.reverse
 nd:(st::mk::kd::mas).Nodup
theorem StoAt.same {H H':Hp} {st kd mk:Addr} {mas:List Addr} {room:Int} {s:Sto} (S:StoAt H st kd mk mas room s) (h:Same H H'):StoAt H' st kd mk mas room s:=
 ⟨h _ _ S.sto,KeptAt.same S.kept h,h _ _ S.marks,b_N (λb xs q=>h _ _ q) S.ms λb _ u q=>h _ _ q,S.nd⟩
theorem StoAt.dicts {H:Hp} {st kd mk:Addr} {mas:List Addr} {room:Int} {s:Sto} (S:StoAt H st kd mk mas room s):∀b∈mas,∃kvs,H b=some (.dK kvs):=by
 have aux:∀{ms:List Addr} {ls:List (List Row)},Paired (KeptAt H) ms ls->∀b∈ms,∃kvs,H b=some (.dK kvs):=by
  intro ms ls h;induction h with
  | nil=>intro b a;cases a
  | cons h t ih=>
    intro b a;rcases r_8.mp a with e | e
    ·obtain⟨rs,q,_⟩:=h;rw[e];exact⟨_,q⟩
    ·exact ih b e
 exact aux S.ms
theorem StoAt.fpin {H:Hp} {st kd mk:Addr} {mas:List Addr} {room:Int} {s:Sto} (S:StoAt H st kd mk mas room s):∀b∈st::mk::kd::mas,(∃u,H b=some u)/\∀xs,H b≠some (.tup xs):=λb a=>by
 rcases r_8.mp a with e | a
 ·rw[e];exact⟨⟨_,S.sto⟩,λxs q=>by rw[S.sto] at q;cases q⟩
 rcases r_8.mp a with e | a
 ·rw[e];exact⟨⟨_,S.marks⟩,λxs q=>by rw[S.marks] at q;cases q⟩
 rcases r_8.mp a with e | a
 ·obtain⟨rs,q,_⟩:=S.kept
  rw[e];exact⟨⟨_,q⟩,λxs q'=>by rw[q] at q';cases q'⟩
 ·obtain⟨kvs,q⟩:=S.dicts b a
  exact⟨⟨_,q⟩,λxs q'=>by rw[q] at q';cases q'⟩
def WD (x:Str):Deed->Prop
 | .chg _=>inV (.str x) [V.str "bring",V.str "alter",V.str "cut"]=true
 | .all _=>x="all"
 | .begin=>x="begin"
 | .keep=>x="keep"
 | .brk=>x="break"
 | _=>inV (.str x) [V.str "bring",V.str "alter",V.str "cut"]=false/\¬ V.str x=V.str "all"/\¬ V.str x=V.str "begin"/\inV (.str x) [V.str "keep",V.str "break"]=false
theorem k_P {H:Hp} {a:Addr} {d:Deed} (hd:DeedAt H a d):∃(x:Str) (r:List V),H a=some (.tup (.str x::r))/\WD x d:=by
 cases d with
 | chg c=>
   cases c with
   | bring ρ=>obtain⟨r,b,f⟩:=id hd;exact⟨"bring",_,b,show inV _ _=true by decide+kernel⟩
   | alter ρ=>obtain⟨r,b,f⟩:=id hd;exact⟨"alter",_,b,show inV _ _=true by decide+kernel⟩
   | cut n=>exact⟨"cut",_,hd,show inV _ _=true by decide+kernel⟩
 | all cs=>obtain⟨l,as,b,_⟩:=id hd;exact⟨_,_,b,rfl⟩
 | begin=>exact⟨_,_,hd,rfl⟩
 | keep=>exact⟨_,_,hd,rfl⟩
 | brk=>exact⟨_,_,hd,rfl⟩
 | row n=>exact⟨_,_,hd,by decide+kernel,by decide+kernel,by decide+kernel,by decide+kernel⟩
 | within x lo e=>exact⟨_,_,hd,by decide+kernel,by decide+kernel,by decide+kernel,by decide+kernel⟩
 | both lo e t=>exact⟨_,_,hd,by decide+kernel,by decide+kernel,by decide+kernel,by decide+kernel⟩
 | «from» x k m=>exact⟨_,_,hd,by decide+kernel,by decide+kernel,by decide+kernel,by decide+kernel⟩
 | spot x n=>exact⟨_,_,hd,by decide+kernel,by decide+kernel,by decide+kernel,by decide+kernel⟩
theorem e_a {room:Int} {l0:List Row}:∀{cs:List Chg} {i:Nat} {l:List Row},(d_R room l0 i l cs).2= .str "done"\/∃j x,(d_R room l0 i l cs).2= .tup [.int j,.str x]
 | [],i,l=> .inl rfl
 | c::r,i,l=>by
   unfold d_R;dsimp only;split
   ·exact e_a
   ·exact .inr ⟨_,_,rfl⟩
theorem n_q {H H':Hp} {f:List Addr} {d:D} {v:V} (h:d= .str "done"\/∃j x,d= .tup [.int j,.str x]) (hb:Bears H' d v):Ans H' f d v/\NewA H H' v:=by
 rcases h with rfl | ⟨j,x,rfl⟩
 ·cases hb
  exact⟨.str _,NewA.str _⟩
 ·cases hb with
  | tup c e=>
    cases e with
    | cons a b=>
      cases a;cases b with
      | cons a b=>
        cases a;cases b;exact⟨.pair c,NewA.tup c⟩
theorem c_Z {α β:Type} {F:α->β->Prop} {b:β}:∀{l:List α} {B:List β},Paired F l (B++ [b])->∃l0 a,l=l0++ [a]/\Paired F l0 B/\F a b
 | [],B,h=>by have:=Paired.length h;simp at this
 | x::r, [],h=>by
   cases h with
   | cons h t=>
     cases t;exact⟨[],x,rfl,.nil,h⟩
 | x::r,c::B,h=>by
   cases h with
   | cons h t=>
     obtain⟨l0,a,e,p,q⟩:=c_Z t;exact⟨x::l0,a,by rw[e];rfl,.cons h p,q⟩
abbrev m_W (H:Hp) (st kd mk:Addr) (mas:List Addr) (room:Int) (Q:VK) (r:Sto×D):Prop:=∀(v:V) (kd':Addr) (mas':List Addr) (H':Hp),StoAt H' st kd' mk mas' room r.1->Stp H H' (st::mk::kd::mas) (st::mk::kd'::mas')->a_N H H'->Ans H' (st::mk::kd'::mas') r.2 v->NewA H H' v->Q v H'
section
variable {P:Program} {w:World} {K:PySem.W.Frag} {mg:Str->Option Value} {base:Heap}
def f_d:Sp:=λvs H Q _=>∃(st kd mk a:Addr) (mas:List Addr) (room sd:Int) (s:Sto) (d:Deed),vs= [.ref st,.ref a]/\StoAt H st kd mk mas room s/\DeedAt H a d/\d.form/\d.tell sd/\s.inML sd/\s.nums/\s.marks.length<=900/\d.wsz<=900/\m_W H st kd mk mas room Q (s.step room d)
theorem f_f:a_s ["_law_store","_law_deed","_law_before"] ["_law_store","_law_deed"] (a_n e_u):=⟨rfl,rfl,rfl,by decide+kernel,rfl,by decide+kernel,by decide+kernel⟩
theorem h_x {f fCd fAl fTo:Addr} {fd fdCd fdAl fdTo:FuncData} (F:Fun K "_law_answered" "_law_answered" e_u f fd) (B:Bt mg) (gCd:Gf K mg "_law_changed" fCd fdCd ["_law_store","_law_deed"]) (GCd:FnOk P w K mg base CX0 1 fCd fdCd ["_law_store","_law_deed"] e_d)
 (gAl:Gf K mg "_law_all_changed" fAl fdAl ["_law_store","_law_deeds"]) (GAl:FnOk P w K mg base CX0 2 fAl fdAl ["_law_store","_law_deeds"] d_P) (gTo:Gf K mg "_law_told_by_all" fTo fdTo ["_law_store","_law_deed"]) (GTo:FnOk P w K mg base CX0 2 fTo fdTo ["_law_store","_law_deed"] m_b):FnOk P w K mg base CX0 3 f fd ["_law_store","_law_deed"] f_d:=by
 refine F.ok f_f (λvs H Q E h=> ?_) (λcdv A outer s H vs Q E hr h=> ?_)
 ·obtain⟨st,kd,mk,a,mas,room,sd,so,d,rfl,_⟩:=h
  rfl
 ·obtain⟨st,kd,mk,a,mas,room,sd,so,d,rfl,S,hd,hf,htl,hml,hnum,hm,hwz,fin⟩:=h
  have Z:=e_V hr;have hu:=hr.units0;have hr1:Room 1 _:=hr.mono (by decide);have hr2:Room 2 _:=hr.mono (by decide)
  refine⟨_,(a_c (a_C (a_m d_e (a_r (a_j K) (pv 1) a_g (λ_ _=>rfl)) (a_P (a_a a_l (a_a a_l (a_a a_l a_d)))) (by with_unfolding_all rfl)) (a_f (a_o (a_k GCd hr1 rfl gCd.mg gCd.kp gCd.b .nil a_u (a_a (pv 0) (a_a (pv 1) a_d))))) a_p)
   (a_c (a_C (a_m a_J (a_r (a_j K) (pv 1) a_g (λ_ _=>rfl)) a_l (a_q _)) (a_f (a_o (a_k GAl hr2 rfl gAl.mg gAl.kp gAl.b .nil a_u (a_a (pv 0) (a_a (a_r (a_j K) (pv 1) a_g (λ_ _=>rfl)) a_d))))) a_p)
   (a_c (a_C (a_m a_J (a_r (a_j K) (pv 1) a_g (λ_ _=>rfl)) a_l (a_q _)) (a_c (a_y (b_x s_H s_J s_I a_O (b_n Z (pv 0) a_l (λ_ _=>rfl)) (a_a (e_v PySem.F.plainAttrs_dict PySem.F.slot_dict_copy PySem.F.type_dict_copy h_7 (b_n Z (pv 0) a_l (λ_ _=>rfl))) a_d)))
   (a_f (a_o a_l))) a_p)
   (a_c (a_C (a_m d_e (a_r (a_j K) (pv 1) a_g (λ_ _=>rfl)) (a_P (a_a a_l (a_a a_l a_d))) (by with_unfolding_all rfl)) (a_c (a_C (a_m (h_6 hu) (b_n Z (pv 0) a_l (λ_ _=>rfl)) (a_P a_d) (a_q _)) (a_f (a_o a_l)) a_p)
   (a_c (a_w (i:=2) f_f.nd rfl (Or.inl rfl) (e_v s_H PySem.F.slot_list_pop PySem.F.type_list_pop f_3 (b_n Z (pv 0) a_l (λ_ _=>rfl))))
   (a_c (a_C (a_m a_J (a_r (a_j K) (pv 1) a_g (λ_ _=>rfl)) a_l (a_q _)) (a_f (e_g Z (pv 0) a_l (pv 2) rfl)) a_p)
   (a_f (a_o a_l))))) a_p)
   (a_f (a_o (a_k GTo hr2 rfl gTo.mg gTo.kp gTo.b .nil a_u (a_a (pv 0) (a_a (pv 1) a_d))))))))),?_⟩
  obtain⟨L,hk,T,X,C⟩:=id S;have hlen:so.kept.length < 64:=c_J hnum.kept hml.kept;have hml2:mas.length=so.marks.length:=by rw[Paired.length X,s_z]
  have n_sm:st≠mk:=λe=>by simp[e] at C
  have n_sk:st≠kd:=λe=>by simp[e] at C
  have n_mk:mk≠kd:=λe=>by simp[e] at C
  have n_s:∀b∈mas,b≠st:=λb g e=>by rw[e] at g;simp[g] at C
  have n_m:∀b∈mas,b≠mk:=λb g e=>by rw[e] at g;simp[g] at C
  have n_k:∀b∈mas,b≠kd:=λb g e=>by rw[e] at g;simp[g] at C
  have n_d:mas.Nodup:=by simp at C;exact C.2.2.2
  obtain⟨rs,hkd,hR⟩:=id hk;have tkO:∀{H1 I:Hp},Same H H1->(∀b u,H1 b=some u->b∉st::mk::kd::mas->I b=some u)->a_N H I:=λl k2 b xs q=>k2 _ _ (l _ _ q) λg=>(S.fpin b g).2 xs q;have stp:∀{H1 I:Hp} {f:List Addr},Same H H1->(∀b u,H1 b=some u->b∉st::mk::kd::mas->I b=some u)->(∀b∈f,b∈st::mk::kd::mas\/H b=none)->Stp H I (st::mk::kd::mas) f:=λl k2 hf=>⟨λb u q g=>k2 _ _ (l _ _ q) g,hf⟩;have msK:∀{H1 I:Hp},Same H H1->a_N H I->(∀b∈mas,∀u,H1 b=some u->I b=some u)->Paired (KeptAt I) mas so.marks.reverse:=λl tk k=>b_N tk X λb g u q=>k b g u (l _ _ q);obtain⟨x,rr,hw,J⟩:=k_P hd;refine⟨_,rfl,a,_,_,_,rfl,rfl,SqT.of hw,a_e (j:=0) rfl,by show 3<=sizeLine;decide,λn1 hn1=> ?_⟩;have l:=Same.upd_new (o:= .lst [V.str "bring",V.str "alter",V.str "cut"]) hn1;refine⟨n1,_,rfl,.inl (SqL.of a_b),rfl,rfl,_,rfl,?_⟩;generalize upd H n1 (.lst [V.str "bring",V.str "alter",V.str "cut"])=H1 at l ⊢;have M:=l _ _ hw;by_cases has:d.asks
  ·have hq:inV (.str x) [V.str "bring",V.str "alter",V.str "cut"]=false∧¬ V.str x=V.str "all"∧¬ V.str x=V.str "begin"∧inV (.str x) [V.str "keep",V.str "break"]=false:=by
    cases d <;> first | exact J | exact has.elim
   obtain⟨w1,w2,w3,w4⟩:=hq;refine a_x (λq=>absurd (show inV _ _=true from q) (by rw[w1];decide)) (λ_=> ?_);refine⟨_,rfl,a,_,_,_,rfl,rfl,SqT.of M,a_e (j:=0) rfl,rfl,_,rfl,a_x (λq=>absurd (s_F q) w2) (λ_=> ?_)⟩;refine⟨_,rfl,a,_,_,_,rfl,rfl,SqT.of M,a_e (j:=0) rfl,rfl,_,rfl,a_x (λq=>absurd (s_F q) w3) (λ_=> ?_)⟩;refine⟨_,rfl,a,_,_,_,rfl,rfl,SqT.of M,a_e (j:=0) rfl,by show 2<=sizeLine;decide,λn2 Y=> ?_⟩;have R:=Same.upd_new (o:= .lst [V.str "keep",V.str "break"]) Y;refine⟨n2,_,rfl,.inl (SqL.of a_b),rfl,rfl,_,rfl,?_⟩;generalize upd H1 n2 (.lst [V.str "keep",V.str "break"])=I at R ⊢;have n:=l.trans R;refine a_x (λq=>absurd (show inV _ _=true from q) (by rw[w4];decide)) (λ_=> ?_);rw[e_b has] at fin;refine⟨_,rfl,_,rfl,st,kd,mk,a,room,so.kept,d,st::mk::kd::mas,rfl,n _ _ L,KeptAt.same hk n,DeedAt.same n hd,has,hf,hlen,hnum.kept,λb g=> ?_, λv H' s' hA hnew=> ?_⟩
   ·obtain⟨⟨u,q⟩,_⟩:=S.fpin b g
    rw[n _ _ q];exact λz=>by cases z
   ·exact fin v kd mas H' (S.same (n.trans s')) (stp (n.trans s') (λb u h _=>h) λb g=> .inl g) (tkO (n.trans s') λb u h _=>h) hA λt xs e q=>n.free (hnew t xs e q)
  cases d with
  | chg c=>
    refine a_x (λ_=> ?_) (λq=>absurd (show inV _ _=true from J) q);refine⟨_,rfl,_,rfl,st,kd,mk,a,room,so.kept,c,rfl,l _ _ L,KeptAt.same hk l,ChgAt.mono (H:=H) (λb xs q=>l _ _ q) hd,by omega,λI k2 R=> ?_⟩;have k2':∀b u,H1 b=some u->b∉st::mk::kd::mas->I b=some u:=λb u h O=>R _ _ h λe=>O (by rw[e];simp);have tk:=tkO l k2';exact fin (.str (b_g room so.kept c).2) kd mas I ⟨R _ _ (l _ _ L) n_sk,k2,R _ _ (l _ _ T) n_mk,msK l tk λb g u h=>R _ _ h (n_k b g),C⟩ (stp l k2' λb g=> .inl g) tk (.str _) (NewA.str _)
  | all cs=>
    obtain⟨la,as,h1,h2,h3⟩:=id hd;have h1':=l _ _ h1;have J:x="all":=J;subst J;refine a_x (λq=>absurd (show inV _ _=true from q) (by decide+kernel)) (λ_=> ?_);refine⟨_,rfl,a,_,_,_,rfl,rfl,SqT.of M,a_e (j:=0) rfl,rfl,_,rfl,a_x (λ_=> ?_) (λq=>absurd (s_D rfl) q)⟩;refine⟨_,rfl,_,rfl,a,_,_,_,rfl,rfl,SqT.of h1',a_e (j:=1) rfl,st,kd,mk,la,as,room,so.kept,cs,rfl,l _ _ L,KeptAt.same hk l,l _ _ h2,b_f (λb xs q=>l _ _ q) h3,?_, n_sk.symm,λv kd' H' q1 q2 q3 q4 q5=> ?_⟩
    ·have:cs.length<=900:=hwz
     omega
    have k2':∀b u,H1 b=some u->b∉st::mk::kd::mas->H' b=some u:=λb u h O=>q4 _ _ h (λe=>O (by rw[e];simp)) (λe=>O (by rw[e];simp));have tk:=tkO l k2';obtain⟨a1,a2⟩:=n_q (H:=H) (f:=st::mk::kd'::mas) e_a q5;have hkd':kd'=kd\/H kd'=none:=q3.imp id λq=>l.free q;refine fin v kd' mas H' ⟨q1,q2,q4 _ _ (l _ _ T) n_mk n_sm.symm,msK l tk λb g u h=>q4 _ _ h (n_k b g) (n_s b g),?_⟩ (stp l k2' λb g=> ?_) tk a1 a2
    ·rcases hkd' with e | e
     ·rw[e];exact C
     ·have nn:∀b∈st::mk::kd::mas,b≠kd':=fun b g z=>by
       obtain⟨⟨u,q⟩,_⟩:=S.fpin b g;rw[z,e] at q;cases q
      have i1:=nn st (by simp);have i2:=nn mk (by simp);have i3:kd'∉mas:=λz=>nn kd' (by simp[z]) rfl;simp at C ⊢;grind
    ·rcases hkd' with e | e
     ·rw[e] at g;exact .inl g
     ·simp at g ⊢;grind
  | begin=>
    have J:x="begin":=J;subst J;refine a_x (λq=>absurd (show inV _ _=true from q) (by decide+kernel)) (λ_=> ?_);refine⟨_,rfl,a,_,_,_,rfl,rfl,SqT.of M,a_e (j:=0) rfl,rfl,_,rfl,a_x (λq=>absurd q (by decide+kernel)) (λ_=> ?_)⟩;refine⟨_,rfl,a,_,_,_,rfl,rfl,SqT.of M,a_e (j:=0) rfl,rfl,_,rfl,a_x (λ_=> ?_) (λq=>absurd (s_D rfl) q)⟩;refine⟨_,rfl,st,_,rfl,c_v (l _ _ L),.inl ⟨rfl,_,SqL.of (l _ _ T)⟩,_,rfl,st,_,rfl,b_2 (l _ _ L),.inr (.inr (.inl ⟨rfl,.inl ⟨_,l _ _ hkd⟩⟩)),kd,_,rfl,rfl,l _ _ hkd,λG hbd=> ?_⟩;have R:=Same.upd_new (o:= .dK (a_L rs so.kept)) hbd;have hbd2:(upd H1 G (.dK (a_L rs so.kept))) G=some (.dK (a_L rs so.kept)):=a_b;generalize upd H1 G (.dK (a_L rs so.kept))=I at R hbd2 ⊢;have n:=l.trans R;have hbd0:H G=none:=l.free hbd;refine⟨mk,_,_,rfl,rfl,n _ _ T,by rw[r_X];exact a_F (by omega),?_⟩;have k3:∀b u,I b=some u->b∉st::mk::kd::mas->(upd I mk (.lst (mas.map V.ref++ [V.ref G]))) b=some u:=λb u h O=>by rw[a_i (λe=>O (by rw[e];simp))];exact h
    have N:∀b u,I b=some u->b≠mk->(upd I mk (.lst (mas.map V.ref++ [V.ref G]))) b=some u:=λb u h O=>by rw[a_i O];exact h
    have tk:=tkO n k3
    have nn:∀b∈st::mk::kd::mas,b≠G:=λb g z=>by
     obtain⟨⟨u,q⟩,_⟩:=S.fpin b g;rw[z,hbd0] at q;cases q
    have i1:=nn st (by simp);have i2:=nn mk (by simp);have i4:=nn kd (by simp);have i3:G∉mas:=λz=>nn G (by simp[z]) rfl;refine fin (.str "done") kd (mas++ [G]) _ ⟨N _ _ (n _ _ L) n_sm,⟨rs,N _ _ (n _ _ hkd) n_mk.symm,hR.same tk⟩,?_, ?_, ?_⟩ (stp n k3 λb g=> ?_) tk (.str _) (NewA.str _)
    ·rw[a_b,r_5];rfl
    ·show Paired _ _ (so.kept::so.marks).reverse
     rw[List.reverse_cons];exact a_D (msK n tk λb g u h=>N _ _ h (n_m b g)) (.cons ⟨rs,N _ _ hbd2 i2.symm,hR.same tk⟩ .nil)
    ·simp[List.nodup_append] at C ⊢;grind
    ·simp at g ⊢;grind
  | keep=>
    have J:x="keep":=J;subst J;refine a_x (λq=>absurd (show inV _ _=true from q) (by decide+kernel)) (λ_=> ?_);refine⟨_,rfl,a,_,_,_,rfl,rfl,SqT.of M,a_e (j:=0) rfl,rfl,_,rfl,a_x (λq=>absurd q (by decide+kernel)) (λ_=> ?_)⟩;refine⟨_,rfl,a,_,_,_,rfl,rfl,SqT.of M,a_e (j:=0) rfl,rfl,_,rfl,a_x (λq=>absurd q (by decide+kernel)) (λ_=> ?_)⟩;refine⟨_,rfl,a,_,_,_,rfl,rfl,SqT.of M,a_e (j:=0) rfl,by show 2<=sizeLine;decide,λn2 Y=> ?_⟩;have R:=Same.upd_new (o:= .lst [V.str "keep",V.str "break"]) Y;refine⟨n2,_,rfl,.inl (SqL.of a_b),rfl,rfl,_,rfl,?_⟩;generalize upd H1 n2 (.lst [V.str "keep",V.str "break"])=I at R ⊢;have n:=l.trans R;refine a_x (λ_=> ?_) (λq=>absurd (show inV _ _=true by decide+kernel) q);refine⟨_,rfl,st,_,rfl,c_v (n _ _ L),by show 0<=sizeLine;decide,λn3 hn3=> ?_⟩;have s3:=Same.upd_new (o:= .lst []) hn3;refine⟨mk,n3,_,rfl,rfl,SqL.of (s3 _ _ (n _ _ T)),a_b,_,rfl,?_⟩;generalize upd I n3 (.lst [])=H3 at s3 ⊢;have p:=n.trans s3;cases em:so.marks with
    | nil=>
      have e0:mas= []:=s_t.mp (by rw[hml2,em];rfl);refine a_x (λ_=> ?_) (λq=>absurd (by rw[e0];rfl) q);have es:so.step room .keep=(so,.str "not begun"):=by simp only[Sto.step,em]
      rw[es] at fin;exact fin _ kd mas H3 (S.same p) (stp p (λb u h _=>h) λb g=> .inl g) (tkO p λb u h _=>h) (.str _) (NewA.str _)
    | cons m r=>
      rw[em,List.reverse_cons] at X;obtain⟨y,G,rfl,hp0,hb0⟩:=c_Z X;refine a_x (λq=>absurd (show ((y++ [G]).map V.ref).isEmpty=true from q) (by simp)) (λ_=> ?_);have es:so.step room .keep=({ so with marks:=r },.str "done"):=by simp only[Sto.step,em]
      rw[es] at fin;have W:=p _ _ T;refine⟨_,rfl,st,_,rfl,c_v (p _ _ L),.inl ⟨rfl,_,SqL.of W⟩,mk,_,V.ref G,rfl,rfl,W,by simp,?_⟩;have edl:((y++ [G]).map V.ref).dropLast=y.map V.ref:=by rw[r_5];exact List.dropLast_concat
      rw[edl];have N:∀b u,H3 b=some u->b≠mk->(upd H3 mk (.lst (y.map V.ref))) b=some u:=λb u h O=>by rw[a_i O];exact h
      have U:(upd H3 mk (.lst (y.map V.ref))) mk=some (.lst (y.map V.ref)):=a_b;generalize upd H3 mk (.lst (y.map V.ref))=H4 at N U ⊢;have hst4:=N _ _ (p _ _ L) n_sm;have hw4:=N _ _ (p _ _ hw) λe=>by rw[e,T] at hw;cases hw
      refine⟨_,rfl,a,_,_,_,rfl,rfl,SqT.of hw4,a_e (j:=0) rfl,rfl,_,rfl,a_x (λq=>absurd q (by decide+kernel)) (λ_=> ?_)⟩;have k4':∀b u,H3 b=some u->b∉st::mk::kd::(y++ [G])->H4 b=some u:=λb u h O=>N b u h λe=>O (by rw[e];simp);have tk:=tkO p k4';refine fin _ kd y H4 ⟨hst4,?_, U,?_, ?_⟩ (stp p k4' λb g=> .inl ?_) tk (.str _) (NewA.str _)
      ·exact⟨rs,N _ _ (p _ _ hkd) n_mk.symm,hR.same tk⟩
      ·exact b_N tk hp0 λb g u h=>N _ _ (p _ _ h) (n_m b (s_w _ g))
      ·simp at C ⊢;grind
      ·simp at g ⊢;grind
  | brk=>
    have J:x="break":=J;subst J;refine a_x (λq=>absurd (show inV _ _=true from q) (by decide+kernel)) (λ_=> ?_);refine⟨_,rfl,a,_,_,_,rfl,rfl,SqT.of M,a_e (j:=0) rfl,rfl,_,rfl,a_x (λq=>absurd q (by decide+kernel)) (λ_=> ?_)⟩;refine⟨_,rfl,a,_,_,_,rfl,rfl,SqT.of M,a_e (j:=0) rfl,rfl,_,rfl,a_x (λq=>absurd q (by decide+kernel)) (λ_=> ?_)⟩;refine⟨_,rfl,a,_,_,_,rfl,rfl,SqT.of M,a_e (j:=0) rfl,by show 2<=sizeLine;decide,λn2 Y=> ?_⟩;have R:=Same.upd_new (o:= .lst [V.str "keep",V.str "break"]) Y;refine⟨n2,_,rfl,.inl (SqL.of a_b),rfl,rfl,_,rfl,?_⟩;generalize upd H1 n2 (.lst [V.str "keep",V.str "break"])=I at R ⊢;have n:=l.trans R;refine a_x (λ_=> ?_) (λq=>absurd (show inV _ _=true by decide+kernel) q);refine⟨_,rfl,st,_,rfl,c_v (n _ _ L),by show 0<=sizeLine;decide,λn3 hn3=> ?_⟩;have s3:=Same.upd_new (o:= .lst []) hn3;refine⟨mk,n3,_,rfl,rfl,SqL.of (s3 _ _ (n _ _ T)),a_b,_,rfl,?_⟩;generalize upd I n3 (.lst [])=H3 at s3 ⊢;have p:=n.trans s3;cases em:so.marks with
    | nil=>
      have e0:mas= []:=s_t.mp (by rw[hml2,em];rfl);refine a_x (λ_=> ?_) (λq=>absurd (by rw[e0];rfl) q);have es:so.step room .brk=(so,.str "not begun"):=by simp only[Sto.step,em]
      rw[es] at fin;exact fin _ kd mas H3 (S.same p) (stp p (λb u h _=>h) λb g=> .inl g) (tkO p λb u h _=>h) (.str _) (NewA.str _)
    | cons m r=>
      rw[em,List.reverse_cons] at X;obtain⟨y,G,rfl,hp0,hb0⟩:=c_Z X;refine a_x (λq=>absurd (show ((y++ [G]).map V.ref).isEmpty=true from q) (by simp)) (λ_=> ?_);have es:so.step room .brk=(⟨m,r⟩,.str "done"):=by simp only[Sto.step,em]
      rw[es] at fin;have W:=p _ _ T;refine⟨_,rfl,st,_,rfl,c_v (p _ _ L),.inl ⟨rfl,_,SqL.of W⟩,mk,_,V.ref G,rfl,rfl,W,by simp,?_⟩;have edl:((y++ [G]).map V.ref).dropLast=y.map V.ref:=by rw[r_5];exact List.dropLast_concat
      rw[edl];have N:∀b u,H3 b=some u->b≠mk->(upd H3 mk (.lst (y.map V.ref))) b=some u:=λb u h O=>by rw[a_i O];exact h
      have U:(upd H3 mk (.lst (y.map V.ref))) mk=some (.lst (y.map V.ref)):=a_b;generalize upd H3 mk (.lst (y.map V.ref))=H4 at N U ⊢;have hst4:=N _ _ (p _ _ L) n_sm;have hw4:=N _ _ (p _ _ hw) λe=>by rw[e,T] at hw;cases hw
      refine⟨_,rfl,a,_,_,_,rfl,rfl,SqT.of hw4,a_e (j:=0) rfl,rfl,_,rfl,a_x (λ_=> ?_) (λq=>absurd (s_D rfl) q)⟩;refine⟨_,rfl,_,rfl,st,_,rfl,DPut.k (k:=Sum.inr ("kept":Str)) hst4 (by show 3 < sizeLine;decide),?_⟩;rw[j_B]
      have k5:∀b u,H3 b=some u->b∉st::mk::kd::(y++ [G])->(upd H4 st (.dK (e_T room G mk))) b=some u:=λb u h O=>by
       rw[a_i (λe=>O (by rw[e];simp))];exact N b u h λe=>O (by rw[e];simp)
      have k6:∀b∈y++ [G],∀u,H b=some u->(upd H4 st (.dK (e_T room G mk))) b=some u:=λb g u h=>by
       rw[a_i (n_s b g)];exact N _ _ (p _ _ h) (n_m b g)
      have tk:=tkO p k5;obtain⟨rb,hbd,hRb⟩:=hb0;refine fin _ G y _ ⟨a_b,?_, ?_, ?_, ?_⟩ (stp p k5 λb g=> .inl ?_) tk (.str _) (NewA.str _)
      ·exact⟨rb,k6 G (by simp) _ hbd,hRb.same tk⟩
      ·rw[a_i n_sm.symm];exact U
      ·exact b_N tk hp0 λb g u h=>k6 b (s_w _ g) u h
      ·simp[List.nodup_append] at C ⊢;grind
      ·simp at g ⊢;grind
  | _=>exact absurd trivial has
end
mutual
theorem Bears.same {H H':Hp} (s:Same H H'):∀{d:D} {v:V},Bears H d v->Bears H' d v
 | _,_,.int i=> .int i
 | _,_,.str x=> .str x
 | _,_,.lst h t=> .lst (s _ _ h) (BearsL.same s t)
 | _,_,.tup h t=> .tup (s _ _ h) (BearsL.same s t)
theorem BearsL.same {H H':Hp} (s:Same H H'):∀{ds:List D} {vs:List V},BearsL H ds vs->BearsL H' ds vs
 | _,_,.nil=> .nil
 | _,_,.cons h t=> .cons (Bears.same s h) (BearsL.same s t)
end
theorem p_B (ρ:Row):(j_W ρ).wt=4:=by simp[j_W,D.wt,D.wts]
theorem m_y {k:Nat}:∀{l:List D},(∀d∈l,d.wt<=k)->D.wts l<=k * l.length
 | [],_=>by simp[D.wts]
 | d::r,h=>by
   have h1:=h d (r_1 ..);have h2:=m_y (l:=r) λx hx=>h x (r_0 _ hx);simp only[D.wts,r_3,Nat.mul_add];omega
theorem d_k (l:List Row):(e_H l).wt=1+4 * l.length:=by
 show 1+D.wts (l.map j_W)=_;rw[j_U]
theorem m_o {l:List Row} {d:Deed} (hl:l.length < 64):(b_U l d).wt<=300:=by
 have b:∀w,(a_W w l).length < 64:=λw=>by rw[a_6];exact hl
 have a:∀(m:List Row) (p:Row->Bool),(m.filter p).length<=m.length:=λm p=>s_y _ _;cases d with
 | row n=>
   simp only[b_U];split
   ·rw[p_B];omega
   ·simp[D.wt]
 | both lo c t=>
   simp only[b_U];rw[d_k];have f:=a ((a_W false l).filter λx=>decide (x.t=t)) (i_j false (.int lo) (.int c));have g:=a (a_W false l) λx=>decide (x.t=t);have e:=b false;omega
 | within x lo c=>
   simp only[b_U];split
   ·rename_i w _
    rw[d_k];have f:=a (a_W w l) (i_j w lo c);have e:=b w;omega
   ·simp[D.wt]
 | «from» x k m=>
   simp only[b_U];split
   ·rename_i w _
    rw[d_k,d_9,c_h,List.length_drop,s_j];have e:=b w;omega
   ·simp[D.wt]
 | spot x n=>
   simp only[b_U];split
   ·split <;> simp[D.wt]
   ·simp[D.wt]
 | _=>simp[b_U,D.wt]
theorem n_f {room sd:Int} {s:Sto} {d:Deed} (hm:s.inML sd) (hn:s.nums):(s.step room d).2.wt<=300:=by
 by_cases has:d.asks
 ·rw[e_b has];exact m_o (c_J hn.kept hm.kept)
 ·cases d with
  | chg c=>simp[Sto.step,D.wt]
  | all cs=>
    simp only[Sto.step]
    rcases e_a (room:=room) (l0:=s.kept) (cs:=cs) (i:=0) (l:=s.kept) with e | ⟨j,x,e⟩ <;> rw[e] <;> simp[D.wt,D.wts]
  | begin=>simp[Sto.step,D.wt]
  | keep=>simp only[Sto.step];split <;> simp[D.wt]
  | brk=>simp only[Sto.step];split <;> simp[D.wt]
  | _=>exact absurd trivial has
theorem f_w (room:Int):∀(ds:List Deed) (s:Sto),(s.run room ds).2.length=ds.length
 | [],s=>rfl
 | d::r,s=>by simp only[Sto.run,r_3,f_w room r]
theorem j_Z {room sd:Int}:∀{ds:List Deed} {s:Sto},(∀d∈ds,d.tell sd)->s.inML sd->s.nums->D.wts (s.run room ds).2<=300 * ds.length
 | [],s,_,_,_=>by simp[Sto.run,D.wts]
 | d::r,s,hd,hm,hn=>by
   have b:=n_f (room:=room) (d:=d) hm hn;have c:=j_Z (room:=room) (ds:=r) (s:=(s.step room d).1) (λe a=>hd e (r_0 _ a)) (j_G (hd d (r_1 ..)) hm) (g_u hn);simp only[Sto.run,D.wts,r_3];omega
theorem f_O {room:Int}:∀{ds:List Deed} {s:Sto},s.nums->(s.run room ds).1.nums
 | [],s,h=>h
 | d::r,s,h=>f_O (ds:=r) (g_u h)
theorem d_f {room:Int}:∀{ds:List Deed} {s:Sto},(s.run room ds).1.marks.length<=s.marks.length+ds.length
 | [],s=>r_6 _
 | d::r,s=>by
   have h1:=i_P (room:=room) (s:=s) (d:=d);have h2:=d_f (room:=room) (ds:=r) (s:=(s.step room d).1);show ((s.step room d).1.run room r).1.marks.length<=_;rw[r_3];omega
theorem f_u {d:Deed} (h:d.form):d.wsz<=24:=by
 cases d <;> first | exact h | exact s_p _
theorem f_W:∀{ds:List Deed},(∀d∈ds,d.form)->tot ds<=25 * ds.length
 | [],_=>by simp[tot]
 | d::r,h=>by
   have h1:=f_u (h d (r_1 ..));have h2:=f_W (ds:=r) λx hx=>h x (r_0 _ hx);have e:tot (d::r)=(d.wsz+1)+tot r:=by simp[tot]
   rw[e,r_3];omega
theorem e_3 {K:PySem.W.Frag} {a Da:Addr} {σ:L2.St} {js:List Nat} {tt:TT} {te:TE} {QQ:Hp->Prop} {H:Hp} {as:List Addr} {ds:List Deed} (sd:Int) (ha:H a=some (.lst (as.map .ref))) (hP:Paired (DeedAt H) as ds) (hf:∀d∈ds,d.form/\d.short) (hD:H Da=none) (hsz:ds.length<=900)
 (ht:∀σ H2 (Qb:Bool->Hp->Prop),Qb true H2->tt σ H2 Qb)
 (he:∀b d H2 (Q:VK),Same H H2->DeedAt H2 b d->d.form->d.short->(∀(b':Addr) (d':Deed) (H3:Hp),Same H2 H3->DeedAt H3 b' d'->d'.form->d'.tell sd->(∀l',H3 b'=some (.tup [.str "all",.ref l'])->H2 l'=none)->(d.asks->d'.asks)->Q (.ref b') H3)->te (b_r σ js (some (.ref b))) H2 Q)
 (hd:∀H' bs ds',Same H H'->H' Da=some (.lst (bs.map V.ref))->Paired (DeedAt H') bs ds'->ds'.length=ds.length->(∀d∈ds',d.form/\d.tell sd)->((∀d∈ds,d.asks)->∀d∈ds',d.asks)->QQ H'):∃W:Nat->Nat->Hp->Prop,(∃m,W 0 m (upd H Da (.lst [])))/\e_U (Itl K a) Da σ js tt te QQ W:=by
 have y:=Paired.length hP;refine c_C (K:=K) (xs:=as.map V.ref) (λi ys f=>Same H f/\∃(bs:List Addr) (ds':List Deed),ys=bs.map V.ref/\Paired (DeedBy Da f) bs ds'/\ds'.length=i/\∀d∈ds',(d.form/\d.tell sd)/\((∀e∈ds,e.asks)->d.asks)) ⟨Same.upd_new hD, [], [],rfl,.nil,rfl,by simp⟩ (λi ys f _ _ h=>SqL.of (h.1 _ _ ha)) ?_ ?_
 ·rintro i v ys f k c ⟨g,bs,ds',rfl,l,s,o⟩
  rw[r_9] at k;cases e:as[i]? with
  | none=>rw[e] at k;cases k
  | some r=>
    rw[e] at k;obtain rfl:V.ref r=v:=r_4 k;have J:=(s_b.mp e).1;obtain⟨d,hdd⟩:∃d,ds[i]? =some d:=⟨_,r_Y (by omega)⟩;obtain⟨a',e',t⟩:=a_U hP hdd;rw[e] at e';obtain rfl:r=a':=r_4 e';obtain⟨I,C⟩:=hf d (s_n hdd);refine ht _ _ _ (k_S (he r d f _ g (DeedAt.same g t) I C λb' d' L n G A E w F=>⟨n _ _ c,?_, λb u p=> ?_, bs++ [b'],ds'++ [d'],by rw[r_5];rfl,?_, by simp[s],λx B=> ?_⟩))
    ·have:=Paired.length l
     rw[r_X];exact a_F (by omega)
    ·rw[a_i (a_h p hD)]
     exact n _ _ (g _ _ p)
    ·refine j_o (n _ _ c) (a_D (c_7 n l) (.cons ⟨G,λl' q z=> ?_⟩ .nil))
     have:=w l' q;rw[z,c] at this;cases this
    ·rcases s_f.mp B with q | q
     ·exact o x q
     ·rw[r_2.mp q];exact⟨⟨A,E⟩,λz=>F (z d (s_n hdd))⟩
 ·rintro ys f c ⟨g,bs,ds',rfl,l,s,o⟩
  rw[r_X] at s;exact hd f bs ds' g c (f_P l) (by omega) (λd j=>(o d j).1) λz d j=>(o d j).2 z
theorem g_s {K:PySem.W.Frag} {a Da st mk:Addr} {σ:L2.St} {js:List Nat} {tt:TT} {te:TE} {QQ:Hp->Prop} {H0 H:Hp} {as:List Addr} {ds:List Deed} {kd:Addr} {mas:List Addr} {room sd:Int} {s0:Sto} (ha:H0 a=some (.lst (as.map .ref))) (hP:Paired (DeedAt H0) as ds) (hf:∀d∈ds,d.form/\d.tell sd) (sm0:Same H0 H) (hD:H Da=none) (hsz:s0.marks.length+ds.length<=900)
 (S0:StoAt H st kd mk mas room s0) (hfp:∀b∈st::mk::kd::mas,H0 b=none) (hm0:s0.inML sd) (hn0:s0.nums)
 (ht:∀σ H2 (Qb:Bool->Hp->Prop),Qb true H2->tt σ H2 Qb)
 (he:∀b d H2 (Q:VK) kd mas s,StoAt H2 st kd mk mas room s->DeedAt H2 b d->d.form->d.tell sd->s.inML sd->s.nums->s.marks.length<=900->m_W H2 st kd mk mas room Q (s.step room d)->te (b_r σ js (some (.ref b))) H2 Q)
 (hd:∀H' vs kd' mas',Same H0 H'->H' Da=some (.lst vs)->Paired (Ans H' (Da::st::mk::kd'::mas')) (s0.run room ds).2 vs->StoAt H' st kd' mk mas' room (s0.run room ds).1->(∀b∈st::mk::kd'::mas',H0 b=none)->Da∉st::mk::kd'::mas'->QQ H'):∃W:Nat->Nat->Hp->Prop,(∃m,W 0 m (upd H Da (.lst [])))/\e_U (Itl K a) Da σ js tt te QQ W:=by
 have O:=Paired.length hP;have Z:H0 Da=none:=sm0.free hD
 have DaF:∀{H kd mas s},H Da=none->StoAt H st kd mk mas room s->Da∉st::mk::kd::mas:=λhD S y=>by
  obtain⟨⟨u,q⟩,_⟩:=S.fpin _ y;rw[hD] at q;cases q
 refine c_C (K:=K) (xs:=as.map V.ref) (λi ys J=>Same H0 J/\∃(j:Addr) (c:List Addr),StoAt J st j mk c room (s0.run room (ds.take i)).1/\(∀b∈st::mk::j::c,H0 b=none)/\Da∉st::mk::j::c/\ys.length=i/\Paired (Ans J (Da::st::mk::j::c)) (s0.run room (ds.take i)).2 ys)
  ⟨sm0.trans (Same.upd_new hD),kd,mas,S0.same (Same.upd_new hD),hfp,DaF hD S0,rfl,.nil⟩ (λi ys J _ _ h=>SqL.of (h.1 _ _ ha)) ?_ ?_
 ·rintro i v ys I F n ⟨l,j,c,G,p,o,B,w⟩
  rw[r_9] at F;cases e:as[i]? with
  | none=>rw[e] at F;cases F
  | some r=>
    rw[e] at F;obtain rfl:V.ref r=v:=r_4 F;have hil:=(s_b.mp e).1;obtain⟨d,hdd⟩:∃d,ds[i]? =some d:=⟨_,r_Y (by omega)⟩;obtain⟨a',e',U⟩:=a_U hP hdd;rw[e] at e';obtain rfl:r=a':=r_4 e';obtain⟨X,a0⟩:=hf d (s_n hdd);have et:ds.take (i+1)=ds.take i++ [d]:=by rw[s_o,hdd];rfl
    have tl:∀e∈ds.take i,e.tell sd:=λe he=>(hf e (List.mem_of_mem_take he)).2;have T:=d_f (room:=room) (ds:=ds.take i) (s:=s0);rw[s_j] at T;refine ht _ _ _ (k_S (he r d I _ j c _ G (DeedAt.same l U) X a0 (g_H tl hm0) (f_O hn0) (by omega) λu k g H2 A E a3 Y N=> ?_));have L:H2 Da=some (.lst ys):=E.keep _ _ n o
    have M:Da∉st::mk::k::g:=λy=>by
     rcases E.new _ y with q | q
     ·exact o q
     ·rw[n] at q;cases q
    have a1:Same H0 H2:=λb u f=>E.keep _ _ (l _ _ f) λy=>by rw[p b y] at f;cases f
    have a2:∀b∈st::mk::k::g,H0 b=none:=λb f=>by
     rcases E.new b f with q | q
     ·exact p b q
     ·exact l.free q
    have F3:Stp I H2 (Da::st::mk::j::c) (Da::st::mk::k::g):=E.wide (λb f=>r_0 _ f) λb f=>by
     rcases r_8.mp f with q | q
     ·exact .inl (by rw[q];exact r_1 ..)
     ·exact .inr q
    have x:a_N H2 (upd H2 Da (.lst (ys++ [u]))):=λb xs e=>by rw[a_i (λq=>by rw[q,L] at e;cases e)];exact e
    have C:∀b u',H2 b=some u'->b≠Da->(upd H2 Da (.lst (ys++ [u]))) b=some u':=λb u' e R=>by rw[a_i R];exact e
    have F4:Stp H2 (upd H2 Da (.lst (ys++ [u]))) (Da::st::mk::k::g) (Da::st::mk::k::g):=⟨λb u' e R=>C b u' e λq=>R (by rw[q];exact r_1 ..),λb f=> .inl f⟩
    have P:=Y.more (lf:=Da) λt xs e1 e2 q=>by
     have:=N t xs e1 e2;rw[q,n] at this;cases this
    refine⟨L,by rw[B];exact a_F (by omega),λb u' f=> ?_, k,g,?_, a2,M,by simp[B],?_⟩
    ·rw[a_i (a_h f Z)];exact a1 _ _ f
    ·rw[et,c_O]
     obtain⟨rs,q1,q2⟩:=A.kept;have ne:∀b∈st::mk::k::g,b≠Da:=λb f z=>M (by rw[<-z];exact f);exact⟨C _ _ A.sto (ne st (by simp)),⟨rs,C _ _ q1 (ne k (by simp)),q2.same x⟩,C _ _ A.marks (ne mk (by simp)),b_N x A.ms λb f u h=>C _ _ h (ne b (by simp[f])),A.nd⟩
    ·rw[et,c_O]
     exact d_H F4 x (a_D (d_H F3 a3 w) (.cons P .nil))
 ·rintro ys I n ⟨l,j,c,G,p,o,B,w⟩
  rw[r_X,O,s_h (r_6 _)] at G w;exact hd I ys j c l n w G p o
theorem l_i {K:PySem.W.Frag} {a Da st mk:Addr} {σ:L2.St} {js:List Nat} {tt:TT} {te:TE} {QQ:Hp->Prop} {H0 H:Hp} {as:List Addr} {ds:List Deed} {kd:Addr} {mas:List Addr} {room sd:Int} {s0:Sto} (ha:H0 a=some (.lst (as.map .ref))) (hP:Paired (DeedAt H0) as ds) (hf:∀d∈ds,d.form/\d.tell sd) (sm0:Same H0 H) (hD:H Da=none) (hsz:s0.marks.length+ds.length<=900)
 (S0:StoAt H st kd mk mas room s0) (hfp:∀b∈st::mk::kd::mas,H0 b=none) (hm0:s0.inML sd) (hn0:s0.nums)
 (ht:∀σ H2 (Qb:Bool->Hp->Prop),Qb true H2->tt σ H2 Qb)
 (he:∀b d H2 (Q:VK) kd mas s,StoAt H2 st kd mk mas room s->DeedAt H2 b d->d.form->d.tell sd->s.inML sd->s.nums->s.marks.length<=900->m_W H2 st kd mk mas room Q (s.step room d)->te (b_r σ js (some (.ref b))) H2 Q)
 (hd:∀H' vs kd' mas',Same H0 H'->H' Da=some (.lst vs)->BearsL H' (s0.run room ds).2 vs->StoAt H' st kd' mk mas' room (s0.run room ds).1->(∀b∈st::mk::kd'::mas',H0 b=none)->QQ H'):∃W:Nat->Nat->Hp->Prop,(∃m,W 0 m (upd H Da (.lst [])))/\e_U (Itl K a) Da σ js tt te QQ W:=
 g_s ha hP hf sm0 hD hsz S0 hfp hm0 hn0 ht he λH' vs kd' mas' e h f c g _=>hd H' vs kd' mas' e h (b_W f) c g
end K1
namespace TO
open PySem L2
theorem c_4 (room:Int):∀(ds es:List Deed) (s:Sto),s.run room (ds++es)=(((s.run room ds).1.run room es).1,(s.run room ds).2++((s.run room ds).1.run room es).2)
 | [],es,s=>rfl
 | d::r,es,s=>by
   show (((s.step room d).1.run room (r++es)).1,(s.step room d).2::((s.step room d).1.run room (r++es)).2)=_;rw[c_4 room r];rfl
theorem d_Y {room:Int}:∀{qs:List Deed} {s:Sto},(∀d∈qs,d.asks)->s.run room qs=(s,qs.map (b_U s.kept))
 | [],s,_=>rfl
 | d::r,s,h=>by
   unfold Sto.run;rw[e_b (h d (r_1 ..))];dsimp only;rw[d_Y λe he=>h e (r_0 _ he)];rfl
end TO
namespace K1
open PySem L2 TO
theorem BearsL.drop {H:Hp}:∀{ds:List D} {vs:List V} (n:Nat),BearsL H ds vs->BearsL H (ds.drop n) (vs.drop n)
 | _,_,0,h=>h
 | _,_,_+1,.nil=> .nil
 | _,_,n+1,.cons _ t=>BearsL.drop n t
theorem c_E {xs:List V} {n:Nat} (h:n<=xs.length):g_Q xs (some (n:Int)) none=xs.drop n:=by
 have e1:HT.sIx xs.length 0 (some (n:Int))=n:=by
  unfold HT.sIx;have h0:¬ ((n:Int) < 0):=by omega
  simp[h0];omega
 have e2:HT.sIx xs.length xs.length none=xs.length:=by simp[HT.sIx]
 unfold g_Q;rw[e1,e2];exact s_h (by rw[List.length_drop];omega)
theorem l_1 (ns:List Int) (lo hi:Option Int):∃ns':List Int,g_Q (ns.map V.int) lo hi=ns'.map V.int/\ns'.length<=ns.length:=by
 refine⟨(ns.drop (HT.sIx (ns.map V.int).length 0 lo)).take (HT.sIx (ns.map V.int).length (ns.map V.int).length hi - HT.sIx (ns.map V.int).length 0 lo),?_, ?_⟩
 ·unfold g_Q
  rw[List.map_take,List.map_drop]
 ·rw[s_j,List.length_drop]
  omega
def l_V (K:PySem.W.Frag):Sp:=λvs H Q _=>∃(a:Addr) (ns:List Int),vs= [.ref a]/\SqL K H a (ns.map V.int)/\ns.length<=63/\∀H',Q (.bl true) H'
section
variable {P:Program} {w:World} {K:PySem.W.Frag} {mg:Str->Option Value} {base:Heap}
def i_0:Sp:=λvs H Q _=>∃(room sd:Int) (ld:Addr) (as:List Addr) (ds:List Deed),vs= [.int room,.ref ld]/\H ld=some (.lst (as.map V.ref))/\Paired (DeedAt H) as ds/\(∀d∈ds,d.form/\d.tell sd)/\tot ds<=6000/\ds.length<=5000/\
 ∀(t r1 r2:Addr) (H':Hp),H t=none->H r1=none->H r2=none->Same H H'->H' t=some (.tup [.ref r1,.ref r2])->LstAt H' r1 (a_W false ((⟨[], []⟩:Sto).run room ds).1.kept)->LstAt H' r2 (a_W true ((⟨[], []⟩:Sto).run room ds).1.kept)->Q (.ref t) H'
theorem j_Y:a_s ["room","deeds","store"] ["room","deeds"] (a_n j_H):=⟨rfl,rfl,rfl,by decide+kernel,rfl,by decide+kernel,by decide+kernel⟩
theorem k_6 {f fN fI fRo CS CO:Addr} {fd fdN fdI fdRo:FuncData} (F:Fun K "both_orders" "both_orders" j_H f fd) (T:Txt K mg CO) (TS:e_W K mg CS CO) (M:Mk K CS fI) (bI:Binds K fdI ["self","room"] []) (GI:FnOk P w K mg base CX0 4 fI fdI ["self","room"] (g_9 CS CO))
 (gN:Gf K mg "answers_in" fN fdN ["store","deeds"]) (GN:FnOk P w K mg base CX0 12 fN fdN ["store","deeds"] (q_F CS CO)) (mRo:Mf K CO "rows" fRo fdRo ["self"]) (GRo:FnOk P w K mg base CX0 1 fRo fdRo ["self"] (m_w CO)):FnOk P w K mg base CX0 13 f fd ["room","deeds"] i_0:=by
 refine F.ok j_Y (λvs H Q E h=> ?_) (λcdv A outer s H vs Q E N h=> ?_)
 ·obtain⟨room,sd,ld,as,ds,rfl,_⟩:=h
  rfl
 ·obtain⟨room,sd,ld,as,ds,rfl,W,hD,v,hN,G,fin⟩:=h
  have hr5:Room 5 _:=N.mono (by decide);have r:Room 1 _:=N.mono (by decide)
  refine⟨_,a_c (a_w (i:=2) j_Y.nd rfl (Or.inl rfl) (f_T M GI hr5 rfl TS.mgS bI .nil a_u (a_a (pv 0) a_d)))
   (a_c (a_y (a_k GN N rfl gN.mg gN.kp gN.b .nil a_u (a_a (pv 2) (a_a (pv 1) a_d))))
   (a_f (a_o (a_H (a_a (b_A (a_E (pv 2) rfl) T.cl mRo.m GRo r mRo.b .nil a_u) (a_a (b_A (a_E (pv 2) rfl) T.cl mRo.m GRo r mRo.b .nil a_u) a_d)))))),?_⟩
  refine⟨_,rfl,λp dx np nd ne=>⟨p,dx,room,rfl,a_b,λA' H1 S e hf kp=>⟨rfl,?_⟩⟩⟩;have s1:=g_t np nd kp;have y:(⟨[], []⟩:Sto).inML sd:=⟨λx hx=>(by cases hx),λk hk=>(by cases hk)⟩;refine⟨_,rfl,_,rfl,H,A',ld,as,ds,0,room,sd,⟨[], []⟩,by rw[e];rfl,S,s1,λb hb=>g_l np nd (hf b hb),W,hD,v,by omega,G,y,λlf vs' a H2 h1 q h3 h4 S2 eo _ _=> ?_⟩;obtain⟨l,st,ms,C,hs,n,_,_⟩:=S2.ex;have j:=hs.nums;have hml:=g_H (room:=room) (λd hd=>(v d hd).2) y;have hl64:l.length < 64:=by rw[n.length_eq];exact c_J (b_R n j) hml.kept
  obtain⟨bl1,R,B1,O1,G1,Z⟩:=StrC.ordW C j false;obtain⟨X,J,B2,O2,G2,e2⟩:=StrC.ordW C j true;obtain⟨U,ho1⟩:=O1.ob;obtain⟨dx2,ho2⟩:=O2.ob;have e0:a.o=p:=eo.trans e;have g:=C.ob;rw[e0] at g;refine⟨_,rfl,p,CS,a.dx,_,_,rfl,g,TS.cl,TS.nRank,f_Q,a.o1,U,_,rfl,ho1,a_Z _ _ (by decide+kernel) (by decide+kernel),false,a.o1,bl1,R,B1,rfl,O1,by rw[Z,a_6];omega,λr1 H3 L c B=> ?_⟩;refine⟨_,rfl,p,CS,a.dx,_,_,rfl,c _ _ g,TS.cl,TS.nText,e_e,a.o2,dx2,_,rfl,c _ _ ho2,a_Z _ _ (by decide+kernel) (by decide+kernel),true,a.o2,X,J,B2,rfl,O2.same c,by rw[e2,a_6];omega,λY H4 I s4 z=>⟨by show 2<=sizeLine;decide,λt ht=> ?_⟩⟩;have O:=Same.upd_new (o:= .tup [V.ref r1,V.ref Y]) ht;have u:=c.trans s4;rw[Z,b_q j n] at B;rw[e2,b_q j n] at z;exact fin t r1 Y _ (q.free (u.free ht)) (q.free L) (q.free (c.free I)) ((q.trans u).trans O) a_b (LstAt.sameS B (s4.trans O)) (LstAt.sameS z O)
def i_X:Sp:=λvs H Q _=>∃(a:Addr) (ρ:Row),vs= [.ref a]/\RowAt H a ρ/\Q (.bl true) H
theorem o_m:a_s ["_law_found"] ["_law_found"] (a_n j_1):=⟨rfl,rfl,rfl,by decide+kernel,rfl,by decide+kernel,by decide+kernel⟩
theorem k_Y {f fW:Addr} {fd fdW:FuncData} (F:Fun K "_law_is_row" "_law_is_row" j_1 f fd) (B:Bt mg) (gW:Gf K mg "_law_whole" fW fdW ["_law_found"]) (GW:FnOk P w K mg base CX0 1 fW fdW ["_law_found"] g_3):
 FnOk P w K mg base CX0 2 f fd ["_law_found"] i_X:=by
 refine F.ok o_m (λvs H Q E h=> ?_) (λcdv A outer s H vs Q E d h=> ?_)
 ·obtain⟨a,ρ,rfl,_⟩:=h
  rfl
 ·obtain⟨a,ρ,rfl,c,k⟩:=h
  refine⟨_,a_c (a_C (PW.pt (c_D (b_1 (b_s (a_t (a_1 K) (by rfl) B.isi c_V (a_a (pv 0) (a_a (b_G B.tuple e_P) a_d))))) (c_D (a_m d_m (a_t (a_B K) (by rfl) B.len s_G (a_a (pv 0) a_d)) a_g (a_q _))
   (b_I (b_1 (b_s (a_t (a_1 K) (by rfl) B.isi c_V (a_a (a_r (a_j K) (pv 0) a_g (λ_ _=>rfl)) (a_a (b_G B.str n_e) a_d))))))))) (a_f (a_o d_o)) a_p)
   (a_f (a_o (i_9 (a_k GW d rfl gW.mg gW.kp gW.b .nil a_u (a_a (a_r (a_j K) (pv 0) a_g (λ_ _=>rfl)) a_d)) (j_V (a_k GW d rfl gW.mg gW.kp gW.b .nil a_u (a_a (a_r (a_j K) (pv 0) a_g (λ_ _=>rfl)) a_d)))))),?_⟩
  refine⟨_,rfl,_,_,_,_,rfl,.tup c,rfl,_,rfl,?_⟩;refine⟨_,rfl,a,_,rfl,.inr (SqT.of c),rfl,_,rfl,?_⟩;refine⟨_,rfl,a,_,_,_,rfl,rfl,SqT.of c,a_e (j:=2) rfl,_,_,_,_,rfl,.str _,rfl,_,rfl,?_⟩;refine⟨_,rfl,a,_,_,_,rfl,rfl,SqT.of c,a_e (j:=0) rfl,_,rfl,_,rfl,?_⟩;exact⟨_,rfl,a,_,_,_,rfl,rfl,SqT.of c,a_e (j:=1) rfl,_,rfl,k⟩
def g_M:Sp:=λvs H Q _=>∃(l:Addr) (ρs:List Row),vs= [.ref l]/\LstAt H l ρs/\Q (.bl true) H
theorem g_n:a_s ["_law_found","_law_row"] ["_law_found"] (a_n f_A):=⟨rfl,rfl,rfl,by decide+kernel,rfl,by decide+kernel,by decide+kernel⟩
theorem i_x {f fR:Addr} {fd fdR:FuncData} (F:Fun K "_law_are_rows" "_law_are_rows" f_A f fd) (B:Bt mg) (gR:Gf K mg "_law_is_row" fR fdR ["_law_found"]) (GR:FnOk P w K mg base CX0 2 fR fdR ["_law_found"] i_X):
 FnOk P w K mg base CX0 3 f fd ["_law_found"] g_M:=by
 refine F.ok g_n (λvs H Q E h=> ?_) (λcdv A outer s H vs Q E n h=> ?_)
 ·obtain⟨l,ρs,rfl,_⟩:=h
  rfl
 ·obtain⟨l,ρs,rfl,⟨as,g,m⟩,k⟩:=h
  refine⟨_,a_c (a_C (b_1 (b_s (a_t (a_1 K) (by rfl) B.isi c_V (a_a (pv 0) (a_a (b_G B.list e_N) a_d))))) (a_f (a_o d_o)) a_p)
   (a_c (b_Z PassesOwn.never rfl (a_T K (pv 0)) (b_b (i:=1) g_n.nd rfl (Or.inl rfl)) (a_f (a_C (b_1 (b_s (a_k GR n rfl gR.mg gR.kp gR.b .nil a_u (a_a (pv 1) a_d)))) (a_f (a_o d_o)) a_p)))
   (a_f (a_o d_o))),?_⟩
  refine⟨_,rfl,_,_,_,_,rfl,.lst g,rfl,_,rfl,?_⟩;refine⟨_,rfl,l,rfl,⟨_,SqL.of g⟩,b_X (K:=K) (a:=l) (xs:=as.map V.ref) (λi σ d=>∃v,σ= [some (.ref l),v]/\d=H) ⟨none,rfl,rfl⟩ (λi σ d _ ⟨_,_,e⟩=>by rw[e];exact SqL.of g) ?_ ?_⟩
  ·rintro i x σ d c ⟨v,rfl,rfl⟩
   rw[r_9] at c;cases e:as[i]? with
   | none=>rw[e] at c;cases c
   | some a=>
     rw[e] at c;obtain rfl:V.ref a=x:=r_4 c;obtain⟨ρ,_,j⟩:=m.get' e;exact⟨_,rfl,a,ρ,rfl,j,_,rfl,_,rfl,rfl⟩
  ·rintro σ d ⟨v,rfl,rfl⟩
   exact k
end
end K1
namespace L2
open PySem PySem.Spec PyProof.Rows
section
variable {X:Cx}
end
end L2
namespace TO
open PySem L2
end TO
namespace K1
open PySem L2 TO
def g_6 (l:List Row):D:= .tup [e_H (a_W false l),e_H (a_W true l)]
theorem d_A {H:Hp} {t r1 r2:Addr} {l:List Row} (ht:H t=some (.tup [.ref r1,.ref r2])) (h1:LstAt H r1 (a_W false l)) (h2:LstAt H r2 (a_W true l)):Bears H (g_6 l) (.ref t):= .tup ht (.cons (LstAt.bears h1) (.cons (LstAt.bears h2) .nil))
theorem n_7 {l:List Row} (h:l.length < 64):(g_6 l).wt<=600:=by
 have h1:=d_k (a_W false l);have h2:=d_k (a_W true l);rw[a_6] at h1 h2;show 1+D.wts [e_H (a_W false l),e_H (a_W true l)]<=600;simp only[D.wts];omega
end K1
namespace TO
open PySem L2
def Deed.isB:Deed->Bool
 | .begin=>true
 | _=>false
def Deed.isK:Deed->Bool
 | .keep=>true
 | .brk=>true
 | _=>false
def wbL:Nat->List Deed->List Deed×Nat
 | n, []=>([],n)
 | n,d::r=>if d.isB=true then (d::(wbL (n+1) r).1,(wbL (n+1) r).2) else if d.isK=true then (if n=0 then wbL 0 r else (d::(wbL (n - 1) r).1,(wbL (n - 1) r).2)) else (d::(wbL n r).1,(wbL n r).2)
theorem e_Z:∀(ds:List Deed) (n:Nat),(wbL n ds).1.length<=ds.length/\(wbL n ds).2<=n+ds.length
 | [],n=>⟨r_6 _,r_6 _⟩
 | d::r,n=>by
   have h1:=e_Z r (n+1);have h2:=e_Z r (n - 1);have h3:=e_Z r n;have h4:=e_Z r 0;simp only[wbL,r_3]
   repeat' split
   all_goals first | omega | (simp only[r_3];omega)
theorem k_B:∀{ds:List Deed} {n:Nat} {d:Deed},d∈(wbL n ds).1->d∈ds
 | [],n,d,h=>h
 | e::r,n,d,h=>by
   simp only[wbL] at h
   (repeat' split at h) <;> first
     | exact r_0 _ (k_B h)
     | (rcases r_8.mp h with q | q
        ·rw[q];exact r_1 ..
        ·exact r_0 _ (k_B q))
theorem b_9 {room:Int}:∀{ds:List Deed} {n:Nat} {t:Sto} {ms base:List (List Row)},t.marks=ms++base->ms.length=n->∃ms',(t.run room (wbL n ds).1).1.marks=ms'++base/\ms'.length=(wbL n ds).2
 | [],n,t,ms,base,h,a=>⟨ms,h,a⟩
 | d::r,n,t,ms,base,h,a=>by
   cases d with
   | begin=>
     have b:(t.step room .begin).1.marks=(t.kept::ms)++base:=by show t.kept::t.marks=_;rw[h];rfl
     exact b_9 (ds:=r) b (by simp[a])
   | keep=>
     simp only[wbL,Deed.isB,Deed.isK];cases ms with
     | nil=>
       simp at a;subst a;exact b_9 (ds:=r) (ms:= []) h rfl
     | cons m ms0=>
       have e:n≠0:=by simp at a;omega
       simp only[Bool.false_eq_true,if_false,if_true,e];have b:(t.step room .keep).1.marks=ms0++base:=by simp only[Sto.step,h,List.cons_append]
       exact b_9 (ds:=r) b (by simp at a;omega)
   | brk=>
     simp only[wbL,Deed.isB,Deed.isK];cases ms with
     | nil=>
       simp at a;subst a;exact b_9 (ds:=r) (ms:= []) h rfl
     | cons m ms0=>
       have e:n≠0:=by simp at a;omega
       simp only[Bool.false_eq_true,if_false,if_true,e];have b:(t.step room .brk).1.marks=ms0++base:=by simp only[Sto.step,h,List.cons_append]
       exact b_9 (ds:=r) b (by simp at a;omega)
   | chg c=>exact b_9 (ds:=r) (t:=(t.step room (.chg c)).1) h a
   | all cs=>exact b_9 (ds:=r) (t:=(t.step room (.all cs)).1) h a
   | row k=>exact b_9 (ds:=r) (t:=(t.step room (.row k)).1) h a
   | within x lo f=>exact b_9 (ds:=r) (t:=(t.step room (.within x lo f)).1) h a
   | both lo f x=>exact b_9 (ds:=r) (t:=(t.step room (.both lo f x)).1) h a
   | «from» x k m=>exact b_9 (ds:=r) (t:=(t.step room (.from x k m)).1) h a
   | spot x k=>exact b_9 (ds:=r) (t:=(t.step room (.spot x k)).1) h a
theorem h_N {room:Int}:∀{n:Nat} {t:Sto} {ms base:List (List Row)},t.marks=ms++base->ms.length=n->(t.run room (List.replicate n .brk)).1.marks=base
 | 0,t,ms,base,h,hl=>by
   have:ms= []:=s_t.mp hl;subst this;exact h
 | n+1,t,ms,base,h,hl=>by
   cases ms with
   | nil=>simp at hl
   | cons m ms0=>
     rw[List.replicate_succ];have a:(t.step room .brk).1.marks=ms0++base:=by simp only[Sto.step,h,List.cons_append]
     exact h_N (n:=n) a (by simpa using hl)
def f_v (ds:List Deed):List Deed:= .begin::((wbL 0 ds).1++List.replicate (wbL 0 ds).2 .brk)++ [.brk]
theorem l_n (room:Int) (s:Sto) (ds:List Deed):(s.run room (f_v ds)).1=s:=by
 unfold f_v;rw[List.cons_append];show ((s.step room .begin).1.run room (((wbL 0 ds).1++List.replicate (wbL 0 ds).2 .brk)++ [.brk])).1=s;rw[c_O];show ((((s.step room .begin).1.run room ((wbL 0 ds).1++List.replicate (wbL 0 ds).2 .brk)).1).step room .brk).1=s;rw[c_4];obtain⟨ms',b,c⟩:=b_9 (room:=room) (ds:=ds) (n:=0) (t:=(s.step room .begin).1) (ms:= []) (base:=s.kept::s.marks) rfl rfl;have a:=h_N (room:=room) b c;simp only[Sto.step] at a ⊢;rw[a]
theorem k_2 (ds:List Deed):(f_v ds).length<=2+2 * ds.length:=by
 have:=e_Z ds 0;simp only[f_v,r_Z,r_3,List.length_replicate,s_x];omega
theorem m_1 {sd:Int} {ds:List Deed} (h:∀d∈ds,d.form/\d.tell sd):∀d∈f_v ds,d.form/\d.tell sd:=λd hd=>by
 simp only[f_v,s_f,r_8,List.mem_replicate,List.not_mem_nil,or_false] at hd;rcases hd with (rfl | q | q) | rfl
 ·exact⟨trivial,trivial⟩
 ·exact h d (k_B q)
 ·rw[q.2];exact⟨trivial,trivial⟩
 ·exact⟨trivial,trivial⟩
end TO
namespace K1
open PySem L2 TO
def r_L:TS:=λD σ H=>∃(a:Addr) (x:Str) (r:List V) (n:Int),σ[3]? =some (some (.ref a))/\σ[2]? =some (some (.int n))/\σ.set 2 (some (.int n))=σ/\H a=some (.tup (.str x::r))/\D.nx (σ.set 2 (some (.int (if x="begin" then n+1 else n)))) H
section
variable {P:Program} {w:World} {K:PySem.W.Frag} {mg:Str->Option Value} {base:Heap}
def r_k:Sp:=λvs H Q _=>∃(l:Addr) (as:List Addr) (ds:List Deed),vs= [.ref l]/\H l=some (.lst (as.map V.ref))/\Paired (DeedAt H) as ds/\ds.length<=400/\
 ∀(m:Addr) (bs:List Addr) (H':Hp),H m=none->Same H H'->H' m=some (.lst (bs.map V.ref))->Paired (DeedAt H') bs ((wbL 0 ds).1++List.replicate (wbL 0 ds).2 .brk)->Q (.ref m) H'
theorem o_v:a_s ["_law_deeds","_law_kept","_law_deep","_law_deed"] ["_law_deeds"] (a_n c_w):=⟨rfl,rfl,rfl,by decide+kernel,rfl,by decide+kernel,by decide+kernel⟩
theorem q_R {d:Deed}:inV (.str (Deed.word d)) [V.str "keep",V.str "break"]=d.isK:=by
 cases d with
 | chg c=>cases c with
   | bring ρ=>exact (by decide+kernel:inV (V.str "bring") [V.str "keep",V.str "break"]=false)
   | alter ρ=>exact (by decide+kernel:inV (V.str "alter") [V.str "keep",V.str "break"]=false)
   | cut n=>exact (by decide+kernel:inV (V.str "cut") [V.str "keep",V.str "break"]=false)
 | all cs=>exact (by decide+kernel:inV (V.str "all") [V.str "keep",V.str "break"]=false)
 | begin=>exact (by decide+kernel:inV (V.str "begin") [V.str "keep",V.str "break"]=false)
 | keep=>exact (by decide+kernel:inV (V.str "keep") [V.str "keep",V.str "break"]=true)
 | brk=>exact (by decide+kernel:inV (V.str "break") [V.str "keep",V.str "break"]=true)
 | row n=>exact (by decide+kernel:inV (V.str "row") [V.str "keep",V.str "break"]=false)
 | within x lo a=>exact (by decide+kernel:inV (V.str "within") [V.str "keep",V.str "break"]=false)
 | both lo a x=>exact (by decide+kernel:inV (V.str "both") [V.str "keep",V.str "break"]=false)
 | «from» x k m=>exact (by decide+kernel:inV (V.str "from") [V.str "keep",V.str "break"]=false)
 | spot x n=>exact (by decide+kernel:inV (V.str "spot") [V.str "keep",V.str "break"]=false)
theorem p_S {d:Deed}:(Deed.word d="begin")↔d.isB=true:=by
 have no:∀{x:Str} {b:Bool},b=false->¬ x="begin"->(x="begin"↔b=true):=λe h=>⟨λz=>absurd z h,λz=>by rw[e] at z;cases z⟩;cases d with
 | chg c=>cases c with
   | bring ρ=>exact no (x:="bring") rfl (by decide+kernel)
   | alter ρ=>exact no (x:="alter") rfl (by decide+kernel)
   | cut n=>exact no (x:="cut") rfl (by decide+kernel)
 | all cs=>exact no (x:="all") rfl (by decide+kernel)
 | begin=>exact⟨λ_=>rfl,λ_=>rfl⟩
 | keep=>exact no (x:="keep") rfl (by decide+kernel)
 | brk=>exact no (x:="break") rfl (by decide+kernel)
 | row n=>exact no (x:="row") rfl (by decide+kernel)
 | within x lo a=>exact no (x:="within") rfl (by decide+kernel)
 | both lo a x=>exact no (x:="both") rfl (by decide+kernel)
 | «from» x k m=>exact no (x:="from") rfl (by decide+kernel)
 | spot x n=>exact no (x:="spot") rfl (by decide+kernel)
theorem p_8 {f:Addr} {fd:FuncData} (F:Fun K "_law_within_begun" "_law_within_begun" c_w f fd) (B:Bt mg):FnOk P w K mg base CX0 1 f fd ["_law_deeds"] r_k:=by
 refine F.ok o_v (λvs H Q E h=> ?_) (λcdv A outer s H vs Q E hr h=> ?_)
 ·obtain⟨l,as,ds,rfl,_⟩:=h
  rfl
 ·obtain⟨l,as,ds,rfl,hl,hP,hsz,fin⟩:=h
  have hal:=Paired.length hP
  refine⟨_,(a_c (a_w (i:=1) o_v.nd rfl (Or.inl rfl) (a_P a_d))
   (a_c (a_w (i:=2) o_v.nd rfl (Or.inl rfl) a_g)
   (a_c (b_Z PassesOwn.never rfl (a_T K (pv 0)) (b_b (i:=3) o_v.nd rfl (Or.inl rfl))
   (a_c (i_1 (t':=r_L) (a_C (a_m a_J (a_r (a_j K) (pv 3) a_g (λ_ _=>rfl)) a_l (a_q _)) (a_f (a_w (i:=2) o_v.nd rfl (Or.inl rfl) (a_v a_V (pv 2) a_g))) a_p) (by rintro D σ H ⟨a,x,r,n,W,e2,es,ha,q⟩;exact⟨_,W,a,_,_,_,rfl,rfl,SqT.of ha,a_e (j:=0) rfl,rfl,_,rfl,a_x (λc=>⟨_,e2,_,_,rfl,rfl,by rw[if_pos (by have:=s_F c;injection this)] at q;exact q⟩) (λc=>by rw[if_neg (λz=>c (s_D (by rw[z]))),es] at q;exact q)⟩))
   (a_f (a_C (PW.pt (c_D (a_m d_O (a_r (a_j K) (pv 3) a_g (λ_ _=>rfl)) (a_P (a_a a_l (a_a a_l a_d))) (by with_unfolding_all rfl)) (b_I (a_m h_o (pv 2) a_g (a_q _))))) (a_c (a_y (b_x s_H s_J s_I a_O (pv 1) (a_a (pv 3) a_d)))
   (a_f (a_C (a_m d_e (a_r (a_j K) (pv 3) a_g (λ_ _=>rfl)) (a_P (a_a a_l (a_a a_l a_d))) (by with_unfolding_all rfl)) (a_f (a_w (i:=2) o_v.nd rfl (Or.inl rfl) (a_v b_S (pv 2) a_g))) a_p))) a_p))))
   (a_f (a_o (a_v c_T (pv 1) (a_v o_w (a_P (a_a (a_H (a_a a_l a_d)) a_d)) (pv 2)))))))),?_⟩
  refine⟨by show 0<=sizeLine;decide,λm hm=> ?_⟩;have s1:Same H (upd H m (.lst [])):=Same.upd_new hm
  refine⟨_,rfl,l,rfl,⟨_,SqL.of (s1 _ _ hl)⟩,b_X (K:=K) (a:=l) (xs:=as.map V.ref) (λi σ Hx=>∃(bs:List Addr) (acc:List Deed) (deep:Nat) (v:Option V),σ= [some (.ref l),some (.ref m),some (.int (deep:Int)),v]/\Same H Hx/\Hx m=some (.lst (bs.map V.ref))/\Paired (DeedAt H) bs acc/\acc.length<=i/\deep<=i/\wbL 0 ds=(acc++(wbL deep (ds.drop i)).1,(wbL deep (ds.drop i)).2))
   ⟨[], [],0,none,rfl,s1,a_b,.nil,r_6 _,r_6 _,rfl⟩ (λi σ Hx _ ⟨_,_,_,_,_,sx,_⟩=>SqL.of (sx _ _ hl)) ?_ ?_⟩
  ·rintro i x σ Hx U ⟨bs,acc,deep,v,rfl,sx,S,L,a7,a6,g⟩
   rw[r_9] at U;cases e:as[i]? with
   | none=>rw[e] at U;cases U
   | some a=>
     rw[e] at U;obtain rfl:V.ref a=x:=r_4 U;have hil:=(s_b.mp e).1;obtain⟨d,hd⟩:∃d,ds[i]? =some d:=⟨_,r_Y (by omega)⟩;obtain⟨a',e',a0⟩:=a_U hP hd;rw[e] at e';obtain rfl:a=a':=r_4 e';obtain⟨r,T⟩:=DeedAt.word a0;have hbl:=Paired.length L;have a3:=sx _ _ T
     have ed:ds.drop i=d::ds.drop (i+1):=by
      rw[List.drop_eq_getElem_cons (by omega)];rw[(s_b.mp hd).2]
     rw[ed] at g;have a5:(bs.map V.ref).length < sizeLine:=by rw[r_X];exact a_F (by omega)
     refine⟨a,Deed.word d,r,(deep:Int),rfl,rfl,rfl,a3,?_⟩;refine⟨_,rfl,a,_,_,_,rfl,rfl,SqT.of a3,a_e (j:=0) rfl,by show 2<=sizeLine;decide,λn1 hn1=> ?_⟩;have G:=Same.upd_new (o:= .lst [V.str "keep",V.str "break"]) hn1;refine⟨n1,_,rfl,.inl (SqL.of a_b),rfl,rfl,_,rfl,?_⟩;generalize upd Hx n1 (.lst [V.str "keep",V.str "break"])=H2 at G ⊢;have C:=G _ _ S;have grow:Same H (upd H2 m (.lst (bs.map V.ref++ [V.ref a]))):=λb u h=>by rw[a_i (a_h h hm)];exact G _ _ (sx _ _ h)
     have gm:(upd H2 m (.lst (bs.map V.ref++ [V.ref a]))) m=some (.lst ((bs++ [a]).map V.ref)):=by rw[a_b,r_5];rfl
     have O:Paired (DeedAt H) (bs++ [a]) (acc++ [d]):=a_D L (.cons a0 .nil);have J:inV (.str (Deed.word d)) [V.str "keep",V.str "break"]=d.isK:=q_R;by_cases M:d.isK=true
     ·have I:¬ Deed.word d="begin":=λz=>by have:=p_S.mp z;cases d <;> first | (cases M;done) | (cases this;done)
      have hb':¬ d.isB=true:=λz=>I (p_S.mpr z);refine a_x (λq=>absurd q (by rw[if_pos rfl,J,M];decide)) (λ_=> ?_);rw[if_neg I];simp only[wbL,if_neg hb',if_pos M] at g;refine⟨_,rfl,_,_,rfl,rfl,_,rfl,a_x (λq=> ?_) (λq=> ?_)⟩
      ·have a4:0 < deep:=by have:=s_F q;omega
       rw[if_neg (by omega)] at g;refine⟨_,rfl,.inl ⟨rfl,_,SqL.of C⟩,_,rfl,m,_,_,rfl,rfl,C,a5,?_⟩;have y:=(grow _ _ T);generalize upd H2 m (.lst (bs.map V.ref++ [V.ref a]))=H3 at grow gm y ⊢;refine⟨_,rfl,a,_,_,_,rfl,rfl,SqT.of y,a_e (j:=0) rfl,by show 2<=sizeLine;decide,λn2 R=> ?_⟩;have p:=Same.upd_new (o:= .lst [V.str "keep",V.str "break"]) R;refine⟨n2,_,rfl,.inl (SqL.of a_b),rfl,rfl,_,rfl,a_x (λ_=> ?_) (λq=>absurd (show inV _ _=true by rw[J,M]) q)⟩;have ez:(deep:Int) - 1=((deep - 1:Nat):Int):=by omega
       refine⟨_,rfl,_,_,rfl,rfl,bs++ [a],acc++ [d],deep - 1,_,by rw[<-ez];rfl,grow.trans p,p _ _ gm,O,by simp;omega,by omega,?_⟩;rw[g,List.append_assoc];rfl
      ·have a4:deep=0:=by
        have:¬ (0:Int) < (deep:Int):=λz=>q (s_D z);omega
       subst a4;rw[if_pos rfl] at g;exact⟨bs,acc,0,_,rfl,sx.trans G,C,L,by omega,by omega,g⟩
     ·have Z:d.isK=false:=by simpa using M
      refine a_x (λ_=> ?_) (λq=>absurd (by rw[if_pos rfl,J,Z];rfl) q);refine⟨_,rfl,.inl ⟨rfl,_,SqL.of C⟩,_,rfl,m,_,_,rfl,rfl,C,a5,?_⟩;have y:=(grow _ _ T);generalize upd H2 m (.lst (bs.map V.ref++ [V.ref a]))=H3 at grow gm y ⊢;refine⟨_,rfl,a,_,_,_,rfl,rfl,SqT.of y,a_e (j:=0) rfl,by show 2<=sizeLine;decide,λn2 R=> ?_⟩;have p:=Same.upd_new (o:= .lst [V.str "keep",V.str "break"]) R;refine⟨n2,_,rfl,.inl (SqL.of a_b),rfl,rfl,_,rfl,a_x (λq=>absurd (show inV _ _=true from q) (by rw[J,Z];decide)) (λ_=> ?_)⟩;by_cases I:d.isB=true
      ·rw[if_pos (p_S.mpr I)]
       simp only[wbL,if_pos I] at g;refine⟨bs++ [a],acc++ [d],deep+1,_,rfl,grow.trans p,p _ _ gm,O,by simp;omega,by omega,?_⟩;rw[g,List.append_assoc];rfl
      ·rw[if_neg (λz=>I (p_S.mp z))]
       simp only[wbL,if_neg I,if_neg M] at g;refine⟨bs++ [a],acc++ [d],deep,_,rfl,grow.trans p,p _ _ gm,O,by simp;omega,by omega,?_⟩;rw[g,List.append_assoc];rfl
  ·rintro σ Hx ⟨bs,acc,deep,v,rfl,sx,S,L,a7,a6,g⟩
   rw[r_X,hal,List.drop_of_length_le (r_6 _)] at g;simp only[wbL,s_u] at g;rw[r_X] at a7 a6;have hbl:=Paired.length L;refine⟨_,rfl,by show 1<=sizeLine;decide,λt ht=>⟨by show 1<=sizeLine;decide,λY a2=> ?_⟩⟩;have G:=Same.upd_new (o:= .tup [V.str "break"]) ht;have et:(upd Hx t (.tup [V.str "break"])) t=some (.tup [V.str "break"]):=a_b;generalize upd Hx t (.tup [V.str "break"])=H2 at G et a2 ⊢;have s3:=Same.upd_new (o:= .lst [V.ref t]) a2;have W:(upd H2 Y (.lst [V.ref t])) Y=some (.lst [V.ref t]):=a_b;generalize upd H2 Y (.lst [V.ref t])=H3 at s3 W ⊢;refine⟨_,rfl,Y,_,_,rfl,rfl,W,by omega,by omega,?_, λX hl2=> ?_⟩
   ·show 1 * (deep:Int).toNat<=sizeLine
    exact Nat.le_of_lt (a_F (by omega))
   have er:(List.replicate ((deep:Int)).toNat [V.ref t]).flatten=(List.replicate deep t).map V.ref:=by
    rw[Int.toNat_natCast];induction deep with
    | zero=>rfl
    | succ k ih=>rw[List.replicate_succ,s_q,List.replicate_succ,s_c];simp
   rw[er];have p:=Same.upd_new (o:= .lst ((List.replicate deep t).map V.ref)) hl2;have e4:(upd H3 X (.lst ((List.replicate deep t).map V.ref))) X=some (.lst ((List.replicate deep t).map V.ref)):=a_b;generalize upd H3 X (.lst ((List.replicate deep t).map V.ref))=H4 at p e4 ⊢;have N:=(G.trans s3).trans p;refine⟨m,X,_,_,rfl,rfl,N _ _ S,e4,?_, λl3 a1=> ?_⟩
   ·rw[r_X,r_X,List.length_replicate]
    exact Nat.le_of_lt (a_F (by omega))
   have s5:=Same.upd_new (o:= .lst (bs.map V.ref++(List.replicate deep t).map V.ref)) a1;have sH:=(sx.trans N).trans s5
   have pr:∀(H:Hp) (k:Nat),H t=some (.tup [V.str "break"])->Paired (DeedAt H) (List.replicate k t) (List.replicate k .brk):=λH k h=>by
    induction k with
    | zero=>exact .nil
    | succ k ih=>rw[List.replicate_succ,List.replicate_succ];exact .cons h ih
   have hw1:(wbL 0 ds).1=acc:=by rw[g]
   have hw2:(wbL 0 ds).2=deep:=by rw[g]
   rw[hw1,hw2] at fin;exact fin l3 (bs++List.replicate deep t) _ ((sx.trans N).free a1) sH (by rw[a_b,r_5]) (a_D (a_K sH L) (pr _ _ (s5 _ _ (p _ _ (s3 _ _ et)))))
def r_d:Sp:=λvs H Q _=>vs= []/\∀(l:Addr) (qs:List Deed) (H':Hp),H l=none->Same H H'->LD H' l qs->Oks 56 qs->(∀d∈qs,d.asks)->Q (.ref l) H'
theorem q_2:a_s ["_law_asked","_law_number"] [] (a_n d_D):=⟨rfl,rfl,rfl,by decide+kernel,rfl,by decide+kernel,by decide+kernel⟩
theorem q_m {f fFar:Addr} {fd fdFar:FuncData} (F:Fun K "_law_questions" "_law_questions" d_D f fd) (B:Bt mg) (gFar:Gf K mg "_law_far" fFar fdFar ["_law_number"]) (GFar:FnOk P w K mg base CX0 1 fFar fdFar ["_law_number"] k_L):FnOk P w K mg base CX0 2 f fd [] r_d:=by
 refine F.ok q_2 (λvs H Q E h=> ?_) (λcdv A outer s H vs Q E hr h=> ?_)
 ·rw[h.1]
  rfl
 ·obtain⟨rfl,fin⟩:=h
  have M:Room 1 _:=hr
  refine⟨_,(a_c (a_w (i:=0) q_2.nd rfl (Or.inl rfl) (a_P (a_a (a_H (a_a a_l (a_a a_l (a_a (n_8 j_C a_g) (a_a a_g a_d))))) (a_a (a_H (a_a a_l (a_a a_l (a_a a_l (a_a a_l a_d))))) a_d))))
   (a_c (b_Z PassesOwn.never rfl (k_F rfl B.range (a_a (n_8 j_C a_g) (a_a a_g a_d))) (b_b (i:=1) q_2.nd rfl (Or.inl rfl))
   (a_c (a_y (b_x s_H s_J s_I a_O (pv 0) (a_a (a_H (a_a a_l (a_a (a_k GFar M rfl gFar.mg gFar.kp gFar.b .nil a_u (a_a (pv 1) a_d)) a_d))) a_d)))
   (a_f (a_y (b_x s_H s_J s_I a_O (pv 0) (a_a (a_H (a_a a_l (a_a (a_r (a_G K) (a_P (a_a a_l (a_a a_l a_d))) (a_v a_S (pv 1) a_g) (λ_ _=>rfl)) (a_a (a_k GFar M rfl gFar.mg gFar.kp gFar.b .nil a_u (a_a (pv 1) a_d)) a_d)))) a_d))))))
   (a_f (a_o (pv 0))))),?_⟩
  refine⟨_,rfl,by show 4<=sizeLine;decide,λm ht1=>⟨by show 4<=sizeLine;decide,λp N=>⟨by show 2<=sizeLine;decide,λl J=> ?_⟩⟩⟩;have U:=Same.upd_new (o:= .tup [V.str "within",V.str "rank",V.int (-9),V.int 1000000000000]) ht1;have S:(upd H m (.tup [V.str "within",V.str "rank",V.int (-9),V.int 1000000000000])) m=some (.tup [V.str "within",V.str "rank",V.int (-9),V.int 1000000000000]):=a_b;generalize upd H m (.tup [V.str "within",V.str "rank",V.int (-9),V.int 1000000000000])=H1 at U S N J ⊢;have G:=Same.upd_new (o:= .tup [V.str "within",V.str "text",V.str "",V.str "~"]) N;have T:(upd H1 p (.tup [V.str "within",V.str "text",V.str "",V.str "~"])) p=some (.tup [V.str "within",V.str "text",V.str "",V.str "~"]):=a_b;generalize upd H1 p (.tup [V.str "within",V.str "text",V.str "",V.str "~"])=H2 at G T J ⊢;have y:=Same.upd_new (o:= .lst [V.ref m,V.ref p]) J;have e3:(upd H2 l (.lst [V.ref m,V.ref p])) l=some (.lst (([m,p]:List Addr).map V.ref)):=a_b;generalize upd H2 l (.lst [V.ref m,V.ref p])=H3 at y e3 ⊢;have C:H l=none:=U.free (G.free J);have sH3:=(U.trans G).trans y;have q1:Deed.form (.within "rank" (.int (-9)) (.int 1000000000000))/\Deed.short (.within "rank" (.int (-9)) (.int 1000000000000)):=⟨⟨by unfold b_v;rw[if_neg (by decide+kernel)];exact⟨_,_,rfl,rfl⟩,.inl rfl⟩,⟨λs e=>(by cases e),λs e=>(by cases e)⟩⟩;have q2:Deed.form (.within "text" (.str "") (.str "~"))/\Deed.short (.within "text" (.str "") (.str "~")):=⟨⟨by unfold b_v;rw[if_pos rfl];exact⟨_,_,rfl,rfl⟩,.inr (.inl rfl)⟩,⟨λs e=>by cases e;decide,λs e=>by cases e;decide⟩⟩;have LD3:LD H3 l [.within "rank" (.int (-9)) (.int 1000000000000),.within "text" (.str "") (.str "~")]:=⟨[m,p],e3,.cons ⟨y _ _ (G _ _ S),λl' z=>by have:=b_e (H:=λ_=>some (.lst [])) (y _ _ (G _ _ S)) (by decide+kernel) l' z;cases this⟩ (.cons ⟨y _ _ T,λl' z=>by have:=b_e (H:=λ_=>some (.lst [])) (y _ _ T) (by decide+kernel) l' z;cases this⟩ .nil)⟩;refine⟨_,rfl,-1,26,rfl,⟨by decide,by decide,by decide,by decide⟩,b_7 (lo:= -1) (n:=((26:Int) - -1).toNat) (λi σ Hx=>∃(qs:List Deed) (v:Option V),σ= [some (.ref l),v]/\Same H Hx/\LD Hx l qs/\Oks (2+2 * i) qs/\∀d∈qs,d.asks) ⟨_,none,rfl,sH3,LD3,⟨by simp,λd r=> ?_⟩,λd r=> ?_⟩ ?_ ?_⟩
  ·simp at r
   rcases r with rfl | rfl
   ·exact q1
   ·exact q2
  ·simp at r
   rcases r with rfl | rfl <;> trivial
  ·rintro i σ Hx hi ⟨qs,v,rfl,sx,⟨as,k,hP⟩,I,R⟩
   have hi27:i < 27:=hi;have hal:=Paired.length hP;have ho1:=I.1;have hlt:(as.map V.ref).length < sizeLine:=by rw[r_X];exact a_F (by omega)
   generalize hnum:(-1:Int)+(i:Int)=num;refine⟨_,rfl,.inl ⟨rfl,_,SqL.of k⟩,_,rfl,_,rfl,λH4 s4=>⟨by show 2<=sizeLine;decide,λt ht=> ?_⟩⟩;have s5:=Same.upd_new (o:= .tup [V.str "row",V.int (far num)]) ht;have e5:(upd H4 t (.tup [V.str "row",V.int (far num)])) t=some (.tup [V.str "row",V.int (far num)]):=a_b;generalize upd H4 t (.tup [V.str "row",V.int (far num)])=H5 at s5 e5 ⊢;have c:=s4.trans s5;have N1:DNew Hx H5 t (.row (far num)):=⟨s4.free ht,c,e5,trivial,h_V (by omega) (by omega),b_e e5 (by decide+kernel)⟩;refine⟨l,_,_,rfl,rfl,c _ _ k,hlt,?_⟩;have L6:=LD.grow (c _ _ k) (c_7 c hP) (N1.by k);have s6:Same H (upd H5 l (.lst (as.map V.ref++ [V.ref t]))):=(Mov.upd (c _ _ k)).same (sx.trans c) λb Y=>by rw[r_2.mp Y];exact C
   generalize upd H5 l (.lst (as.map V.ref++ [V.ref t]))=H6 at L6 s6 ⊢;obtain⟨as6,a,O⟩:=L6;have W:=Paired.length O;rw[r_Z,s_v] at W;have ho6:Oks (2+2 * i+1) (qs++ [.row (far num)]):=I.snoc ⟨N1.form,N1.short⟩;refine⟨_,rfl,.inl ⟨rfl,_,SqL.of a⟩,by show 2<=sizeLine;decide,λL hn1=> ?_⟩;have X:=Same.upd_new (o:= .lst [V.str "rank",V.str "text"]) hn1;have e7:(upd H6 L (.lst [V.str "rank",V.str "text"])) L=some (.lst [V.str "rank",V.str "text"]):=a_b;generalize upd H6 L (.lst [V.str "rank",V.str "text"])=H7 at X e7 ⊢
   have pick:∃x:Str,atI [V.str "rank",V.str "text"] (num % 2)=some (.str x)/\c_r x:=by
    rcases (show num % 2=0\/num % 2=1 by omega) with e | e <;> rw[e]
    ·exact⟨_,a_e (j:=0) rfl,.inl rfl⟩
    ·exact⟨_,a_e (j:=1) rfl,.inr (.inl rfl)⟩
   obtain⟨x,hx,hwx⟩:=pick;refine⟨_,rfl,_,_,rfl,rfl,(show (0:Int) < 2 by decide),L,_,_,_,rfl,rfl,SqL.of e7,hx,_,rfl,_,rfl,λH8 s8=>⟨by show 3<=sizeLine;decide,λu hu=> ?_⟩⟩;have s9:=Same.upd_new (o:= .tup [V.str "spot",V.str x,V.int (far num)]) hu;have e9:(upd H8 u (.tup [V.str "spot",V.str x,V.int (far num)])) u=some (.tup [V.str "spot",V.str x,V.int (far num)]):=a_b;generalize upd H8 u (.tup [V.str "spot",V.str x,V.int (far num)])=H9 at s9 e9 ⊢;have g:=(X.trans s8).trans s9;have Z:DNew H6 H9 u (.spot x (far num)):=⟨(X.trans s8).free hu,g,e9,hwx,h_V (by omega) (by omega),b_e e9 (by decide+kernel)⟩;refine⟨l,_,_,rfl,rfl,g _ _ a,by rw[r_X];exact a_F (by omega),(qs++ [.row (far num)])++ [.spot x (far num)],_,rfl,?_, LD.grow (g _ _ a) (c_7 g O) (Z.by a),ho6.snoc ⟨Z.form,Z.short⟩,λd r=> ?_⟩
   ·exact (Mov.upd (g _ _ a)).same (s6.trans g) λb Y=>by rw[r_2.mp Y];exact C
   ·rcases s_f.mp r with q | q
    ·rcases s_f.mp q with q | q
     ·exact R d q
     ·rw[r_2.mp q];trivial
    ·rw[r_2.mp q];trivial
  ·rintro σ Hx ⟨qs,v,rfl,sx,hL,I,R⟩
   exact⟨_,rfl,fin l qs Hx C sx hL I R⟩
end
def i_A (f:List Addr) (H:Hp):Hp:=λb=>if b∈f then none else H b
theorem e_h {f:List Addr} {H:Hp} {b:Addr} (hn:b∉f):i_A f H b=H b:=if_neg hn
theorem f_D {f:List Addr} {H:Hp} {b:Addr} (h:b∈f):i_A f H b=none:=if_pos h
theorem l_o {f:List Addr} {H:Hp}:Same (i_A f H) H:=λb u h=>by
 by_cases c:b∈f
 ·rw[f_D c] at h;cases h
 ·rw[e_h c] at h;exact h
theorem h_3 {f:List Addr} {H H':Hp} (s:Same H H'):Same (i_A f H) (i_A f H'):=λb u h=>by
 by_cases c:b∈f
 ·rw[f_D c] at h;cases h
 ·rw[e_h c] at h ⊢;exact s _ _ h
theorem n_Q {f:List Addr} {H0 H:Hp} (s:Same H0 H) (fp:∀b∈f,H0 b=none):Same H0 (i_A f H):=λb u h=>by
 rw[e_h λc=>by rw[fp b c] at h;cases h];exact s _ _ h
theorem l_7 {f:List Addr} {H:Hp} (nt:∀b∈f,∀xs,H b≠some (.tup xs)):a_N H (i_A f H):=λb xs h=>by
 rw[e_h λc=>nt b c xs h];exact h
theorem m_I {f:List Addr} {H:Hp} {lf:Addr} {ds:List D} {vs:List V} (nt:∀b∈f,∀xs,H b≠some (.tup xs)) (h:Paired (Ans H (lf::f)) ds vs):BearsL (i_A f H) ds vs:=
 b_W (d_H (f':=lf::f) ⟨λb u e hn=>by rw[e_h λc=>hn (r_0 _ c)];exact e,λb hb=> .inl hb⟩ (l_7 nt) h)
theorem k_I {H H':Hp} (tk:a_N H H'):∀{as:List Addr} {qs:List Deed},(∀d∈qs,d.asks)->Paired (DeedAt H) as qs->Paired (DeedAt H') as qs
 | _,_,_,.nil=> .nil
 | _::_,d::_,hq,.cons h t=> .cons (by
    have:=hq d (r_1 ..)
    cases d <;> first | exact tk _ _ h | exact absurd this (λz=>z)) (k_I tk (λe he=>hq e (r_0 _ he)) t)
theorem e_K {α β:Type} {F:α->β->Prop}:∀{as:List α} {bs:List β} (n:Nat),Paired F as bs->Paired F (as.take n) (bs.take n)
 | _,_,0,_=> .nil
 | _,_,_+1,.nil=> .nil
 | _,_,n+1,.cons h t=> .cons h (e_K n t)
theorem e_o {α β:Type} {F:α->β->Prop}:∀{as:List α} {bs:List β} (n:Nat),Paired F as bs->Paired F (as.drop n) (bs.drop n)
 | _,_,0,h=>h
 | _,_,_+1,.nil=> .nil
 | _,_,n+1,.cons h t=>e_o n t
theorem i_H {xs:List V} {n:Nat} (h:n<=xs.length):g_Q xs none (some (n:Int))=xs.take n:=by
 have e1:HT.sIx xs.length 0 none=0:=by simp[HT.sIx]
 have e2:HT.sIx xs.length xs.length (some (n:Int))=n:=by
  unfold HT.sIx;have h0:¬ ((n:Int) < 0):=by omega
  simp[h0];omega
 unfold g_Q;rw[e1,e2];rfl
theorem o_f (n:Nat) {r:Int} (h0:0<=r) (h4:r<=4):∃c:Nat,(n:Int) * r / 4=(c:Int)/\c<=n:=by
 obtain⟨k,rfl⟩:=Int.eq_ofNat_of_zero_le h0;have hk:k<=4:=Int.ofNat_le.mp h4;exact⟨n * k / 4,by rw[<-Int.natCast_mul];rfl,Nat.div_le_of_le_mul (by rw[Nat.mul_comm 4];exact Nat.mul_le_mul_left n hk)⟩
theorem BearsL.app {H:Hp}:∀{ds es:List D} {vs ws:List V},BearsL H ds vs->BearsL H es ws->BearsL H (ds++es) (vs++ws)
 | _,_,_,_,.nil,h=>h
 | _,_,_,_,.cons h t,k=> .cons h (BearsL.app t k)
def q_s (K:PySem.W.Frag):TS:=λD σ H=>∃(a Da lF lr t1 t2 st Dd tq kd1 mk:Addr) (mas1 FA RA:List Addr) (ns:List Int) (room:Int) (c:Nat) (v11:Option V) (FD RD:List Deed) (S7:Sto) (A7:List TO.D) (vs24:List V),
 σ= [some (.ref a),some (.int room),some (.ref Da),some (.int (c:Int)),some (.ref lF),some (.ref lr),some (.ref t1),some (.ref t2),some (.ref st),some (.ref Dd),some (.ref tq),v11,none,none,none]/\SqL K H a (ns.map V.int)/\ns.length<=63/\
 StoAt H st kd1 mk mas1 room S7/\S7.inML (atF ns 3)/\S7.nums/\(⟨[], []⟩:Sto).run room FD=(S7,A7)/\(∀s:Sto,(s.run room RD).1=s)/\(∀d∈FD,d.form/\d.tell (atF ns 3))/\(∀d∈RD,d.form/\d.tell (atF ns 3))/\FD.length=c/\c<=60/\FD.length+RD.length<=130/\
 (∃Ho:Hp,Ho=i_A (st::mk::kd1::mas1) H/\Ho lF=some (.lst (FA.map V.ref))/\Ho lr=some (.lst (RA.map V.ref))/\Paired (DeedAt Ho) FA FD/\Paired (DeedAt Ho) RA RD/\Ho Dd=some (.lst vs24)/\BearsL Ho A7 vs24)/\∀H',D.rt (.bl true) H'
section
variable {P:Program} {w:World} {K:PySem.W.Frag} {mg:Str->Option Value} {base:Heap}
theorem c_z:a_s ["_law_script","_law_room","_law_deeds","_law_cut","_law_first","_law_rest","_law_one","_law_two","_law_store","_law_due","_law_rows","_law_pair","_law_asked","_law_before","_law_behind"] ["_law_script"] (a_n q_G):=⟨rfl,rfl,rfl,by decide+kernel,rfl,by decide+kernel,by decide+kernel⟩
theorem p_b {f fAt fRo fBr fDe fMv fCp fAw fBo fSa fNs fAn fRb fWb fAr fQs:Addr} {fd fdAt fdRo fdBr fdDe fdMv fdCp fdAw fdBo fdSa fdNs fdAn fdRb fdWb fdAr fdQs:FuncData} (F:Fun K "law" "law" q_G f fd) (B:Bt mg)
 (gAt:Gf K mg "_law_at" fAt fdAt ["_law_script","_law_k"]) (GAt:FnOk P w K mg base CX0 1 fAt fdAt ["_law_script","_law_k"] (o_e K)) (gRo:Gf K mg "_law_room_of" fRo fdRo ["_law_cell"]) (GRo:FnOk P w K mg base CX0 1 fRo fdRo ["_law_cell"] h_G)
 (gBr:Gf K mg "_law_brings_of" fBr fdBr ["_law_script"]) (GBr:FnOk P w K mg base CX0 3 fBr fdBr ["_law_script"] (f_a K)) (gDe:Gf K mg "_law_deeds_of" fDe fdDe ["_law_cells"]) (GDe:FnOk P w K mg base CX0 4 fDe fdDe ["_law_cells"] (g_y K))
 (gMv:Gf K mg "_law_moved" fMv fdMv ["_law_deed","_law_seed"]) (GMv:FnOk P w K mg base CX0 6 fMv fdMv ["_law_deed","_law_seed"] r_j) (gCp:Gf K mg "_law_copied" fCp fdCp ["_law_deeds"]) (GCp:FnOk P w K mg base CX0 1 fCp fdCp ["_law_deeds"] h_T)
 (gAw:Gf K mg "answers" fAw fdAw ["room","deeds"]) (GAw:FnOk P w K mg base CX0 13 fAw fdAw ["room","deeds"] f_Y) (gBo:Gf K mg "both_orders" fBo fdBo ["room","deeds"]) (GBo:FnOk P w K mg base CX0 13 fBo fdBo ["room","deeds"] i_0)
 (gSa:Gf K mg "_law_same" fSa fdSa ["_law_found","_law_due"]) (GSa:FnOk P w K mg base CX0 2 fSa fdSa ["_law_found","_law_due"] m_m)
 (gNs:Gf K mg "_law_new_store" fNs fdNs ["_law_room"]) (GNs:FnOk P w K mg base CX0 1 fNs fdNs ["_law_room"] e_5) (gAn:Gf K mg "_law_answered" fAn fdAn ["_law_store","_law_deed"]) (GAn:FnOk P w K mg base CX0 3 fAn fdAn ["_law_store","_law_deed"] f_d)
 (gRb:Gf K mg "_law_rows_by" fRb fdRb ["_law_store","_law_word"]) (GRb:FnOk P w K mg base CX0 1 fRb fdRb ["_law_store","_law_word"] f_z) (gWb:Gf K mg "_law_within_begun" fWb fdWb ["_law_deeds"]) (GWb:FnOk P w K mg base CX0 1 fWb fdWb ["_law_deeds"] r_k)
 (gAr:Gf K mg "_law_are_rows" fAr fdAr ["_law_found"]) (GAr:FnOk P w K mg base CX0 3 fAr fdAr ["_law_found"] g_M) (gQs:Gf K mg "_law_questions" fQs fdQs []) (GQs:FnOk P w K mg base CX0 2 fQs fdQs [] r_d):FnOk P w K mg base CX0 14 f fd ["_law_script"] (l_V K):=by
 refine F.ok c_z (λvs H Q E h=> ?_) (λcdv A outer s H vs Q E hr h=> ?_)
 ·obtain⟨a,ns,rfl,_⟩:=h
  rfl
 ·obtain⟨a,ns,rfl,ha,hl,fin⟩:=h
  have hu:=hr.units0;have O:ns.length<=1000:=s_i hl (by decide);have hr13:Room 13 _:=hr;have C:Room 1 _:=hr.mono (by decide);have hr2:Room 2 _:=hr.mono (by decide);have hr3:Room 3 _:=hr.mono (by decide);have hr4:Room 4 _:=hr.mono (by decide);have hr6:Room 6 _:=hr.mono (by decide)
  refine⟨_,(a_c (a_w (i:=1) c_z.nd rfl (Or.inl rfl) (a_k GRo C rfl gRo.mg gRo.kp gRo.b .nil a_u (a_a (a_k GAt C rfl gAt.mg gAt.kp gAt.b .nil a_u (a_a (pv 0) (a_a a_g a_d))) a_d)))
   (a_c (a_w (i:=2) c_z.nd rfl (Or.inl rfl) (a_v c_T (a_k GBr hr3 rfl gBr.mg gBr.kp gBr.b .nil a_u (a_a (pv 0) a_d)) (a_k GDe hr4 rfl gDe.mg gDe.kp gDe.b .nil a_u (a_a (b_p (b_K K) (pv 0) (b_F a_g) b_6) a_d))))
   (a_c (c_k (k:=2) (x:="_law_deed") (fns:= ["_law_script"]) (js:= [0]) rfl ⟨rfl,by decide+kernel,by decide+kernel,rfl,by decide+kernel,by decide+kernel,rfl,by simp[Env.kindOf];exact rfl,rfl,by decide+kernel⟩ (a_T K (pv 2)) (λ_ _ _ _=>b_J) (λ_ _ _ _=>(a_k GMv hr6 rfl gMv.mg gMv.kp gMv.b .nil a_u (a_a (pv 0) (a_a (a_k GAt C rfl gAt.mg gAt.kp gAt.b .nil a_u (a_a (pv 1) (a_a a_g a_d))) a_d)))) c_z.nd rfl (Or.inl rfl))
   (a_c (a_w (i:=3) c_z.nd rfl (Or.inl rfl) (a_v a_3 (a_v b_H (a_t (a_B K) (by rfl) B.len s_G (a_a (pv 2) a_d)) (a_v a_S (a_k GAt C rfl gAt.mg gAt.kp gAt.b .nil a_u (a_a (pv 0) (a_a a_g a_d))) a_g)) a_g))
   (a_c (a_w (i:=4) c_z.nd rfl (Or.inl rfl) (b_p (b_K K) (pv 2) b_6 (b_F (pv 3))))
   (a_c (a_w (i:=5) c_z.nd rfl (Or.inl rfl) (a_v c_T (a_v c_T (a_P (a_a (a_H (a_a a_l a_d)) a_d)) (a_k GWb C rfl gWb.mg gWb.kp gWb.b .nil a_u (a_a (b_p (b_K K) (pv 2) (b_F (pv 3)) b_6) a_d))) (a_P (a_a (a_H (a_a a_l a_d)) a_d))))
   (a_c (a_w (i:=6) c_z.nd rfl (Or.inl rfl) (a_k GBo hr13 rfl gBo.mg gBo.kp gBo.b .nil a_u (a_a (pv 1) (a_a (a_k GCp C rfl gCp.mg gCp.kp gCp.b .nil a_u (a_a (pv 4) a_d)) a_d))))
   (a_c (a_w (i:=7) c_z.nd rfl (Or.inl rfl) (a_k GBo hr13 rfl gBo.mg gBo.kp gBo.b .nil a_u (a_a (pv 1) (a_a (a_k GCp C rfl gCp.mg gCp.kp gCp.b .nil a_u (a_a (a_v c_T (pv 4) (pv 5)) a_d)) a_d))))
   (a_c (a_w (i:=8) c_z.nd rfl (Or.inr rfl) (a_k GNs C rfl gNs.mg gNs.kp gNs.b .nil a_u (a_a (pv 1) a_d)))
   (a_c (c_k (k:=9) (x:="_law_deed") (fns:= ["_law_store"]) (js:= [8]) rfl ⟨rfl,by decide+kernel,by decide+kernel,rfl,by decide+kernel,by decide+kernel,rfl,by simp[Env.kindOf];exact rfl,rfl,by decide+kernel⟩ (a_T K (pv 4)) (λ_ _ _ _=>b_J) (λ_ _ _ _=>(a_k GAn hr3 rfl gAn.mg gAn.kp gAn.b .nil a_u (a_a (pv 1) (a_a (pv 0) a_d)))) c_z.nd rfl (Or.inl rfl))
   (a_c (a_w (i:=10) c_z.nd rfl (Or.inl rfl) (a_H (a_a (a_k GRb C rfl gRb.mg gRb.kp gRb.b .nil a_u (a_a (pv 8) (a_a a_l a_d))) (a_a (a_k GRb C rfl gRb.mg gRb.kp gRb.b .nil a_u (a_a (pv 8) (a_a a_l a_d))) a_d))))
   (a_c (b_Z PassesOwn.never rfl (a_T K (a_P (a_a (pv 6) (a_a (pv 7) a_d)))) (b_b (i:=11) c_z.nd rfl (Or.inl rfl))
   (a_c (a_C (PW.pt (c_D (b_1 (b_s (a_t (a_1 K) (by rfl) B.isi c_V (a_a (pv 11) (a_a (b_G B.tuple e_P) a_d))))) (b_I (a_m d_m (a_t (a_B K) (by rfl) B.len s_G (a_a (pv 11) a_d)) a_g (a_q _))))) (a_f (a_o d_o)) a_p)
   (a_f (a_C (PW.pt (c_D (b_1 (b_s (a_k GAr hr3 rfl gAr.mg gAr.kp gAr.b .nil a_u (a_a (a_r (a_j K) (pv 11) a_g (λ_ _=>rfl)) a_d)))) (b_I (b_1 (b_s (a_k GAr hr3 rfl gAr.mg gAr.kp gAr.b .nil a_u (a_a (a_r (a_j K) (pv 11) a_g (λ_ _=>rfl)) a_d))))))) (a_f (a_o d_o)) a_p))))
   (a_c (a_C (PW.pt (c_D (b_1 (b_s (a_k GSa hr2 rfl gSa.mg gSa.kp gSa.b .nil a_u (a_a (pv 6) (a_a (pv 10) a_d))))) (b_I (b_1 (b_s (a_k GSa hr2 rfl gSa.mg gSa.kp gSa.b .nil a_u (a_a (pv 7) (a_a (pv 10) a_d)))))))) (a_f (a_o d_o)) a_p)
   (l_A (t':=q_s K) (a_c (c_k (k:=12) (x:="_law_deed") (fns:= ["_law_script"]) (js:= [0]) rfl ⟨rfl,by decide+kernel,by decide+kernel,rfl,by decide+kernel,by decide+kernel,rfl,by simp[Env.kindOf];exact rfl,rfl,by decide+kernel⟩ (a_T K (d_d GQs hr2 rfl gQs.mg gQs.kp gQs.b .nil a_u)) (λ_ _ _ _=>b_J) (λ_ _ _ _=>(a_k GMv hr6 rfl gMv.mg gMv.kp gMv.b .nil a_u (a_a (pv 0) (a_a (a_k GAt C rfl gAt.mg gAt.kp gAt.b .nil a_u (a_a (pv 1) (a_a a_g a_d))) a_d)))) c_z.nd rfl (Or.inl rfl))
   (a_c (a_w (i:=9) c_z.nd rfl (Or.inl rfl) (a_v c_T (pv 9) (c_G (x:="_law_deed") (fns:= ["_law_store"]) (js:= [8]) rfl ⟨rfl,by decide+kernel,by decide+kernel,rfl,by decide+kernel,by decide+kernel,rfl,by simp[Env.kindOf];exact rfl,rfl,by decide+kernel⟩ (a_T K (pv 12)) (λ_ _ _ _=>b_J) (λ_ _ _ _=>(a_k GAn hr3 rfl gAn.mg gAn.kp gAn.b .nil a_u (a_a (pv 1) (a_a (pv 0) a_d)))))))
   (a_c (a_w (i:=13) c_z.nd rfl (Or.inl rfl) (a_k GAw hr13 rfl gAw.mg gAw.kp gAw.b .nil a_u (a_a (pv 1) (a_a (a_k GCp C rfl gCp.mg gCp.kp gCp.b .nil a_u (a_a (a_v c_T (pv 4) (pv 12)) a_d)) a_d))))
   (a_c (a_w (i:=14) c_z.nd rfl (Or.inl rfl) (a_k GAw hr13 rfl gAw.mg gAw.kp gAw.b .nil a_u (a_a (pv 1) (a_a (a_k GCp C rfl gCp.mg gCp.kp gCp.b .nil a_u (a_a (a_v c_T (a_v c_T (pv 4) (pv 5)) (pv 12)) a_d)) a_d))))
   (a_c (a_C (PW.pt (c_D (b_1 (b_s (a_t (a_1 K) (by rfl) B.isi c_V (a_a (pv 13) (a_a (b_G B.list e_N) a_d))))) (b_I (b_1 (b_s (a_t (a_1 K) (by rfl) B.isi c_V (a_a (pv 14) (a_a (b_G B.list e_N) a_d)))))))) (a_f (a_o d_o)) a_p)
   (a_c (a_C (PW.pt (c_D (b_1 (b_s (a_k GSa hr2 rfl gSa.mg gSa.kp gSa.b .nil a_u (a_a (pv 13) (a_a (pv 9) a_d))))) (b_I (a_m d_m (a_t (a_B K) (by rfl) B.len s_G (a_a (pv 14) a_d)) (a_v a_V (a_t (a_B K) (by rfl) B.len s_G (a_a (pv 9) a_d)) (a_t (a_B K) (by rfl) B.len s_G (a_a (pv 5) a_d))) (a_q _))))) (a_f (a_o d_o)) a_p)
   (a_f (a_o (a_k GSa hr2 rfl gSa.mg gSa.kp gSa.b .nil a_u (a_a (b_p (b_K K) (pv 14) (b_F (a_v a_V (pv 3) (a_t (a_B K) (by rfl) B.len s_G (a_a (pv 5) a_d)))) b_6) (a_a (b_p (b_K K) (pv 9) (b_F (pv 3)) b_6) a_d))))))))))) (by
     rintro DD σ H30 ⟨a,Da,lF,lr,Z,Y,st,Dd,tq,J,mk,G,FA,RA,ns,room,c,v11,FD,RD,I,A7,L,rfl,ha,hl,S30,mlF,nmF,hS,ad,m,a8,hFl,hc60,hRl,⟨Ho0,hHo,elF,elr,PF,PRr,dd30,B30⟩,fin⟩;have O:ns.length<=1000:=s_i hl (by decide);have tlF:∀e∈FD,e.tell (atF ns 3):=λe he=>(m e he).2;have ms0:(⟨[], []⟩:Sto).inML (atF ns 3):=⟨by simp,by simp⟩;have ns0:(⟨[], []⟩:Sto).nums:=⟨by simp[c_b],by simp⟩;have a9:=f_w room FD ⟨[], []⟩;have W:=d_f (room:=room) (ds:=FD) (s:=⟨[], []⟩);have ac:=j_Z (room:=room) tlF ms0 ns0;have z:=λes=>c_4 room FD es ⟨[], []⟩;have aa:((⟨[], []⟩:Sto).run room (FD++RD)).1=I:=by rw[c_4,hS];exact ad I
     rw[hS] at a9 W ac;simp only[hS] at z;dsimp only at a9 W ac z;have a7:=c_J nmF.kept mlF.kept;have hvl24:=B30.len;have hFa:=Paired.length PF;have hRa:=Paired.length PRr;have lenFR:∀n:Nat,n<=999->n<=sizeLine:=λn h=>Nat.le_of_lt (a_F (Nat.le_succ_of_le h))
     have both:∀{x y:List Deed},(∀d∈x,d.form/\d.tell (atF ns 3))->(∀d∈y,d.form/\d.tell (atF ns 3))->∀d∈x++y,d.form/\d.tell (atF ns 3):=λhx hy d g=>by
      rcases s_f.mp g with q | q
      ·exact hx d q
      ·exact hy d q
     have a4:=both m a8
     -- asked
     refine⟨rfl,λlq qs H31 hlq s31 hLq hOq hAq=> ?_⟩;obtain⟨aq,eqq,Pq⟩:=hLq;have ho56:=hOq.1;refine⟨lq,rfl,⟨_,SqL.of eqq⟩,λDb hDb=>e_3 (atF ns 3) eqq (f_P Pq) hOq.2 hDb (by omega) (λ_ _ _ q=>q) ?_ ?_⟩
     ·intro b d Hx' Qx sx' g hf hs k
      refine⟨_,rfl,_,rfl,a,ns,3,rfl,(s31.trans sx').seq ha,O,by decide,by decide,λHy' sy'=> ?_⟩;exact⟨b,d,_,rfl,DeedAt.same sy' g,hf,hs,λb' d' Hz sz h1 h2 h3 h4 h5=>k b' d' Hz (sy'.trans sz) h1 h2 h3 (λl' q=>sy'.free (h4 l' q)) h5⟩
     intro H32 ab R s32 eb Pb hqb hftb hask;have hqa:=hask hAq;have hab:=Paired.length Pb;have s3032:=s31.trans s32;have S32:=S30.same s3032;have tk32:=l_7 λb hb=>(S32.fpin b hb).2
     have hDbf:Db∉st::mk::J::G:=λhc=>by
      obtain⟨⟨u,q⟩,_⟩:=(S30.same s31).fpin _ hc;rw[hDb] at q;cases q
     have Pbo:=k_I tk32 hqa Pb;have ebo:i_A (st::mk::J::G) H32 Db=some (.lst (ab.map V.ref)):=by rw[e_h hDbf];exact eb
     have a5:=h_3 (f:=st::mk::J::G) s3032;rw[<-hHo] at a5;have hfree:∀b∈st::mk::J::G,i_A (st::mk::J::G) H32 b=none:=λb hb=>f_D hb;have osm:Same (i_A (st::mk::J::G) H32) H32:=l_o;generalize i_A (st::mk::J::G) H32=Ho at Pbo ebo a5 hfree osm;have dd32:=a5 _ _ dd30;have B32:=BearsL.same a5 B30;have hmS:I.marks.length<=60:=by have:I.marks.length<=0+FD.length:=W;omega
     refine⟨_,rfl,_,rfl,Db,rfl,⟨_,SqL.of eb⟩,λDc hDc=>l_i (sd:=atF ns 3) ebo Pbo hftb osm hDc (by omega) S32 hfree mlF nmF (λ_ _ _ q=>q) ?_ ?_⟩
     ·intro b d Hx Qx kd' mas' so S g hf ht hm hn hk fin'
      exact⟨_,rfl,_,rfl,st,kd',mk,b,mas',room,_,so,d,rfl,S,g,hf,ht,hm,hn,hk,s_i (f_u hf) (by decide),fin'⟩
     intro H33 U kd2 mas2 s33 e33 B33 S33 fp33;rw[d_Y hqa] at B33;have hvl33:=B33.len;dsimp only at B33 hvl33;rw[r_X] at hvl33;refine⟨Dd,Dc,_,_,rfl,rfl,s33 _ _ dd32,e33,lenFR _ (by omega),λlz hlz=> ?_⟩;have s34:=Same.upd_new (o:= .lst (L++U)) hlz;have ez:(upd H33 lz (.lst (L++U))) lz=some (.lst (L++U)):=a_b;generalize upd H33 lz (.lst (L++U))=H34 at s34 ez ⊢;have a6:=s33.trans s34;have Bz:=BearsL.app (BearsL.same a6 B32) (BearsL.same s34 B33);have s2234:=a5.trans a6;have a0:=s2234
     -- before
     refine⟨_,rfl,_,rfl,_,rfl,lF,Db,_,_,rfl,rfl,a0 _ _ elF,a6 _ _ ebo,by rw[r_X,r_X];exact lenFR _ (by omega),λlu hlu=> ?_⟩;have s35':=Same.upd_new (o:= .lst (FA.map V.ref++ab.map V.ref)) hlu;have eu:(upd H34 lu (.lst (FA.map V.ref++ab.map V.ref))) lu=some (.lst ((FA++ab).map V.ref)):=by rw[a_b,r_5]
     generalize upd H34 lu (.lst (FA.map V.ref++ab.map V.ref))=H35 at s35' eu ⊢;have PU:Paired (DeedAt H35) (FA++ab) (FD++R):=a_D (a_K (a0.trans s35') PF) (a_K (a6.trans s35') Pbo);have hftU:=both m hftb;have htU:=f_W (λd g=>(hftU d g).1);rw[r_Z] at htU;refine⟨lu,FD++R,rfl,⟨_,eu,PU⟩,by rw[r_Z];omega,λm3 H36 hm3 s36 hLm3=> ?_⟩;obtain⟨am3,em3,Pm3⟩:=hLm3;refine⟨room,atF ns 3,m3,_,FD++R,rfl,em3,f_P Pm3,hftU,by omega,by rw[r_Z];omega,λlbe vsb H37 _ s37 ebe Bbe=> ?_⟩;rw[z,d_Y hqa] at Bbe;have s3437:=(s35'.trans s36).trans s37;have s1737:=a0.trans s3437
     -- behind
     refine⟨_,rfl,_,rfl,_,rfl,lF,lr,_,_,rfl,rfl,s1737 _ _ elF,s1737 _ _ elr,by rw[r_X,r_X];exact lenFR _ (by omega),λlg hlg=> ?_⟩;have s38:=Same.upd_new (o:= .lst (FA.map V.ref++RA.map V.ref)) hlg;have eg:(upd H37 lg (.lst (FA.map V.ref++RA.map V.ref))) lg=some (.lst ((FA++RA).map V.ref)):=by rw[a_b,r_5]
     generalize upd H37 lg (.lst (FA.map V.ref++RA.map V.ref))=H38 at s38 eg ⊢;have so38:=(a6.trans s3437).trans s38;refine⟨_,rfl,lg,Db,_,_,rfl,rfl,eg,so38 _ _ ebo,by rw[r_X,r_X,r_Z];exact lenFR _ (by omega),λlh hlh=> ?_⟩;have s39:=Same.upd_new (o:= .lst ((FA++RA).map V.ref++ab.map V.ref)) hlh;have eh:(upd H38 lh (.lst ((FA++RA).map V.ref++ab.map V.ref))) lh=some (.lst (((FA++RA)++ab).map V.ref)):=by rw[a_b,r_5 (l₂:=ab)]
     generalize upd H38 lh (.lst ((FA++RA).map V.ref++ab.map V.ref))=H39 at s39 eh ⊢;have s1739:=(s1737.trans s38).trans s39;have PV:Paired (DeedAt H39) ((FA++RA)++ab) ((FD++RD)++R):=a_D (a_D (a_K s1739 PF) (a_K s1739 PRr)) (a_K (so38.trans s39) Pbo);have hftV:=both a4 hftb;have htV:=f_W (λd g=>(hftV d g).1);rw[r_Z,r_Z] at htV;refine⟨lh,(FD++RD)++R,rfl,⟨_,eh,PV⟩,by rw[r_Z,r_Z];omega,λm4 H40 hm4 s40 hLm4=> ?_⟩;obtain⟨am4,em4,Pm4⟩:=hLm4;refine⟨room,atF ns 3,m4,_,(FD++RD)++R,rfl,em4,f_P Pm4,hftV,by omega,by rw[r_Z,r_Z];omega,λlv vsv H41 _ s41 ev Bv=> ?_⟩;rw[c_4 room (FD++RD),aa,d_Y hqa] at Bv;have hFRl:=f_w room (FD++RD) ⟨[], []⟩;rw[r_Z] at hFRl;generalize ((⟨[], []⟩:Sto).run room (FD++RD)).2=AFR at Bv hFRl;dsimp only at Bv Bbe;have hvlv:=Bv.len;rw[r_Z,r_X] at hvlv;have a3:=((s38.trans s39).trans s40).trans s41;have a1:=s3437.trans a3;have s1741:=a0.trans a1
     -- the checks
     refine⟨_,rfl,_,_,_,_,rfl,.lst (a3 _ _ ebe),rfl,_,rfl,?_⟩;refine⟨_,rfl,_,_,_,_,rfl,.lst ev,rfl,_,rfl,?_⟩
     have hwq:=m_y (k:=300) (l:=R.map (b_U I.kept)) λx hx=>by
      obtain⟨d,g,rfl⟩:=s_s.mp hx;exact m_o a7
     rw[r_X] at hwq
     have hwapp:∀(x y:List D),D.wts (x++y)=D.wts x+D.wts y:=λx y=>by
      induction x with
      | nil=>simp[D.wts]
      | cons d r ih=>simp only[List.cons_append,D.wts,ih];omega
     refine⟨_,rfl,_,rfl,.lst (A7++R.map (b_U I.kept)),.ref lbe,.ref lz,rfl,.lst (a3 _ _ ebe) (BearsL.same a3 Bbe),.lst (a1 _ _ ez) (BearsL.same a1 Bz),?_, λH42 s42=>⟨_,rfl,?_⟩⟩
     ·show 1+D.wts _ < 100000
      rw[hwapp];omega
     have s3442:=a1.trans s42;have elr42:=(s1741.trans s42) _ _ elr;refine⟨_,rfl,lv,_,rfl,.inl (SqL.of (s42 _ _ ev)),_,rfl,lz,_,rfl,.inl (SqL.of (s3442 _ _ ez)),_,rfl,lr,_,rfl,.inl (SqL.of elr42),_,_,rfl,rfl,rfl,_,rfl,a_x (λq=>absurd q ?_) (λ_=> ?_)⟩
     ·have hz:((vsv.length:Nat):Int)=(((L++U).length:Nat):Int)+(((RA.map V.ref).length:Nat):Int):=by rw[r_Z,r_X];omega
      rw[hz];simp
     have ecut:(c:Int)+(((RA.map V.ref).length:Nat):Int)=((c+RD.length:Nat):Int):=by rw[r_X];omega
     refine⟨_,rfl,_,rfl,_,rfl,lr,_,rfl,.inl (SqL.of elr42),_,_,rfl,rfl,_,rfl,lv,_,rfl,SqL.of (s42 _ _ ev),λq1' hq1'=> ?_⟩;rw[ecut,c_E (by omega)];have s43:=Same.upd_new (o:= .lst (vsv.drop (c+RD.length))) hq1';have e43:(upd H42 q1' (.lst (vsv.drop (c+RD.length)))) q1'=some (.lst (vsv.drop (c+RD.length))):=a_b;generalize upd H42 q1' (.lst (vsv.drop (c+RD.length)))=H43 at s43 e43 ⊢;refine⟨_,rfl,_,rfl,_,rfl,lz,_,rfl,SqL.of ((s3442.trans s43) _ _ ez),λq2' hq2'=> ?_⟩;rw[c_E (by rw[r_Z];omega)];have s44:=Same.upd_new (o:= .lst ((L++U).drop c)) hq2';have D1:=BearsL.drop (c+RD.length) Bv;rw[List.drop_left' (by omega)] at D1;have D2:=BearsL.drop c Bz;rw[List.drop_left' (by omega)] at D2;refine⟨.lst (R.map (b_U I.kept)),.ref q1',.ref q2',rfl,.lst (s44 _ _ e43) (BearsL.same ((s42.trans s43).trans s44) D1),.lst a_b (BearsL.same ((s3442.trans s43).trans s44) D2),?_, λH45 _=>fin H45⟩;show 1+D.wts _ < 100000;omega))))))))))))))),?_⟩
  refine⟨_,rfl,a,ns,0,rfl,ha,O,by decide,by decide,λH1 s1=>⟨_,rfl,λroom H2 s2=> ?_⟩⟩;have s12:=s1.trans s2;refine⟨_,rfl,a,ns,rfl,s12.seq ha,O,λl1 ds1 H3 hl1 s3 hL1 hO1=> ?_⟩;have s13:=s12.trans s3;refine⟨_,rfl,_,rfl,a,_,rfl,s13.seq ha,λp hp=> ?_⟩;obtain⟨ns',ec,hn'⟩:=l_1 ns (some 4) none;have s4:=Same.upd_new (o:= .lst (g_Q (ns.map V.int) (some 4) none)) hp;refine⟨p,ns',rfl,by rw[<-ec];exact SqL.of a_b,s_i hn' hl,λl2 ds2 H5 hl2 s5 hL2 hO2=> ?_⟩;have s35:=s4.trans s5;have s15:=s13.trans s35;obtain⟨as1,e1,P1⟩:=hL1;obtain⟨as2,e2,P2⟩:=hL2;have hn1:=Paired.length P1;have hn2:=Paired.length P2;have ho1:=hO1.1;have ho2:=hO2.1;refine⟨l1,l2,_,_,rfl,rfl,s35 _ _ e1,e2,by rw[r_X,r_X];exact Nat.le_of_lt (a_F (by omega)),λl3 hl3=> ?_⟩;have s6:=Same.upd_new (o:= .lst (as1.map V.ref++as2.map V.ref)) hl3;have e3:(upd H5 l3 (.lst (as1.map V.ref++as2.map V.ref))) l3=some (.lst ((as1++as2).map V.ref)):=by rw[a_b,r_5]
  generalize upd H5 l3 (.lst (as1.map V.ref++as2.map V.ref))=H6 at s6 e3 ⊢;have s16:=s15.trans s6;have P3:Paired (DeedAt H6) (as1++as2) (ds1++ds2):=a_D (a_K (s35.trans s6) (f_P P1)) (a_K s6 (f_P P2))
  have fs3:∀d∈ds1++ds2,d.form/\d.short:=λd g=>by
   rcases s_f.mp g with q | q
   ·exact hO1.2 d q
   ·exact hO2.2 d q
  refine⟨_,rfl,l3,rfl,⟨_,SqL.of e3⟩,λDa hDa=>e_3 (atF ns 3) e3 P3 fs3 hDa (by rw[r_Z];omega) (λ_ _ _ q=>q) ?_ ?_⟩
  ·intro b d Hx' Qx sx' g hf hs k
   refine⟨_,rfl,_,rfl,a,ns,3,rfl,(s16.trans sx').seq ha,O,by decide,by decide,λHy' sy'=> ?_⟩;exact⟨b,d,_,rfl,DeedAt.same sy' g,hf,hs,λb' d' Hz sz h1 h2 h3 h4 h5=>k b' d' Hz (sy'.trans sz) h1 h2 h3 (λl' q=>sy'.free (h4 l' q)) h5⟩
  intro H7 asD ds s7 e7 P7 hdl hft _;rw[r_Z] at hdl;have s17:=s16.trans s7;have hnD:=Paired.length P7;have hn56:ds.length<=60:=by omega
  -- the cut
  refine⟨_,rfl,Da,_,rfl,.inl (SqL.of e7),_,rfl,a,ns,3,rfl,s17.seq ha,O,by decide,by decide,λH8 s8=> ?_⟩
  obtain⟨c,hc,hcn⟩:∃c:Nat,(((asD.map V.ref).length:Nat):Int) * (atF ns 3 % 5) / 4=(c:Int)/\c<=ds.length:=by
   rw[r_X,hnD];exact o_f _ (Int.emod_nonneg _ (by decide)) (Int.le_of_lt_add_one (Int.emod_lt_of_pos _ (by decide)))
  refine⟨_,_,rfl,rfl,(show (0:Int) < 5 by decide),_,_,rfl,rfl,.inr ⟨by omega,by omega⟩,_,_,rfl,rfl,⟨by decide,by decide⟩,?_⟩;dsimp only;rw[hc];have hcl:c<=(asD.map V.ref).length:=by rw[r_X];omega
  have e8:=s8 _ _ e7
  -- first
  refine⟨_,rfl,_,rfl,_,rfl,Da,_,rfl,SqL.of e8,λlF hlF=> ?_⟩;rw[i_H hcl,<-List.map_take];have s9:=Same.upd_new (o:= .lst ((asD.take c).map V.ref)) hlF;have eF:(upd H8 lF (.lst ((asD.take c).map V.ref))) lF=some (.lst ((asD.take c).map V.ref)):=a_b;generalize upd H8 lF (.lst ((asD.take c).map V.ref))=H9 at s9 eF ⊢;have s79:=s8.trans s9
  -- e_r
  refine⟨by show 1<=sizeLine;decide,λtb htb=>⟨by show 1<=sizeLine;decide,λlb hlb=> ?_⟩⟩;have s10:=Same.upd_new (o:= .tup [V.str "begin"]) htb;have etb:(upd H9 tb (.tup [V.str "begin"])) tb=some (.tup [V.str "begin"]):=a_b;generalize upd H9 tb (.tup [V.str "begin"])=H10 at s10 etb hlb ⊢;have s11:=Same.upd_new (o:= .lst [V.ref tb]) hlb;have elb:(upd H10 lb (.lst [V.ref tb])) lb=some (.lst [V.ref tb]):=a_b;generalize upd H10 lb (.lst [V.ref tb])=H11 at s11 elb ⊢;have s911:=s10.trans s11;have s711:=s79.trans s911;refine⟨_,rfl,_,rfl,_,rfl,Da,_,rfl,SqL.of (s711 _ _ e7),λlR hlR=> ?_⟩;rw[c_E hcl,<-List.map_drop];have s12':=Same.upd_new (o:= .lst ((asD.drop c).map V.ref)) hlR;have eR:(upd H11 lR (.lst ((asD.drop c).map V.ref))) lR=some (.lst ((asD.drop c).map V.ref)):=a_b;generalize upd H11 lR (.lst ((asD.drop c).map V.ref))=H12 at s12' eR ⊢;have s712:=s711.trans s12';have PR:Paired (DeedAt H12) (asD.drop c) (ds.drop c):=e_o c (a_K s712 P7);refine⟨lR,_,_,rfl,eR,PR,by rw[List.length_drop];omega,λlw bw H13 hlw s13' elw Pw=> ?_⟩;have hwl:=e_Z (ds.drop c) 0;rw[List.length_drop] at hwl;have hbw:=Paired.length Pw;rw[r_Z,List.length_replicate] at hbw;have s1113:=s12'.trans s13';refine⟨lb,lw,_,_,rfl,rfl,s1113 _ _ elb,elw,by rw[r_X];exact Nat.le_of_lt (a_F (by simp;omega)),λlx hlx=> ?_⟩;have s14:=Same.upd_new (o:= .lst ([V.ref tb]++bw.map V.ref)) hlx;have elx:(upd H13 lx (.lst ([V.ref tb]++bw.map V.ref))) lx=some (.lst ((tb::bw).map V.ref)):=a_b;generalize upd H13 lx (.lst ([V.ref tb]++bw.map V.ref))=H14 at s14 elx ⊢;refine⟨by show 1<=sizeLine;decide,λtk htk=>⟨by show 1<=sizeLine;decide,λlk O=> ?_⟩⟩;have s15':=Same.upd_new (o:= .tup [V.str "break"]) htk;have etk:(upd H14 tk (.tup [V.str "break"])) tk=some (.tup [V.str "break"]):=a_b;generalize upd H14 tk (.tup [V.str "break"])=H15 at s15' etk O ⊢;have s16':=Same.upd_new (o:= .lst [V.ref tk]) O;have elk:(upd H15 lk (.lst [V.ref tk])) lk=some (.lst [V.ref tk]):=a_b;generalize upd H15 lk (.lst [V.ref tk])=H16 at s16' elk ⊢;have s1416:=s15'.trans s16';refine⟨lx,lk,_,_,rfl,rfl,s1416 _ _ elx,elk,by rw[r_X];exact Nat.le_of_lt (a_F (by simp;omega)),λlr hlr=> ?_⟩;have s17':=Same.upd_new (o:= .lst ((tb::bw).map V.ref++ [V.ref tk])) hlr;have elr:(upd H16 lr (.lst ((tb::bw).map V.ref++ [V.ref tk]))) lr=some (.lst (((tb::bw)++ [tk]).map V.ref)):=by rw[a_b,r_5 (l₂:= [tk])];rfl
  generalize upd H16 lr (.lst ((tb::bw).map V.ref++ [V.ref tk]))=H17 at s17' elr ⊢;have s1417:=s1416.trans s17';have s1317:=s14.trans s1417;have s1017:=s11.trans (s1113.trans s1317);have s917:=s10.trans s1017;have s717:=s79.trans s917;have PF:Paired (DeedAt H17) (asD.take c) (ds.take c):=e_K c (a_K s717 P7);have PRr:Paired (DeedAt H17) ((tb::bw)++ [tk]) (f_v (ds.drop c)):=a_D (.cons (s1017 _ _ etb) (a_K s1317 Pw)) (.cons (s17' _ _ (s16' _ _ etk)) .nil);have m:∀d∈ds.take c,d.form/\d.tell (atF ns 3):=λd g=>hft d (List.mem_of_mem_take g);have a8:∀d∈f_v (ds.drop c),d.form/\d.tell (atF ns 3):=m_1 λd g=>hft d (List.mem_of_mem_drop g);have hFl:(ds.take c).length=c:=by rw[s_j];omega
  have hRl:=k_2 (ds.drop c);rw[List.length_drop] at hRl;have ad:=λs=>l_n room s (ds.drop c);generalize hFD:ds.take c=FD at PF m hFl;generalize hRD:f_v (ds.drop c)=RD at PRr a8 hRl ad;have elF:=s917 _ _ eF;have hFa:=Paired.length PF;have hRa:=Paired.length PRr;generalize hFA:asD.take c=FA at PF elF hFa;generalize hRA:(tb::bw)++ [tk]=RA at PRr elr hRa;have s017:=s17.trans s717;refine⟨_,rfl,_,rfl,lF,FD,rfl,⟨FA,elF,PF⟩,by omega,λm1 H18 hm1 s18 hLm1=> ?_⟩;obtain⟨am1,em1,Pm1⟩:=hLm1;have htF:=f_W (λd g=>(m d g).1);refine⟨room,atF ns 3,m1,_,FD,rfl,em1,f_P Pm1,m,by omega,by omega,λZ p1 p2 H19 _ _ _ s19 et1 L1 L2=> ?_⟩;have s1719:=s18.trans s19;have lenFR:∀n:Nat,n<=999->n<=sizeLine:=λn h=>Nat.le_of_lt (a_F (Nat.le_succ_of_le h));refine⟨_,rfl,_,rfl,_,rfl,lF,lr,_,_,rfl,rfl,s1719 _ _ elF,s1719 _ _ elr,by rw[r_X,r_X];exact lenFR _ (by omega),λlc hlc=> ?_⟩;have s20:=Same.upd_new (o:= .lst (FA.map V.ref++RA.map V.ref)) hlc;have ecc:(upd H19 lc (.lst (FA.map V.ref++RA.map V.ref))) lc=some (.lst ((FA++RA).map V.ref)):=by rw[a_b,r_5]
  generalize upd H19 lc (.lst (FA.map V.ref++RA.map V.ref))=H20 at s20 ecc ⊢;have s1720:=s1719.trans s20;have PFR:Paired (DeedAt H20) (FA++RA) (FD++RD):=a_D (a_K s1720 PF) (a_K s1720 PRr)
  have both:∀{x y:List Deed},(∀d∈x,d.form/\d.tell (atF ns 3))->(∀d∈y,d.form/\d.tell (atF ns 3))->∀d∈x++y,d.form/\d.tell (atF ns 3):=λhx hy d g=>by
   rcases s_f.mp g with q | q
   ·exact hx d q
   ·exact hy d q
  have a4:=both m a8;refine⟨lc,FD++RD,rfl,⟨_,ecc,PFR⟩,by rw[r_Z];omega,λm2 H21 hm2 s21 hLm2=> ?_⟩;obtain⟨am2,em2,Pm2⟩:=hLm2;have htFR:=f_W (λd g=>(a4 d g).1);rw[r_Z] at htFR;refine⟨room,atF ns 3,m2,_,FD++RD,rfl,em2,f_P Pm2,a4,by omega,by rw[r_Z];omega,λY p3 p4 H22 _ _ _ s22 et2 L3 L4=> ?_⟩;have aa:((⟨[], []⟩:Sto).run room (FD++RD)).1=((⟨[], []⟩:Sto).run room FD).1:=by rw[c_4];exact ad _
  rw[aa] at L3 L4;have a2:=(s1720.trans s21).trans s22
  -- the law's own store
  refine⟨_,rfl,room,rfl,λst kd mk H23 hst hkd hmk hnd s23 g1 g2 g3=> ?_⟩;have St:StoAt H23 st kd mk [] room ⟨[], []⟩:=⟨g1,⟨[],g2,.nil⟩,g3,.nil,by simp at hnd ⊢;grind⟩;have ms0:(⟨[], []⟩:Sto).inML (atF ns 3):=⟨by simp,by simp⟩;have ns0:(⟨[], []⟩:Sto).nums:=⟨by simp[c_b],by simp⟩;have P22:=a_K a2 PF;have e22:=a2 _ _ elF;refine⟨_,rfl,lF,rfl,⟨_,SqL.of (s23 _ _ e22)⟩,λDd hDd=>g_s (sd:=atF ns 3) e22 P22 m s23 hDd (by simp;omega) St (by simp[hst,hkd,hmk]) ms0 ns0 (λ_ _ _ q=>q) ?_ ?_⟩
  ·intro b d Hx Qx kd' mas' so S g hf ht hm hn hk fin'
   exact⟨_,rfl,_,rfl,st,kd',mk,b,mas',room,_,so,d,rfl,S,g,hf,ht,hm,hn,hk,s_i (f_u hf) (by decide),fin'⟩
  intro H24 L J G s24 e24 A24 X fp24 nD24;have tlF:∀e∈FD,e.tell (atF ns 3):=λe he=>(m e he).2;have mlF:=g_H (room:=room) tlF ms0;have nmF:=f_O (room:=room) (ds:=FD) ns0;have a9:=f_w room FD ⟨[], []⟩;have W:=d_f (room:=room) (ds:=FD) (s:=⟨[], []⟩);have ac:=j_Z (room:=room) tlF ms0 ns0;have hrapA:=c_4 room FD;have z:=λes=>hrapA es ⟨[], []⟩;clear hrapA;generalize hS:(⟨[], []⟩:Sto).run room FD=R7 at X A24 mlF nmF a9 W ac L1 L2 L3 L4 z aa;obtain⟨I,A7⟩:=R7;dsimp only at X A24 mlF nmF a9 W ac L1 L2 L3 L4 z aa;have a7:=c_J nmF.kept mlF.kept;have B24:=m_I (λb hb=>(X.fpin b hb).2) A24;have hvl24:=B24.len
  -- rows
  refine⟨_,rfl,st,J,mk,room,I.kept,false,rfl,X.sto,X.kept,nmF.kept,a7,λq1 H25 hq1 s25 hL1=> ?_⟩;refine⟨_,rfl,st,J,mk,room,I.kept,true,rfl,s25 _ _ X.sto,KeptAt.same X.kept s25,nmF.kept,a7,λq2 H26 hq2 s26 hL2=>⟨by show 2<=sizeLine;decide,λtq htq=> ?_⟩⟩;have s27:=Same.upd_new (o:= .tup [V.ref q1,V.ref q2]) htq;have s2427:=(s25.trans s26).trans s27;have bR:Bears (upd H26 tq (.tup [V.ref q1,V.ref q2])) (g_6 I.kept) (.ref tq):=d_A a_b (LstAt.sameS hL1 (s26.trans s27)) (LstAt.sameS hL2 s27);generalize upd H26 tq (.tup [V.ref q1,V.ref q2])=H27 at s27 s2427 bR ⊢;have s2227:=s24.trans s2427;have s1927:=((s20.trans s21).trans s22).trans s2227
  -- both pairs are two lists of rows
  refine⟨_,rfl,_,rfl,by show 2<=sizeLine;decide,λlp hlp=> ?_⟩;have s28:=Same.upd_new (o:= .lst [V.ref Z,V.ref Y]) hlp;have elp:(upd H27 lp (.lst [V.ref Z,V.ref Y])) lp=some (.lst [V.ref Z,V.ref Y]):=a_b;generalize upd H27 lp (.lst [V.ref Z,V.ref Y])=H28 at s28 elp ⊢;have M:=s1927.trans s28;have N:=s2227.trans s28
  have two:∀v∈ [V.ref Z,V.ref Y],∃t p q,v= .ref t/\H28 t=some (.tup [.ref p,.ref q])/\LstAt H28 p (a_W false I.kept)/\LstAt H28 q (a_W true I.kept):=by
   intro v hv;simp only[r_8,List.not_mem_nil,or_false] at hv;rcases hv with rfl | rfl
   ·exact⟨Z,p1,p2,rfl,M _ _ et1,LstAt.sameS L1 M,LstAt.sameS L2 M⟩
   ·exact⟨Y,p3,p4,rfl,N _ _ et2,LstAt.sameS L3 N,LstAt.sameS L4 N⟩
  refine⟨lp,rfl,⟨_,SqL.of elp⟩,b_X (K:=K) (a:=lp) (xs:= [V.ref Z,V.ref Y]) (λi σ Hx=>∃v11,σ= [some (.ref a),some (.int room),some (.ref Da),some (.int (c:Int)),some (.ref lF),some (.ref lr),some (.ref Z),some (.ref Y),some (.ref st),some (.ref Dd),some (.ref tq),v11,none,none,none]/\Hx=H28) ⟨none,rfl,rfl⟩ (λi σ Hx _ ⟨_,_,e⟩=>by rw[e];exact SqL.of elp) ?_ ?_⟩
  ·rintro i v σ Hx hi ⟨v11,rfl,rfl⟩
   obtain⟨t,p',q',rfl,ht,hp',hq'⟩:=two v (s_n hi);refine⟨_,rfl,_,_,_,_,rfl,.tup ht,rfl,_,rfl,?_⟩;refine⟨_,rfl,t,_,rfl,.inr (SqT.of ht),rfl,_,rfl,?_⟩;refine⟨_,rfl,t,_,_,_,rfl,rfl,SqT.of ht,a_e (j:=0) rfl,p',_,rfl,hp',_,rfl,?_⟩;exact⟨_,rfl,t,_,_,_,rfl,rfl,SqT.of ht,a_e (j:=1) rfl,q',_,rfl,hq',_,rfl,_,rfl,rfl⟩
  rintro σ Hx ⟨v11,rfl,rfl⟩;have bO:Bears Hx (g_6 I.kept) (.ref Z):=d_A (M _ _ et1) (LstAt.sameS L1 M) (LstAt.sameS L2 M);have bT:Bears Hx (g_6 I.kept) (.ref Y):=d_A (N _ _ et2) (LstAt.sameS L3 N) (LstAt.sameS L4 N);have bR28:=Bears.same s28 bR;have hpw:=n_7 a7;refine⟨_,rfl,_,rfl,g_6 I.kept,.ref Z,.ref tq,rfl,bO,bR28,by omega,λH29 s29=>⟨_,rfl,?_⟩⟩;refine⟨_,rfl,_,rfl,g_6 I.kept,.ref Y,.ref tq,rfl,Bears.same s29 bT,Bears.same s29 bR28,by omega,λH30 s30=>⟨_,rfl,?_⟩⟩;have T:=((s2427.trans s28).trans s29).trans s30;have s030:=((s017.trans a2).trans s24).trans T;have so30:=n_Q (s24.trans T) fp24;have s17o:=a2.trans so30;exact⟨a,Da,lF,lr,Z,Y,st,Dd,tq,J,mk,G,FA,RA,ns,room,c,v11,FD,RD,I,A7,L,rfl,s030.seq ha,hl,X.same T,mlF,nmF,hS,ad,m,a8,hFl,by omega,by omega,⟨_,rfl,s17o _ _ elF,s17o _ _ elr,a_K s17o PF,a_K s17o PRr,by rw[e_h nD24];exact T _ _ e24,BearsL.same (h_3 T) B24⟩,fin⟩
end
section
variable {K:PySem.W.Frag} {x q:Str} {st:Stmt} {f:Addr} {fd:FuncData}
abbrev bnd (x q:Str) (st:Stmt) (us:List Value) (r:List (Str×Value)):Prop:=∀(kV doc pm:Value) (an:Option Addr) (cdv ct:Value),bindArgs (PySem.W.fnOf x q (e_y st) (c_5 st) (a_n st) .none kV doc pm an cdv ct) ⟨us, []⟩=pure r
theorem bd0 (F:Fun K x q st f fd) (h:bnd x q st [] []):Binds K fd [] []:=F.binds λa b c d e g us hl=>match us,hl with | [],_=>h  a b c d e g
theorem bd1 {p1:Str} (F:Fun K x q st f fd) (h:∀v1,bnd x q st [v1] [(p1,v1)]):Binds K fd [p1] []:=F.binds λa b c d e g us hl=>by
 obtain⟨v1,rfl⟩:=List.length_eq_one_iff.mp hl;exact h v1 a b c d e g
theorem bd2 {p1 p2:Str} (F:Fun K x q st f fd) (h:∀v1 v2,bnd x q st [v1,v2] [(p1,v1),(p2,v2)]):Binds K fd [p1,p2] []:=F.binds λa b c d e g us hl=>by
 obtain⟨v1,us,rfl⟩:=List.exists_cons_of_length_eq_add_one hl;replace hl:=Nat.succ.inj hl;obtain⟨v2,rfl⟩:=List.length_eq_one_iff.mp hl;exact h v1 v2 a b c d e g
theorem bd3 {p1 p2 p3:Str} (F:Fun K x q st f fd) (h:∀v1 v2 v3,bnd x q st [v1,v2,v3] [(p1,v1),(p2,v2),(p3,v3)]):Binds K fd [p1,p2,p3] []:=F.binds λa b c d e g us i=>by
 obtain⟨v1,us,rfl⟩:=List.exists_cons_of_length_eq_add_one i;replace i:=Nat.succ.inj i;obtain⟨v2,us,rfl⟩:=List.exists_cons_of_length_eq_add_one i;replace i:=Nat.succ.inj i;obtain⟨v3,rfl⟩:=List.length_eq_one_iff.mp i;exact h v1 v2 v3 a b c d e g
theorem bd4 {p1 p2 p3 p4:Str} (F:Fun K x q st f fd) (h:∀v1 v2 v3 v4,bnd x q st [v1,v2,v3,v4] [(p1,v1),(p2,v2),(p3,v3),(p4,v4)]):Binds K fd [p1,p2,p3,p4] []:=F.binds λa b c d e g us i=>by
 obtain⟨v1,us,rfl⟩:=List.exists_cons_of_length_eq_add_one i;replace i:=Nat.succ.inj i;obtain⟨v2,us,rfl⟩:=List.exists_cons_of_length_eq_add_one i;replace i:=Nat.succ.inj i;obtain⟨v3,us,rfl⟩:=List.exists_cons_of_length_eq_add_one i;replace i:=Nat.succ.inj i;obtain⟨v4,rfl⟩:=List.length_eq_one_iff.mp i;exact h v1 v2 v3 v4 a b c d e g
end
theorem o_T {l:PySem.W.OpenLaw} {w:World} {K:PySem.W.Frag} {h:Heap} {mg:Str->Option Value} {fa CO CS CT CF CM CN CNo aq:Addr} (X:K.In h) (G:h.Ns mainGlobals mg) (hfa:mg "law"=some (.ref fa))
 {t1 t2 t3 t4 t5 u1 u2 u3 u4 u5:Tok} {dq:Option Addr} {nq:Nat} {sq:Array (Option Value)}
 {fInit:Addr} {dInit:FuncData}
 {fTake:Addr} {dTake:FuncData}
 {fLet:Addr} {dLet:FuncData}
 {fAhead:Addr} {dAhead:FuncData}
 {fBetw:Addr} {dBetw:FuncData}
 {fBA:Addr} {dBA:FuncData}
 {fRA:Addr} {dRA:FuncData}
 {fSplit:Addr} {dSplit:FuncData}
 {fJoin:Addr} {dJoin:FuncData}
 {fRows:Addr} {dRows:FuncData}
 {fSInit:Addr} {dSInit:FuncData}
 {fSBring:Addr} {dSBring:FuncData}
 {fSAlter:Addr} {dSAlter:FuncData}
 {fSCut:Addr} {dSCut:FuncData}
 {fSBegin:Addr} {dSBegin:FuncData}
 {fSKeep:Addr} {dSKeep:FuncData}
 {fSBreak:Addr} {dSBreak:FuncData}
 {fSRowOf:Addr} {dSRowOf:FuncData}
 {fSEnd:Addr} {dSEnd:FuncData}
 {fSChange:Addr} {dSChange:FuncData}
 {fSExch:Addr} {dSExch:FuncData}
 {fCW:Addr} {dCW:FuncData}
 {fLead:Addr} {dLead:FuncData}
 {fKey:Addr} {dKey:FuncData}
 {fqOrderOf:Addr} {dqOrderOf:FuncData}
 {fqWithin:Addr} {dqWithin:FuncData}
 {fqText:Addr} {dqText:FuncData}
 {fqRankKey:Addr} {dqRankKey:FuncData}
 {fqFrom:Addr} {dqFrom:FuncData}
 {fqSpot:Addr} {dqSpot:FuncData}
 {fdAnswers:Addr} {ddAnswers:FuncData}
 {fdAnsIn:Addr} {ddAnsIn:FuncData}
 {fdAnsOf:Addr} {ddAnsOf:FuncData}
 {fdAll:Addr} {ddAll:FuncData}
 {fdOne:Addr} {ddOne:FuncData}
 {fdDo:Addr} {ddDo:FuncData}
 {fdAsk:Addr} {ddAsk:FuncData}
 {fWhole:Addr} {dWhole:FuncData}
 {fAt:Addr} {dAt:FuncData}
 {fSame:Addr} {dSame:FuncData}
 {fTexts:Addr} {dTexts:FuncData}
 {fDrawn:Addr} {dDrawn:FuncData}
 {fFar:Addr} {dFar:FuncData}
 {fChangeOf:Addr} {dChangeOf:FuncData}
 {fQuestionOf:Addr} {dQuestionOf:FuncData}
 {fBringsOf:Addr} {dBringsOf:FuncData}
 {fDeedsOf:Addr} {dDeedsOf:FuncData}
 {fNewStore:Addr} {dNewStore:FuncData}
 {fRowsBy:Addr} {dRowsBy:FuncData}
 {fChanged:Addr} {dChanged:FuncData}
 {fAllChanged:Addr} {dAllChanged:FuncData}
 {fLies:Addr} {dLies:FuncData}
 {fToldByAll:Addr} {dToldByAll:FuncData}
 {fAnswered:Addr} {dAnswered:FuncData}
 {fStep:Addr} {dStep:FuncData}
 {fRaised:Addr} {dRaised:FuncData}
 {fRanked:Addr} {dRanked:FuncData}
 {fSigned:Addr} {dSigned:FuncData}
 {fMoved:Addr} {dMoved:FuncData}
 {fDeedMoved:Addr} {dDeedMoved:FuncData}
 {fRoomOf:Addr} {dRoomOf:FuncData}
 {fCopied:Addr} {dCopied:FuncData}
 {fdBothO:Addr} {ddBothO:FuncData}
 {fIsRow:Addr} {dIsRow:FuncData}
 {fAreRows:Addr} {dAreRows:FuncData}
 {fWithinBegun:Addr} {dWithinBegun:FuncData}
 {fQuestions:Addr} {dQuestions:FuncData}
 {fLaw:Addr} {dLaw:FuncData}
 (aCO:PySem.W.nsIn K mainGlobals "Order"=some (some (.ref CO))) (aCS:PySem.W.nsIn K mainGlobals "Store"=some (some (.ref CS)))
 (aInit:PySem.W.findIn K (.ref CO) "__init__"=some (some (.ref fInit))) (iInit:PySem.W.isFn K (.ref fInit)=true)
 (FInit:Fun K "__init__" "Order.__init__" n_w fInit dInit)
 (aTake:PySem.W.findIn K (.ref CO) "take_in"=some (some (.ref fTake))) (iTake:PySem.W.isFn K (.ref fTake)=true)
 (FTake:Fun K "take_in" "Order.take_in" n_2 fTake dTake)
 (aLet:PySem.W.findIn K (.ref CO) "let_out"=some (some (.ref fLet))) (iLet:PySem.W.isFn K (.ref fLet)=true)
 (FLet:Fun K "let_out" "Order.let_out" q_O fLet dLet)
 (aAhead:PySem.W.findIn K (.ref CO) "ahead_of"=some (some (.ref fAhead))) (iAhead:PySem.W.isFn K (.ref fAhead)=true)
 (FAhead:Fun K "ahead_of" "Order.ahead_of" k_D fAhead dAhead)
 (aBetw:PySem.W.findIn K (.ref CO) "between"=some (some (.ref fBetw))) (iBetw:PySem.W.isFn K (.ref fBetw)=true)
 (FBetw:Fun K "between" "Order.between" n_Y fBetw dBetw)
 (aBA:PySem.W.findIn K (.ref CO) "blocks_ahead"=some (some (.ref fBA))) (iBA:PySem.W.isFn K (.ref fBA)=true)
 (FBA:Fun K "blocks_ahead" "Order.blocks_ahead" sBA fBA dBA)
 (aRA:PySem.W.findIn K (.ref CO) "rows_ahead"=some (some (.ref fRA))) (iRA:PySem.W.isFn K (.ref fRA)=true)
 (FRA:Fun K "rows_ahead" "Order.rows_ahead" sRA fRA dRA)
 (aSplit:PySem.W.findIn K (.ref CO) "split_block"=some (some (.ref fSplit))) (iSplit:PySem.W.isFn K (.ref fSplit)=true)
 (FSplit:Fun K "split_block" "Order.split_block" j_z fSplit dSplit)
 (aJoin:PySem.W.findIn K (.ref CO) "join_if_few"=some (some (.ref fJoin))) (iJoin:PySem.W.isFn K (.ref fJoin)=true)
 (FJoin:Fun K "join_if_few" "Order.join_if_few" n_A fJoin dJoin)
 (aRows:PySem.W.findIn K (.ref CO) "rows"=some (some (.ref fRows))) (iRows:PySem.W.isFn K (.ref fRows)=true)
 (FRows:Fun K "rows" "Order.rows" n_h fRows dRows)
 (aSInit:PySem.W.findIn K (.ref CS) "__init__"=some (some (.ref fSInit))) (iSInit:PySem.W.isFn K (.ref fSInit)=true)
 (FSInit:Fun K "__init__" "Store.__init__" n_O fSInit dSInit)
 (aSBring:PySem.W.findIn K (.ref CS) "bring"=some (some (.ref fSBring))) (iSBring:PySem.W.isFn K (.ref fSBring)=true)
 (FSBring:Fun K "bring" "Store.bring" i_Y fSBring dSBring)
 (aSAlter:PySem.W.findIn K (.ref CS) "alter"=some (some (.ref fSAlter))) (iSAlter:PySem.W.isFn K (.ref fSAlter)=true)
 (FSAlter:Fun K "alter" "Store.alter" j_9 fSAlter dSAlter)
 (aSCut:PySem.W.findIn K (.ref CS) "cut"=some (some (.ref fSCut))) (iSCut:PySem.W.isFn K (.ref fSCut)=true)
 (FSCut:Fun K "cut" "Store.cut" p_9 fSCut dSCut)
 (aSBegin:PySem.W.findIn K (.ref CS) "begin"=some (some (.ref fSBegin))) (iSBegin:PySem.W.isFn K (.ref fSBegin)=true)
 (FSBegin:Fun K "begin" "Store.begin" i_7 fSBegin dSBegin)
 (aSKeep:PySem.W.findIn K (.ref CS) "keep"=some (some (.ref fSKeep))) (iSKeep:PySem.W.isFn K (.ref fSKeep)=true)
 (FSKeep:Fun K "keep" "Store.keep" n_l fSKeep dSKeep)
 (aSBreak:PySem.W.findIn K (.ref CS) "break_off"=some (some (.ref fSBreak))) (iSBreak:PySem.W.isFn K (.ref fSBreak)=true)
 (FSBreak:Fun K "break_off" "Store.break_off" k_r fSBreak dSBreak)
 (aSRowOf:PySem.W.findIn K (.ref CS) "row_of"=some (some (.ref fSRowOf))) (iSRowOf:PySem.W.isFn K (.ref fSRowOf)=true)
 (FSRowOf:Fun K "row_of" "Store.row_of" j_q fSRowOf dSRowOf)
 (aSEnd:PySem.W.findIn K (.ref CS) "end_of_last"=some (some (.ref fSEnd))) (iSEnd:PySem.W.isFn K (.ref fSEnd)=true)
 (FSEnd:Fun K "end_of_last" "Store.end_of_last" q_D fSEnd dSEnd)
 (aSChange:PySem.W.findIn K (.ref CS) "change"=some (some (.ref fSChange))) (iSChange:PySem.W.isFn K (.ref fSChange)=true)
 (FSChange:Fun K "change" "Store.change" h_y fSChange dSChange)
 (aSExch:PySem.W.findIn K (.ref CS) "exchange"=some (some (.ref fSExch))) (iSExch:PySem.W.isFn K (.ref fSExch)=true)
 (FSExch:Fun K "exchange" "Store.exchange" o_p fSExch dSExch)
 (aCW:PySem.W.nsIn K mainGlobals "check_word"=some (some (.ref fCW)))
 (FCW:Fun K "check_word" "check_word" sCW fCW dCW)
 (aLead:PySem.W.nsIn K mainGlobals "lead_of"=some (some (.ref fLead)))
 (FLead:Fun K "lead_of" "lead_of" n_F fLead dLead)
 (aKey:PySem.W.nsIn K mainGlobals "key_of"=some (some (.ref fKey)))
 (FKey:Fun K "key_of" "key_of" q_b fKey dKey)
 (aqOrderOf:PySem.W.nsIn K mainGlobals "order_of"=some (some (.ref fqOrderOf)))
 (FqOrderOf:Fun K "order_of" "order_of" f_l fqOrderOf dqOrderOf)
 (aqWithin:PySem.W.nsIn K mainGlobals "rows_within"=some (some (.ref fqWithin)))
 (FqWithin:Fun K "rows_within" "rows_within" h_r fqWithin dqWithin)
 (aqText:PySem.W.nsIn K mainGlobals "rows_of_text"=some (some (.ref fqText)))
 (FqText:Fun K "rows_of_text" "rows_of_text" n_t fqText dqText)
 (aqRankKey:PySem.W.nsIn K mainGlobals "rank_key"=some (some (.ref fqRankKey)))
 (FqRankKey:Fun K "rank_key" "rank_key" f_J fqRankKey dqRankKey)
 (aqFrom:PySem.W.nsIn K mainGlobals "rows_from"=some (some (.ref fqFrom)))
 (FqFrom:Fun K "rows_from" "rows_from" m_0 fqFrom dqFrom)
 (aqSpot:PySem.W.nsIn K mainGlobals "spot_of"=some (some (.ref fqSpot)))
 (FqSpot:Fun K "spot_of" "spot_of" n_b fqSpot dqSpot)
 (adAnswers:PySem.W.nsIn K mainGlobals "answers"=some (some (.ref fdAnswers)))
 (FdAnswers:Fun K "answers" "answers" f_x fdAnswers ddAnswers)
 (adAnsIn:PySem.W.nsIn K mainGlobals "answers_in"=some (some (.ref fdAnsIn)))
 (FdAnsIn:Fun K "answers_in" "answers_in" k_e fdAnsIn ddAnsIn)
 (adAnsOf:PySem.W.nsIn K mainGlobals "answer_of"=some (some (.ref fdAnsOf)))
 (FdAnsOf:Fun K "answer_of" "answer_of" k_R fdAnsOf ddAnsOf)
 (adAll:PySem.W.nsIn K mainGlobals "all_or_none"=some (some (.ref fdAll)))
 (FdAll:Fun K "all_or_none" "all_or_none" q_z fdAll ddAll)
 (adOne:PySem.W.nsIn K mainGlobals "answer_of_one"=some (some (.ref fdOne)))
 (FdOne:Fun K "answer_of_one" "answer_of_one" p_2 fdOne ddOne)
 (adDo:PySem.W.nsIn K mainGlobals "do_change"=some (some (.ref fdDo)))
 (FdDo:Fun K "do_change" "do_change" dDo fdDo ddDo)
 (adAsk:PySem.W.nsIn K mainGlobals "answer_to_question"=some (some (.ref fdAsk)))
 (FdAsk:Fun K "answer_to_question" "answer_to_question" q_a fdAsk ddAsk)
 (aWhole:PySem.W.nsIn K mainGlobals "_law_whole"=some (some (.ref fWhole)))
 (FWhole:Fun K "_law_whole" "_law_whole" j_x fWhole dWhole)
 (aAt:PySem.W.nsIn K mainGlobals "_law_at"=some (some (.ref fAt)))
 (FAt:Fun K "_law_at" "_law_at" sAt fAt dAt)
 (aSame:PySem.W.nsIn K mainGlobals "_law_same"=some (some (.ref fSame)))
 (FSame:Fun K "_law_same" "_law_same" o_q fSame dSame)
 (aTexts:PySem.W.nsIn K mainGlobals "_law_texts"=some (some (.ref fTexts)))
 (FTexts:Fun K "_law_texts" "_law_texts" k_q fTexts dTexts)
 (aDrawn:PySem.W.nsIn K mainGlobals "_law_drawn_row"=some (some (.ref fDrawn)))
 (FDrawn:Fun K "_law_drawn_row" "_law_drawn_row" k_f fDrawn dDrawn)
 (aFar:PySem.W.nsIn K mainGlobals "_law_far"=some (some (.ref fFar)))
 (FFar:Fun K "_law_far" "_law_far" q_Y fFar dFar)
 (aChangeOf:PySem.W.nsIn K mainGlobals "_law_change_of"=some (some (.ref fChangeOf)))
 (FChangeOf:Fun K "_law_change_of" "_law_change_of" e_n fChangeOf dChangeOf)
 (aQuestionOf:PySem.W.nsIn K mainGlobals "_law_question_of"=some (some (.ref fQuestionOf)))
 (FQuestionOf:Fun K "_law_question_of" "_law_question_of" c_W fQuestionOf dQuestionOf)
 (aBringsOf:PySem.W.nsIn K mainGlobals "_law_brings_of"=some (some (.ref fBringsOf)))
 (FBringsOf:Fun K "_law_brings_of" "_law_brings_of" e_l fBringsOf dBringsOf)
 (aDeedsOf:PySem.W.nsIn K mainGlobals "_law_deeds_of"=some (some (.ref fDeedsOf)))
 (FDeedsOf:Fun K "_law_deeds_of" "_law_deeds_of" f_y fDeedsOf dDeedsOf)
 (aNewStore:PySem.W.nsIn K mainGlobals "_law_new_store"=some (some (.ref fNewStore)))
 (FNewStore:Fun K "_law_new_store" "_law_new_store" e_J fNewStore dNewStore)
 (aRowsBy:PySem.W.nsIn K mainGlobals "_law_rows_by"=some (some (.ref fRowsBy)))
 (FRowsBy:Fun K "_law_rows_by" "_law_rows_by" h_z fRowsBy dRowsBy)
 (aChanged:PySem.W.nsIn K mainGlobals "_law_changed"=some (some (.ref fChanged)))
 (FChanged:Fun K "_law_changed" "_law_changed" f_K fChanged dChanged)
 (aAllChanged:PySem.W.nsIn K mainGlobals "_law_all_changed"=some (some (.ref fAllChanged)))
 (FAllChanged:Fun K "_law_all_changed" "_law_all_changed" c_1 fAllChanged dAllChanged)
 (aLies:PySem.W.nsIn K mainGlobals "_law_lies"=some (some (.ref fLies)))
 (FLies:Fun K "_law_lies" "_law_lies" m_Q fLies dLies)
 (aToldByAll:PySem.W.nsIn K mainGlobals "_law_told_by_all"=some (some (.ref fToldByAll)))
 (FToldByAll:Fun K "_law_told_by_all" "_law_told_by_all" d_B fToldByAll dToldByAll)
 (aAnswered:PySem.W.nsIn K mainGlobals "_law_answered"=some (some (.ref fAnswered)))
 (FAnswered:Fun K "_law_answered" "_law_answered" e_u fAnswered dAnswered)
 (aStep:PySem.W.nsIn K mainGlobals "_law_step_by"=some (some (.ref fStep)))
 (FStep:Fun K "_law_step_by" "_law_step_by" n_J fStep dStep)
 (aRaised:PySem.W.nsIn K mainGlobals "_law_raised"=some (some (.ref fRaised)))
 (FRaised:Fun K "_law_raised" "_law_raised" g_U fRaised dRaised)
 (aRanked:PySem.W.nsIn K mainGlobals "_law_ranked"=some (some (.ref fRanked)))
 (FRanked:Fun K "_law_ranked" "_law_ranked" h_k fRanked dRanked)
 (aSigned:PySem.W.nsIn K mainGlobals "_law_signed"=some (some (.ref fSigned)))
 (FSigned:Fun K "_law_signed" "_law_signed" h_e fSigned dSigned)
 (aMoved:PySem.W.nsIn K mainGlobals "_law_row_moved"=some (some (.ref fMoved)))
 (FMoved:Fun K "_law_row_moved" "_law_row_moved" i_Z fMoved dMoved)
 (aDeedMoved:PySem.W.nsIn K mainGlobals "_law_moved"=some (some (.ref fDeedMoved)))
 (FDeedMoved:Fun K "_law_moved" "_law_moved" c_i fDeedMoved dDeedMoved)
 (aRoomOf:PySem.W.nsIn K mainGlobals "_law_room_of"=some (some (.ref fRoomOf)))
 (FRoomOf:Fun K "_law_room_of" "_law_room_of" h_d fRoomOf dRoomOf)
 (aCopied:PySem.W.nsIn K mainGlobals "_law_copied"=some (some (.ref fCopied)))
 (FCopied:Fun K "_law_copied" "_law_copied" h_A fCopied dCopied)
 (adBothO:PySem.W.nsIn K mainGlobals "both_orders"=some (some (.ref fdBothO)))
 (FdBothO:Fun K "both_orders" "both_orders" j_H fdBothO ddBothO)
 (aIsRow:PySem.W.nsIn K mainGlobals "_law_is_row"=some (some (.ref fIsRow)))
 (FIsRow:Fun K "_law_is_row" "_law_is_row" j_1 fIsRow dIsRow)
 (aAreRows:PySem.W.nsIn K mainGlobals "_law_are_rows"=some (some (.ref fAreRows)))
 (FAreRows:Fun K "_law_are_rows" "_law_are_rows" f_A fAreRows dAreRows)
 (aWithinBegun:PySem.W.nsIn K mainGlobals "_law_within_begun"=some (some (.ref fWithinBegun)))
 (FWithinBegun:Fun K "_law_within_begun" "_law_within_begun" c_w fWithinBegun dWithinBegun)
 (aQuestions:PySem.W.nsIn K mainGlobals "_law_questions"=some (some (.ref fQuestions)))
 (FQuestions:Fun K "_law_questions" "_law_questions" d_D fQuestions dQuestions)
 (aLaw:PySem.W.nsIn K mainGlobals "law"=some (some (.ref fLaw)))
 (FLaw:Fun K "law" "law" q_G fLaw dLaw)
 (pgCO:PySem.W.plainGet K CO Str.empty=true) (hdCO:PySem.W.hasDictIn K CO=true) (poCO:PySem.W.plainOver K CO=true) (saCO:PySem.W.findIn K (.ref CO) "__setattr__"=some (some (.builtin "object.__setattr__"))) (mkCO:PySem.W.makesIn K CO=true) (kcCO:PySem.W.keepIn K (.ref CO)=true)
 (pgCS:PySem.W.plainGet K CS Str.empty=true) (hdCS:PySem.W.hasDictIn K CS=true) (poCS:PySem.W.plainOver K CS=true) (saCS:PySem.W.findIn K (.ref CS) "__setattr__"=some (some (.builtin "object.__setattr__"))) (mkCS:PySem.W.makesIn K CS=true) (kcCS:PySem.W.keepIn K (.ref CS)=true)
 (nCO_word:PySem.W.findIn K (.ref CO) "word"=some none)
 (nCO_blocks:PySem.W.findIn K (.ref CO) "blocks"=some none)
 (nCO_bring:PySem.W.findIn K (.ref CO) "bring"=some none)
 (nCS_room:PySem.W.findIn K (.ref CS) "room"=some none)
 (nCS_by_number:PySem.W.findIn K (.ref CS) "by_number"=some none)
 (nCS_by_rank:PySem.W.findIn K (.ref CS) "by_rank"=some none)
 (nCS_by_text:PySem.W.findIn K (.ref CS) "by_text"=some none)
 (nCS_steps:PySem.W.findIn K (.ref CS) "steps"=some none)
 (nCS_marks:PySem.W.findIn K (.ref CS) "marks"=some none)
 (q1:PySem.W.nsIn K mainGlobals "RANK_WORD"=some (some (.str "rank" t1)))
 (q2:PySem.W.nsIn K mainGlobals "TEXT_WORD"=some (some (.str "text" t2)))
 (q3:PySem.W.nsIn K mainGlobals "MOST_IN_A_BLOCK"=some (some (.int 8 t3)))
 (q4:PySem.W.nsIn K mainGlobals "LEAST_IN_TWO_BLOCKS"=some (some (.int 5 t4)))
 (q5:PySem.W.nsIn K mainGlobals "DONE"=some (some (.str "done" t5)))
 (qQ:PySem.W.nsIn K mainGlobals "QUESTIONS"=some (some (.ref aq))) (lQ:K.lookup aq=some ⟨.type "tuple",dq,.seq #[.str "row" u1,.str "within" u2,.str "both" u3,.str "from" u4,.str "spot" u5] nq,sq⟩)
 (aCT:PySem.W.nsIn K mainGlobals "Taken"=some (some (.ref CT))) (xCT:PySem.W.excIn K CT i_K "ValueError.__new__"=true)
 (aCF:PySem.W.nsIn K mainGlobals "Full"=some (some (.ref CF))) (xCF:PySem.W.excIn K CF i_K "ValueError.__new__"=true)
 (aCM:PySem.W.nsIn K mainGlobals "Missing"=some (some (.ref CM))) (xCM:PySem.W.excIn K CM i_K "ValueError.__new__"=true)
 (aCN:PySem.W.nsIn K mainGlobals "NotBegun"=some (some (.ref CN))) (xCN:PySem.W.excIn K CN i_K "ValueError.__new__"=true)
 (aCNo:PySem.W.nsIn K mainGlobals "NoOrder"=some (some (.ref CNo))) (xCNo:PySem.W.excIn K CNo i_K "ValueError.__new__"=true)
 (ett:PySem.W.exmOne K (.ref CT) (.ref CT)=some true)
 (emt:PySem.W.exmOne K (.ref CM) (.ref CT)=some false)
 (emm:PySem.W.exmOne K (.ref CM) (.ref CM)=some true)
 (eft:PySem.W.exmOne K (.ref CF) (.ref CT)=some false)
 (efm:PySem.W.exmOne K (.ref CF) (.ref CM)=some false)
 (eff:PySem.W.exmOne K (.ref CF) (.ref CF)=some true)
 (ent:PySem.W.exmOne K (.ref CN) (.ref CT)=some false)
 (enm:PySem.W.exmOne K (.ref CN) (.ref CM)=some false)
 (enf:PySem.W.exmOne K (.ref CN) (.ref CF)=some false)
 (enn:PySem.W.exmOne K (.ref CN) (.ref CN)=some true)
 (eot:PySem.W.exmOne K (.ref CNo) (.ref CT)=some false)
 (eom:PySem.W.exmOne K (.ref CNo) (.ref CM)=some false)
 (eof:PySem.W.exmOne K (.ref CNo) (.ref CF)=some false)
 (eon:PySem.W.exmOne K (.ref CNo) (.ref CN)=some false)
 (eoo:PySem.W.exmOne K (.ref CNo) (.ref CNo)=some true)
 (zlen:PySem.W.nsIn K mainGlobals "len"=some none)
 (zmin:PySem.W.nsIn K mainGlobals "min"=some none)
 (zsum:PySem.W.nsIn K mainGlobals "sum"=some none)
 (zisinstance:PySem.W.nsIn K mainGlobals "isinstance"=some none)
 (zint:PySem.W.nsIn K mainGlobals "int"=some none)
 (zbool:PySem.W.nsIn K mainGlobals "bool"=some none)
 (zlist:PySem.W.nsIn K mainGlobals "list"=some none)
 (ztuple:PySem.W.nsIn K mainGlobals "tuple"=some none)
 (zstr:PySem.W.nsIn K mainGlobals "str"=some none)
 (zsorted:PySem.W.nsIn K mainGlobals "sorted"=some none)
 (zrange:PySem.W.nsIn K mainGlobals "range"=some none)
 (zmax:PySem.W.nsIn K mainGlobals "max"=some none)
 (nb:PySem.W.nsIn K cStatics sharingNotToldKey=some none):
 ∃fd:FuncData,(∀(s:Shared) (v:Value),BindsTo s fd ⟨[v], []⟩ [("_law_script",v)])/\∀base:Heap,K.In base->base.Ns mainGlobals mg->FnOk l.prog w K mg base CX0 14 fa fd ["_law_script"] (l_V K):=by
 have e:=hfa.symm.trans (PySem.W.mg_of X G aLaw);cases e;have T:Txt K mg CO:=⟨⟨pgCO,hdCO,poCO,saCO⟩,nCO_word,nCO_blocks,PySem.W.mg_of X G aCO,⟨_,PySem.W.mg_of X G q1⟩,⟨_,PySem.W.mg_of X G q2⟩,⟨_,PySem.W.mg_of X G q3⟩,⟨_,PySem.W.mg_of X G q4⟩,PySem.W.mg_none_of X G zlen,PySem.W.mg_none_of X G zmin,PySem.W.mg_none_of X G zsum⟩;have ccc:CS≠CO:=λz=>by rw[z,nCO_bring] at aSBring;cases aSBring
 have TS:e_W K mg CS CO:=⟨⟨pgCS,hdCS,poCS,saCS⟩,nCS_room,nCS_by_number,nCS_by_rank,nCS_by_text,nCS_steps,nCS_marks,PySem.W.mg_of X G aCS,ccc⟩;have TD:q_B K mg:=⟨⟨_,PySem.W.mg_of X G q5⟩,⟨aq,PySem.W.mg_of X G qQ,λH=> .inr ⟨_,_,_,lQ,rfl,rfl,by show 5<=sizeLine;decide,.cons ⟨_,rfl⟩ (.cons ⟨_,rfl⟩ (.cons ⟨_,rfl⟩ (.cons ⟨_,rfl⟩ (.cons ⟨_,rfl⟩ .nil))))⟩⟩,PySem.W.mg_none_of X G zlen,PySem.W.mg_none_of X G zrange⟩;have ex:o_U K mg CT CF CM CN:=⟨⟨PySem.W.mg_of X G aCT,xCT⟩,⟨PySem.W.mg_of X G aCF,xCF⟩,⟨PySem.W.mg_of X G aCM,xCM⟩,⟨PySem.W.mg_of X G aCN,xCN⟩⟩;have eO:Exc K mg "NoOrder" CNo:=⟨PySem.W.mg_of X G aCNo,xCNo⟩;have xm:p_D K CT CM CF CN CNo:=⟨ett,emt,emm,eft,efm,eff,ent,enm,enf,enn,eot,eom,eof,eon,eoo⟩;have dt:mg "max"=none:=PySem.W.mg_none_of X G zmax;have bg:mg "sorted"=none:=PySem.W.mg_none_of X G zsorted;have B:Bt mg:=⟨PySem.W.mg_none_of X G zlen,PySem.W.mg_none_of X G zmin,PySem.W.mg_none_of X G zisinstance,PySem.W.mg_none_of X G zint,PySem.W.mg_none_of X G zbool,PySem.W.mg_none_of X G zlist,PySem.W.mg_none_of X G ztuple,PySem.W.mg_none_of X G zstr,PySem.W.mg_none_of X G zsorted,PySem.W.mg_none_of X G zrange⟩;have d8:Binds K dInit ["self","word"] []:=bd2 FInit λ_ _ _ _ _ _ _ _=>rfl;have d3:Binds K dTake ["self","row"] []:=bd2 FTake λ_ _ _ _ _ _ _ _=>rfl;have dx:Binds K dLet ["self","row"] []:=bd2 FLet λ_ _ _ _ _ _ _ _=>rfl;have ck:Binds K dAhead ["self","row"] []:=bd2 FAhead λ_ _ _ _ _ _ _ _=>rfl;have db:Binds K dBetw ["self","low","high"] []:=bd3 FBetw λ_ _ _ _ _ _ _ _ _=>rfl;have dy:Binds K dBA ["self","key"] []:=bd2 FBA λ_ _ _ _ _ _ _ _=>rfl;have e2:Binds K dRA ["self","block","key"] []:=bd3 FRA λ_ _ _ _ _ _ _ _ _=>rfl;have bw:Binds K dSplit ["self","place"] []:=bd2 FSplit λ_ _ _ _ _ _ _ _=>rfl;have ct:Binds K dJoin ["self","place"] []:=bd2 FJoin λ_ _ _ _ _ _ _ _=>rfl;have dd:Binds K dRows ["self"] []:=bd1 FRows λ_ _ _ _ _ _ _=>rfl;have a3:Binds K dSInit ["self","room"] []:=bd2 FSInit λ_ _ _ _ _ _ _ _=>rfl;have bp:Binds K dSBring ["self","row"] []:=bd2 FSBring λ_ _ _ _ _ _ _ _=>rfl;have be:Binds K dSAlter ["self","row"] []:=bd2 FSAlter λ_ _ _ _ _ _ _ _=>rfl;have cz:Binds K dSCut ["self","number"] []:=bd2 FSCut λ_ _ _ _ _ _ _ _=>rfl;have ba:Binds K dSBegin ["self"] []:=bd1 FSBegin λ_ _ _ _ _ _ _=>rfl;have c9:Binds K dSKeep ["self"] []:=bd1 FSKeep λ_ _ _ _ _ _ _=>rfl;have bh:Binds K dSBreak ["self"] []:=bd1 FSBreak λ_ _ _ _ _ _ _=>rfl;have bc:Binds K dSRowOf ["self","number"] []:=bd2 FSRowOf λ_ _ _ _ _ _ _ _=>rfl;have cu:Binds K dSEnd ["self"] []:=bd1 FSEnd λ_ _ _ _ _ _ _=>rfl;have av:Binds K dSChange ["self","old","new"] []:=bd3 FSChange λ_ _ _ _ _ _ _ _ _=>rfl;have ci:Binds K dSExch ["self","old","new"] []:=bd3 FSExch λ_ _ _ _ _ _ _ _ _=>rfl;have dz:Binds K dCW ["word"] []:=bd1 FCW λ_ _ _ _ _ _ _=>rfl;have cw:Binds K dLead ["word","row"] []:=bd2 FLead λ_ _ _ _ _ _ _ _=>rfl;have ds:Binds K dKey ["word","row"] []:=bd2 FKey λ_ _ _ _ _ _ _ _=>rfl;have ae:Binds K dqOrderOf ["store","word"] []:=bd2 FqOrderOf λ_ _ _ _ _ _ _ _=>rfl;have az:Binds K dqWithin ["store","word","low","high"] []:=bd4 FqWithin λ_ _ _ _ _ _ _ _ _ _=>rfl
 have cg:Binds K dqText ["store","low","high","text"] []:=bd4 FqText λ_ _ _ _ _ _ _ _ _ _=>rfl;have Z:Binds K dqRankKey ["row"] []:=bd1 FqRankKey λ_ _ _ _ _ _ _=>rfl;have cm:Binds K dqFrom ["store","word","spot","many"] []:=bd4 FqFrom λ_ _ _ _ _ _ _ _ _ _=>rfl;have c2:Binds K dqSpot ["store","word","number"] []:=bd3 FqSpot λ_ _ _ _ _ _ _ _ _=>rfl;have a6:Binds K ddAnswers ["room","deeds"] []:=bd2 FdAnswers λ_ _ _ _ _ _ _ _=>rfl;have bj:Binds K ddAnsIn ["store","deeds"] []:=bd2 FdAnsIn λ_ _ _ _ _ _ _ _=>rfl;have bn:Binds K ddAnsOf ["store","deed"] []:=bd2 FdAnsOf λ_ _ _ _ _ _ _ _=>rfl;have bdAll:Binds K ddAll ["store","changes"] []:=bd2 FdAll λ_ _ _ _ _ _ _ _=>rfl;have cs:Binds K ddOne ["store","deed"] []:=bd2 FdOne λ_ _ _ _ _ _ _ _=>rfl;have dw:Binds K ddDo ["store","deed"] []:=bd2 FdDo λ_ _ _ _ _ _ _ _=>rfl;have de:Binds K ddAsk ["store","deed"] []:=bd2 FdAsk λ_ _ _ _ _ _ _ _=>rfl;have cn:Binds K dWhole ["_law_found"] []:=bd1 FWhole λ_ _ _ _ _ _ _=>rfl;have e0:Binds K dAt ["_law_script","_law_k"] []:=bd2 FAt λ_ _ _ _ _ _ _ _=>rfl;have d1:Binds K dSame ["_law_found","_law_due"] []:=bd2 FSame λ_ _ _ _ _ _ _ _=>rfl;have c8:Binds K dTexts [] []:=bd0 FTexts λ_ _ _ _ _ _=>rfl;have c1:Binds K dDrawn ["_law_number","_law_cell"] []:=bd2 FDrawn λ_ _ _ _ _ _ _ _=>rfl;have dv:Binds K dFar ["_law_number"] []:=bd1 FFar λ_ _ _ _ _ _ _=>rfl;have ac:Binds K dChangeOf ["_law_way","_law_number","_law_cell"] []:=bd3 FChangeOf λ_ _ _ _ _ _ _ _ _=>rfl;have t:Binds K dQuestionOf ["_law_way","_law_number","_law_cell"] []:=bd3 FQuestionOf λ_ _ _ _ _ _ _ _ _=>rfl;have al:Binds K dBringsOf ["_law_script"] []:=bd1 FBringsOf λ_ _ _ _ _ _ _=>rfl;have ax:Binds K dDeedsOf ["_law_cells"] []:=bd1 FDeedsOf λ_ _ _ _ _ _ _=>rfl;have am:Binds K dNewStore ["_law_room"] []:=bd1 FNewStore λ_ _ _ _ _ _ _=>rfl;have bl:Binds K dRowsBy ["_law_store","_law_word"] []:=bd2 FRowsBy λ_ _ _ _ _ _ _ _=>rfl;have b0:Binds K dChanged ["_law_store","_law_deed"] []:=bd2 FChanged λ_ _ _ _ _ _ _ _=>rfl;have o:Binds K dAllChanged ["_law_store","_law_deeds"] []:=bd2 FAllChanged λ_ _ _ _ _ _ _ _=>rfl;have dc:Binds K dLies ["_law_low","_law_value","_law_high"] []:=bd3 FLies λ_ _ _ _ _ _ _ _ _=>rfl;have M:Binds K dToldByAll ["_law_store","_law_deed"] []:=bd2 FToldByAll λ_ _ _ _ _ _ _ _=>rfl;have ai:Binds K dAnswered ["_law_store","_law_deed"] []:=bd2 FAnswered λ_ _ _ _ _ _ _ _=>rfl;have cr:Binds K dStep ["_law_seed"] []:=bd1 FStep λ_ _ _ _ _ _ _=>rfl;have bq:Binds K dRaised ["_law_number","_law_seed"] []:=bd2 FRaised λ_ _ _ _ _ _ _ _=>rfl;have bk:Binds K dRanked ["_law_rank","_law_seed"] []:=bd2 FRanked λ_ _ _ _ _ _ _ _=>rfl;have bb:Binds K dSigned ["_law_letters","_law_seed"] []:=bd2 FSigned λ_ _ _ _ _ _ _ _=>rfl;have cf:Binds K dMoved ["_law_row","_law_seed"] []:=bd2 FMoved λ_ _ _ _ _ _ _ _=>rfl;have Q:Binds K dDeedMoved ["_law_deed","_law_seed"] []:=bd2 FDeedMoved λ_ _ _ _ _ _ _ _=>rfl;have bf:Binds K dRoomOf ["_law_cell"] []:=bd1 FRoomOf λ_ _ _ _ _ _ _=>rfl;have bo:Binds K dCopied ["_law_deeds"] []:=bd1 FCopied λ_ _ _ _ _ _ _=>rfl
 have bi:Binds K ddBothO ["room","deeds"] []:=bd2 FdBothO λ_ _ _ _ _ _ _ _=>rfl;have cd:Binds K dIsRow ["_law_found"] []:=bd1 FIsRow λ_ _ _ _ _ _ _=>rfl;have as:Binds K dAreRows ["_law_found"] []:=bd1 FAreRows λ_ _ _ _ _ _ _=>rfl;have m:Binds K dWithinBegun ["_law_deeds"] []:=bd1 FWithinBegun λ_ _ _ _ _ _ _=>rfl;have N:Binds K dQuestions [] []:=bd0 FQuestions λ_ _ _ _ _ _=>rfl;have mTake:Mf K CO "take_in" fTake _ ["self","row"]:=⟨⟨aTake,iTake,FTake.kp⟩,d3⟩;have mLet:Mf K CO "let_out" fLet _ ["self","row"]:=⟨⟨aLet,iLet,FLet.kp⟩,dx⟩;have mAhead:Mf K CO "ahead_of" fAhead _ ["self","row"]:=⟨⟨aAhead,iAhead,FAhead.kp⟩,ck⟩;have mBetw:Mf K CO "between" fBetw _ ["self","low","high"]:=⟨⟨aBetw,iBetw,FBetw.kp⟩,db⟩;have mBA:Mf K CO "blocks_ahead" fBA _ ["self","key"]:=⟨⟨aBA,iBA,FBA.kp⟩,dy⟩;have mRA:Mf K CO "rows_ahead" fRA _ ["self","block","key"]:=⟨⟨aRA,iRA,FRA.kp⟩,e2⟩;have mSplit:Mf K CO "split_block" fSplit _ ["self","place"]:=⟨⟨aSplit,iSplit,FSplit.kp⟩,bw⟩;have mJoin:Mf K CO "join_if_few" fJoin _ ["self","place"]:=⟨⟨aJoin,iJoin,FJoin.kp⟩,ct⟩;have mRows:Mf K CO "rows" fRows _ ["self"]:=⟨⟨aRows,iRows,FRows.kp⟩,dd⟩;have mSBring:Mf K CS "bring" fSBring _ ["self","row"]:=⟨⟨aSBring,iSBring,FSBring.kp⟩,bp⟩;have mSAlter:Mf K CS "alter" fSAlter _ ["self","row"]:=⟨⟨aSAlter,iSAlter,FSAlter.kp⟩,be⟩;have mSCut:Mf K CS "cut" fSCut _ ["self","number"]:=⟨⟨aSCut,iSCut,FSCut.kp⟩,cz⟩;have mSBegin:Mf K CS "begin" fSBegin _ ["self"]:=⟨⟨aSBegin,iSBegin,FSBegin.kp⟩,ba⟩;have mSKeep:Mf K CS "keep" fSKeep _ ["self"]:=⟨⟨aSKeep,iSKeep,FSKeep.kp⟩,c9⟩;have mSBreak:Mf K CS "break_off" fSBreak _ ["self"]:=⟨⟨aSBreak,iSBreak,FSBreak.kp⟩,bh⟩;have mSRowOf:Mf K CS "row_of" fSRowOf _ ["self","number"]:=⟨⟨aSRowOf,iSRowOf,FSRowOf.kp⟩,bc⟩;have mSEnd:Mf K CS "end_of_last" fSEnd _ ["self"]:=⟨⟨aSEnd,iSEnd,FSEnd.kp⟩,cu⟩;have mSChange:Mf K CS "change" fSChange _ ["self","old","new"]:=⟨⟨aSChange,iSChange,FSChange.kp⟩,av⟩;have mSExch:Mf K CS "exchange" fSExch _ ["self","old","new"]:=⟨⟨aSExch,iSExch,FSExch.kp⟩,ci⟩;have dh:Gf K mg "check_word" fCW _ ["word"]:=⟨PySem.W.mg_of X G aCW,FCW.kp,dz⟩;have b9:Gf K mg "lead_of" fLead _ ["word","row"]:=⟨PySem.W.mg_of X G aLead,FLead.kp,cw⟩;have f:Gf K mg "key_of" fKey _ ["word","row"]:=⟨PySem.W.mg_of X G aKey,FKey.kp,ds⟩;have a:Gf K mg "order_of" fqOrderOf _ ["store","word"]:=⟨PySem.W.mg_of X G aqOrderOf,FqOrderOf.kp,ae⟩;have aw:Gf K mg "rows_within" fqWithin _ ["store","word","low","high"]:=⟨PySem.W.mg_of X G aqWithin,FqWithin.kp,az⟩;have cb:Gf K mg "rows_of_text" fqText _ ["store","low","high","text"]:=⟨PySem.W.mg_of X G aqText,FqText.kp,cg⟩;have ab:Gf K mg "rank_key" fqRankKey _ ["row"]:=⟨PySem.W.mg_of X G aqRankKey,FqRankKey.kp,Z⟩;have c6:Gf K mg "rows_from" fqFrom _ ["store","word","spot","many"]:=⟨PySem.W.mg_of X G aqFrom,FqFrom.kp,cm⟩;have cc:Gf K mg "spot_of" fqSpot _ ["store","word","number"]:=⟨PySem.W.mg_of X G aqSpot,FqSpot.kp,c2⟩;have aa:Gf K mg "answers" fdAnswers _ ["room","deeds"]:=⟨PySem.W.mg_of X G adAnswers,FdAnswers.kp,a6⟩;have C:Gf K mg "answers_in" fdAnsIn _ ["store","deeds"]:=⟨PySem.W.mg_of X G adAnsIn,FdAnsIn.kp,bj⟩
 have bu:Gf K mg "answer_of" fdAnsOf _ ["store","deed"]:=⟨PySem.W.mg_of X G adAnsOf,FdAnsOf.kp,bn⟩;have d0:Gf K mg "all_or_none" fdAll _ ["store","changes"]:=⟨PySem.W.mg_of X G adAll,FdAll.kp,bdAll⟩;have b2:Gf K mg "answer_of_one" fdOne _ ["store","deed"]:=⟨PySem.W.mg_of X G adOne,FdOne.kp,cs⟩;have dr:Gf K mg "do_change" fdDo _ ["store","deed"]:=⟨PySem.W.mg_of X G adDo,FdDo.kp,dw⟩;have d5:Gf K mg "answer_to_question" fdAsk _ ["store","deed"]:=⟨PySem.W.mg_of X G adAsk,FdAsk.kp,de⟩;have ak:Gf K mg "_law_whole" fWhole _ ["_law_found"]:=⟨PySem.W.mg_of X G aWhole,FWhole.kp,cn⟩;have dj:Gf K mg "_law_at" fAt _ ["_law_script","_law_k"]:=⟨PySem.W.mg_of X G aAt,FAt.kp,e0⟩;have d7:Gf K mg "_law_same" fSame _ ["_law_found","_law_due"]:=⟨PySem.W.mg_of X G aSame,FSame.kp,d1⟩;have a5:Gf K mg "_law_texts" fTexts _ []:=⟨PySem.W.mg_of X G aTexts,FTexts.kp,c8⟩;have U:Gf K mg "_law_drawn_row" fDrawn _ ["_law_number","_law_cell"]:=⟨PySem.W.mg_of X G aDrawn,FDrawn.kp,c1⟩;have O:Gf K mg "_law_far" fFar _ ["_law_number"]:=⟨PySem.W.mg_of X G aFar,FFar.kp,dv⟩;have ag:Gf K mg "_law_change_of" fChangeOf _ ["_law_way","_law_number","_law_cell"]:=⟨PySem.W.mg_of X G aChangeOf,FChangeOf.kp,ac⟩;have r:Gf K mg "_law_question_of" fQuestionOf _ ["_law_way","_law_number","_law_cell"]:=⟨PySem.W.mg_of X G aQuestionOf,FQuestionOf.kp,t⟩;have a9:Gf K mg "_law_brings_of" fBringsOf _ ["_law_script"]:=⟨PySem.W.mg_of X G aBringsOf,FBringsOf.kp,al⟩;have ar:Gf K mg "_law_deeds_of" fDeedsOf _ ["_law_cells"]:=⟨PySem.W.mg_of X G aDeedsOf,FDeedsOf.kp,ax⟩;have a8:Gf K mg "_law_new_store" fNewStore _ ["_law_room"]:=⟨PySem.W.mg_of X G aNewStore,FNewStore.kp,am⟩;have J:Gf K mg "_law_rows_by" fRowsBy _ ["_law_store","_law_word"]:=⟨PySem.W.mg_of X G aRowsBy,FRowsBy.kp,bl⟩;have j:Gf K mg "_law_changed" fChanged _ ["_law_store","_law_deed"]:=⟨PySem.W.mg_of X G aChanged,FChanged.kp,b0⟩;have q:Gf K mg "_law_all_changed" fAllChanged _ ["_law_store","_law_deeds"]:=⟨PySem.W.mg_of X G aAllChanged,FAllChanged.kp,o⟩;have da:Gf K mg "_law_lies" fLies _ ["_law_low","_law_value","_law_high"]:=⟨PySem.W.mg_of X G aLies,FLies.kp,dc⟩;have R:Gf K mg "_law_told_by_all" fToldByAll _ ["_law_store","_law_deed"]:=⟨PySem.W.mg_of X G aToldByAll,FToldByAll.kp,M⟩;have a7:Gf K mg "_law_answered" fAnswered _ ["_law_store","_law_deed"]:=⟨PySem.W.mg_of X G aAnswered,FAnswered.kp,ai⟩;have b1:Gf K mg "_law_step_by" fStep _ ["_law_seed"]:=⟨PySem.W.mg_of X G aStep,FStep.kp,cr⟩;have E:Gf K mg "_law_raised" fRaised _ ["_law_number","_law_seed"]:=⟨PySem.W.mg_of X G aRaised,FRaised.kp,bq⟩;have A:Gf K mg "_law_ranked" fRanked _ ["_law_rank","_law_seed"]:=⟨PySem.W.mg_of X G aRanked,FRanked.kp,bk⟩;have F:Gf K mg "_law_signed" fSigned _ ["_law_letters","_law_seed"]:=⟨PySem.W.mg_of X G aSigned,FSigned.kp,bb⟩;have ce:Gf K mg "_law_row_moved" fMoved _ ["_law_row","_law_seed"]:=⟨PySem.W.mg_of X G aMoved,FMoved.kp,cf⟩;have c:Gf K mg "_law_moved" fDeedMoved _ ["_law_deed","_law_seed"]:=⟨PySem.W.mg_of X G aDeedMoved,FDeedMoved.kp,Q⟩;have bv:Gf K mg "_law_room_of" fRoomOf _ ["_law_cell"]:=⟨PySem.W.mg_of X G aRoomOf,FRoomOf.kp,bf⟩
 have bd:Gf K mg "_law_copied" fCopied _ ["_law_deeds"]:=⟨PySem.W.mg_of X G aCopied,FCopied.kp,bo⟩;have bs:Gf K mg "both_orders" fdBothO _ ["room","deeds"]:=⟨PySem.W.mg_of X G adBothO,FdBothO.kp,bi⟩;have c4:Gf K mg "_law_is_row" fIsRow _ ["_law_found"]:=⟨PySem.W.mg_of X G aIsRow,FIsRow.kp,cd⟩;have ao:Gf K mg "_law_are_rows" fAreRows _ ["_law_found"]:=⟨PySem.W.mg_of X G aAreRows,FAreRows.kp,as⟩;have n:Gf K mg "_law_within_begun" fWithinBegun _ ["_law_deeds"]:=⟨PySem.W.mg_of X G aWithinBegun,FWithinBegun.kp,m⟩;have P:Gf K mg "_law_questions" fQuestions _ []:=⟨PySem.W.mg_of X G aQuestions,FQuestions.kp,N⟩;have MO:Mk K CO fInit:=⟨mkCO,aInit,iInit,kcCO⟩;have MS:Mk K CS fSInit:=⟨mkCS,aSInit,iSInit,kcCS⟩;refine⟨dLaw,λs v=> ?_, λbase _ _=> ?_⟩
 ·obtain⟨_,_,_,_,_,_,_,_,_,rfl,_,_⟩:=FLaw.ex
  exact .of_eq rfl
 have e3:FnOk l.prog w K mg base _ _ _ _ _ _:=q_r FCW T;have dn:FnOk l.prog w K mg base _ _ _ _ _ _:=p_P FCW T eO;have b3:FnOk l.prog w K mg base _ _ _ _ _ _:=m_H FLead T;have i:FnOk l.prog w K mg base _ _ _ _ _ _:=p_F FKey T b9 b3;have di:FnOk l.prog w K mg base _ _ _ _ _ _:=q_o FRA T f i;have b7:FnOk l.prog w K mg base _ _ _ _ _ _:=q_S FBA T f i;have ca:FnOk l.prog w K mg base _ _ _ _ _ _:=l_G FSplit T;have cy:FnOk l.prog w K mg base _ _ _ _ _ _:=m_4 FTake T f i mBA b7 mRA di mSplit ca;have d4:FnOk l.prog w K mg base _ _ _ _ _ _:=m_7 FJoin T;have dp:FnOk l.prog w K mg base _ _ _ _ _ _:=p_r FLet T f i mBA b7 mJoin d4;have c7:FnOk l.prog w K mg base _ _ _ _ _ _:=l_Z FAhead T f i mBA b7 mRA di;have b4:FnOk l.prog w K mg base _ _ _ _ _ _:=m_2 FBetw T b9 b3 mBA b7;have cv:FnOk l.prog w K mg base _ _ _ _ _ _:=o_d FInit T dh e3;have b5:FnOk l.prog w K mg base _ _ _ _ _ _:=n_U FSExch T TS mTake cy mLet dp;have g:FnOk l.prog w K mg base _ _ _ _ _ _:=k_j FSChange T TS mSExch b5;have d:FnOk l.prog w K mg base _ _ _ _ _ _:=l_s FSRowOf TS ex;have bz:FnOk l.prog w K mg base _ _ _ _ _ _:=o_X FSEnd T TS ex;have cl:FnOk l.prog w K mg base _ _ _ _ _ _:=l_v FSBring T TS ex mSChange g;have c3:FnOk l.prog w K mg base _ _ _ _ _ _:=k_7 FSAlter TS mSChange g mSRowOf d;have dm:FnOk l.prog w K mg base _ _ _ _ _ _:=p_H FSCut TS mSChange g mSRowOf d;have ad:FnOk l.prog w K mg base _ _ _ _ _ _:=l_u FSBegin T TS;have b8:FnOk l.prog w K mg base _ _ _ _ _ _:=n_4 FSKeep T TS mSEnd bz;have af:FnOk l.prog w K mg base _ _ _ _ _ _:=l_3 FSBreak T TS mSEnd bz mSExch b5;have bx:FnOk l.prog w K mg base _ _ _ _ _ _:=l_f FSInit T TS MO d8 cv;have b:FnOk l.prog w K mg base _ _ _ _ _ _:=i_I FqOrderOf T TS dh dn;have bm:FnOk l.prog w K mg base _ _ _ _ _ _:=j_A FqWithin T a b mBetw b4;have d2:FnOk l.prog w K mg base _ _ _ _ _ _:=o_l FqSpot T TS a b mAhead c7 mSRowOf d;have cx:FnOk l.prog w K mg base _ _ _ _ _ _:=o_n FqFrom T dt a b;have an:FnOk l.prog w K mg base _ _ _ _ _ _:=i_y FqRankKey T f i;have d6:FnOk l.prog w K mg base _ _ _ _ _ _:=m_Y FqText T TS bg mBetw b4 ab an;have e5:FnOk l.prog w K mg base _ _ _ _ _ _:=p_6 FdDo TS mSBring cl mSAlter c3 mSCut dm mSBegin ad mSKeep b8 mSBreak af;have dl:FnOk l.prog w K mg base _ _ _ _ _ _:=n_T FdAsk TS mSRowOf d aw bm cb d6 c6 cx cc d2;have cj:FnOk l.prog w K mg base _ _ _ _ _ _:=p_k FdOne TD ex eO xm d5 dl dr e5;have co:FnOk l.prog w K mg base _ _ _ _ _ _:=o_g FdAll TS TD b2 cj mSBegin ad mSKeep b8 mSBreak af;have KOf:FnOk l.prog w K mg base _ _ _ _ _ _:=q_I FdAnsOf d0 co b2 cj;have dk:FnOk l.prog w K mg base _ _ _ _ _ _:=q_E FdAnsIn bu KOf;have au:FnOk l.prog w K mg base _ _ _ _ _ _:=i_T FdAnswers TS MS a3 bx C dk;have Y:FnOk l.prog w K mg base _ _ _ _ _ _:=l_B FWhole B;have dg:FnOk l.prog w K mg base _ _ _ _ _ _:=p_A FAt B;have du:FnOk l.prog w K mg base _ _ _ _ _ _:=o_8 dg;have df:FnOk l.prog w K mg base _ _ _ _ _ _:=n_g FSame B ak Y;have a2:FnOk l.prog w K mg base _ _ _ _ _ _:=l_R FTexts;have a4:FnOk l.prog w K mg base _ _ _ _ _ _:=l_4 FDrawn a5 a2
 have S:FnOk l.prog w K mg base _ _ _ _ _ _:=o_x FFar B;have b6:FnOk l.prog w K mg base _ _ _ _ _ _:=m_5 FStep B;have L:FnOk l.prog w K mg base _ _ _ _ _ _:=i_4 FRaised B b1 b6;have y:FnOk l.prog w K mg base _ _ _ _ _ _:=j_8 FRanked B b1 b6;have x:FnOk l.prog w K mg base _ _ _ _ _ _:=j_J FSigned B nb;have c0:FnOk l.prog w K mg base _ _ _ _ _ _:=l_h FMoved E L A y F x;have aj:FnOk l.prog w K mg base _ _ _ _ _ _:=h_h FChangeOf O S U a4;have p:FnOk l.prog w K mg base _ _ _ _ _ _:=f_m FQuestionOf O S a5 a2;have a0:FnOk l.prog w K mg base _ _ _ _ _ _:=h_n FBringsOf B dj du O S U a4;have ap:FnOk l.prog w K mg base _ _ _ _ _ _:=i_M FDeedsOf B ag aj r p;have br:FnOk l.prog w K mg base _ _ _ _ _ _:=k_g FRoomOf;have bt:FnOk l.prog w K mg base _ _ _ _ _ _:=j_X FCopied B;have e4:FnOk l.prog w K mg base _ _ _ _ _ _:=q_J FDeedMoved c E L A y F x ce c0;have k:FnOk l.prog w K mg base _ _ _ _ _ _:=i_p FChanged B;have u:FnOk l.prog w K mg base _ _ _ _ _ _:=f_B FAllChanged B j k;have a1:FnOk l.prog w K mg base _ _ _ _ _ _:=g_4 FNewStore;have cp:FnOk l.prog w K mg base _ _ _ _ _ _:=n_X FLies;have I:FnOk l.prog w K mg base _ _ _ _ _ _:=j_a FRowsBy B;have d9:FnOk l.prog w K mg base _ _ _ _ _ _:=n_D FToldByAll B J I da cp;have ah:FnOk l.prog w K mg base _ _ _ _ _ _:=h_x FAnswered B j k q u R d9;have cq:FnOk l.prog w K mg base _ _ _ _ _ _:=n_E FRows T;have c5:FnOk l.prog w K mg base _ _ _ _ _ _:=k_6 FdBothO T TS MS a3 bx C dk mRows cq;have ch:FnOk l.prog w K mg base _ _ _ _ _ _:=k_Y FIsRow B ak Y;have ay:FnOk l.prog w K mg base _ _ _ _ _ _:=i_x FAreRows B c4 ch;have e1:FnOk l.prog w K mg base _ _ _ _ _ _:=p_8 FWithinBegun B;have e6:FnOk l.prog w K mg base _ _ _ _ _ _:=q_m FQuestions B O S;exact p_b FLaw B dj dg bv br a9 a0 ar ap c e4 bd bt aa au bs c5 d7 df a8 a1 a7 ah J I n e1 ao ay P e6
theorem r_z {l:PySem.W.OpenLaw} {q:Program} {loose:List Str} {XP:(Str->Option Value)->Heap->Prop} {YP:World->Heap->Prop} {d:DefRec} {K:Params->PySem.W.Frag} (hn:l.most=some 63) (hdf:d.params.defaults= [])
 (hY:∀(w:World) (h:Heap),YP w h->(K w.params).In h)
 (F:∀(w:World) (mg:Str→Option Value) (fa:Addr) (h:Heap),(K w.params).In h→h.Ns mainGlobals mg→mg d.name=some (.ref fa)→
   ∃fd:FuncData,(∀(s:Shared) (u:Value),BindsTo s fd ⟨[u], []⟩ [("_law_script",u)])/\∀base:Heap,(K w.params).In base->base.Ns mainGlobals mg->FnOk l.prog w (K w.params) mg base CX0 14 fa fd ["_law_script"] (l_V (K w.params))):
 PySem.W.WalkO q loose XP YP l.row.toRowW d [] (λf vs=>PySem.call f vs):=
 L2.n_H (n:=63) (k:=14) (x:="_law_script") (CX:=λ_=>CX0) (sp:=λw=>l_V (K w.params)) hn (by decide) hdf ⟨rfl,by decide,by decide⟩ hY F (λ_ _ a ns b _ c=>⟨a,ns,rfl,c,b,λ_=>rfl⟩) λ_ _ _ _ _ z=>z
end K1
namespace PySem.W.Fast
def tw2540656403646585881:=True
def tw13884308320286225258:=True
def tw16771478915666543489:=True
def tw2934691304337734103:=True
def tw8562269911748256364:=True
def tw4712667940237538799:=True
def tw6580070859978273020:=True
def tw1242245394940427604:=True
def tw5379783514298158350:=True
def tw16108762539354322651:=True
def tw14270531308945503177:=True
def tw17845885808505153140:=True
def tw1929570205351189826:=True
def tw5146463063665444316:=True
def tw12815446974073872616:=True
def tw12005888985932145229:=True
def tw14147170487740740318:=True
def tw11220077112098371016:=True
def tw12566691142813507747:=True
def tw1973833230348375059:=True
def tw17063648441745609643:=True
def tw17614711137732040865:=True
def tw1354591998311042840:=True
def tw2830869071796610145:=True
def tw14625369905057802389:=True
def tw10520651889704237228:=True
def tw15439429284018148004:=True
def tw13356237360646494778:=True
def tw2504965661741102908:=True
def tw6488363122999754148:=True
def tw8224553600307824086:=True
def tw12200711816284065325:=True
def tw7954821515117629854:=True
def tw12545737612689642942:=True
def tw8034035702305999142:=True
def tw16427398070723802493:=True
def tw14963195166382542131:=True
def tw3454344237187997504:=True
def tw9258865928132835173:=True
def tw16084645173293293261:=True
def tw16837833752600789848:=True
def tw1038049253934488859:=True
def tw16857088438933506530:=True
def tw5142499065531620447:=True
def tw9485472310323043983:=True
def tw4642339867913858974:=True
def tw17877496021650247179:=True
def tw1726133359302656647:=True
def tw1100975944704814077:=True
def tw8569747650573277175:=True
def tw9544399033434337653:=True
def tw18056155473690456664:=True
def tw17667184477496292566:=True
def tw12601795474984348366:=True
def tw16896613717417809419:=True
def tw1487853227802329644:=True
def tw18056051684748984074:=True
def tw17322272785007636551:=True
def tw6741772750261382910:=True
def tw13042077637618674329:=True
def tw4419677715240128868:=True
def tw4341934522919975935:=True
def tw1488495564717322111:=True
def tw4225728479928304132:=True
def tw13045765781088574985:=True
def tw7486374635929720276:=True
def tw12757291712529942552:=True
def tw16426548980349460212:=True
def tw2802382999973506211:=True
def tw14214580226638649087:=True
def tw14542402347733467080:=True
def tw3097487151030547142:=True
def tw5847080038516343965:=True
def tw16804949699320467213:=True
def tw10992002323962236225:=True
def tw2265160644854686074:=True
def tw16862020465495723367:=True
def tw10335672988728993523:=True
def tw13582196593662286026:=True
def tw4432056451721635335:=True
def tw9587578455480645465:=True
def tw3837609811603599082:=True
def tw6443300551614865973:=True
def tw13491089387012454653:=True
def tw2302300071119709548:=True
def tw11505674927081504063:=True
def tw6736096212085425567:=True
def tw8602662296594784406:=True
def tw14880317843551467945:=True
def tw16797807615637600989:=True
def tw8255915946584690064:=True
def tw5523447585089191443:=True
def tw8126203840146941686:=True
def tw15598261009562164710:=True
def tw17289274238345754192:=True
def tw7607188846778093729:=True
def tw11173716663804307594:=True
def tw8461437266176376013:=True
def tw8899755056928671590:=True
def tw3695365074315646085:=True
def tw13479456461827425660:=True
def tw5744876621768322231:=True
def tw14653240757589699625:=True
def tw6662558029716080659:=True
def tw16064290025469240352:=True
def tw14521598986664977191:=True
def tw14335230985316570060:=True
def tw18073714619253854198:=True
def tw9185533448979156716:=True
def tw17528205676128180345:=True
def tw13097462590149383076:=True
def tw9367554997265570546:=True
def tw18421765059021476409:=True
def tw9252253161401462697:=True
def tw15895326492740278007:=True
def tw15373467948994865555:=True
def tw6098906109238034873:=True
def tw2336296372052318284:=True
def tw14563588044884058204:=True
def tw6137662721432631509:=True
def tw9629256694292095440:=True
def tw17924597536393333203:=True
def tw4983914959646932343:=True
def tw17384614942532417614:=True
def tw9423530704431929889:=True
def tw4989418087361340558:=True
def tw17902092623102383663:=True
def tw12196624892835919124:=True
def tw4763439808544024026:=True
def tw5427336059326526066:=True
def tw9582426698459291686:=True
def tw12134699103360823182:=True
def tw10477318287661868842:=True
def tw12165183509564175536:=True
def tw8794952202839710591:=True
def tw6883258126176950189:=True
def tw5452433607505091592:=True
def tw835415312094438412:=True
def tw17814724620372099823:=True
def tw204898147029974697:=True
def tw15455590873427996475:=True
def tw5515537221534744814:=True
def tw13888259532250827071:=True
def tw6640882501418021637:=True
def tw4013560379798663448:=True
def tw10517811109462743827:=True
def tw17280184719067699921:=True
def tw4307008416095031866:=True
def tw11162195857006794922:=True
def tw1890270776807226714:=True
def tw13597116657841113593:=True
def tw8770449322621979741:=True
def tw17113197488029618402:=True
def tw4839733781371950228:=True
def tw17745744690922355385:=True
def tw11675802730015942211:=True
def tw15413261024049421805:=True
def tw1183969397749258510:=True
def tw17884489838376725410:=True
def tw6630737389934706039:=True
def tw3093192178230906440:=True
def tw2481033022846462392:=True
def tw17252665322976286860:=True
def tw16612945950934112780:=True
def tw14413462802344705997:=True
def tw495305303579245015:=True
def tw4531719171043986763:=True
def tw17769945405080301333:=True
def tw16892903599365566636:=True
def tw17340060923484750393:=True
def tw11582811792903059219:=True
def tw1821789546134980593:=True
def tw13352251547431764777:=True
def tw2393910911564977393:=True
def tw395547745900662207:=True
def tw17526981895605476447:=True
def tw10651407746443810576:=True
def tw10997995802603355724:=True
def tw9113929543178347259:=True
def tw12914870217024779239:=True
def tw1805058801538928558:=True
def tw14922343146091321662:=True
def tw7121843000321430484:=True
def tw15806143880710359122:=True
def tw15544065446512562645:=True
def tw17386734521901551180:=True
def tw13329343903121292570:=True
def tw10620992796046262358:=True
def tw18382997460416736605:=True
def tw9767697747191867641:=True
def tw2802255791077231417:=True
def tw17220831185185346278:=True
def tw15602117712910506586:=True
def tw12543199176122587046:=True
def tw17344106123941051718:=True
def tw625843069782767673:=True
def tw17743521563189457930:=True
def tw1043458856455184820:=True
def tw16665630099758726779:=True
def tw9352817076907828639:=True
def tw15815646409909912843:=True
def tw1282114608920692303:=True
def tw16998780967640683359:=True
def tw9576634353138794558:=True
def tw10591295361231501734:=True
def tw17045875942096959465:=True
def tw6990472298158995875:=True
def tw18041603200987483706:=True
def tw8837672024785128839:=True
def tw13899739465491186378:=True
def tw17539547234042460660:=True
def tw7559883116743293785:=True
def tw9966730336956672159:=True
def tw17138342350311867423:=True
def tw12620821113537930462:=True
def tw13601370183402189395:=True
def tw8511426478718880889:=True
def tw14716808746985201760:=True
def tw4114799873748872080:=True
def tw6569101599088546262:=True
def tw380913578729693056:=True
def tw1817590898413243290:=True
def tw10698346435345469625:=True
def tw9773251595320152538:=True
def tw10343621496404226682:=True
def tw1033595965367077375:=True
def tw3085979963553878285:=True
def tw13187201971168759459:=True
def tw13704379269675458928:=True
def tw17611427056417595789:=True
def tw14574465594622320084:=True
def tw11690739501788229996:=True
def tw9853054504920439890:=True
def tw10574511741818115819:=True
def tw3122098564144961841:=True
def tw17999808039062806574:=True
def tw11128823909221034939:=True
def tw5419866419544114997:=True
def tw12985450622405733883:=True
def tw9149899942140480726:=True
def tw6540454816432129514:=True
def tw10576586501079545743:=True
def tw10615356865445999916:=True
def tw9937869330208966305:=True
def tw1767198595184778417:=True
def tw9924288652471102193:=True
def tw6642549352706949170:=True
def tw1138925837620295244:=True
def tw539133787186609191:=True
def tw5859296678450153401:=True
def tw16805184570082875222:=True
def tw1201590707410598701:=True
def tw4149898104492480375:=True
def tw12907725570436218640:=True
def tw1176832907109720848:=True
def tw11575212434016684033:=True
def tw7215425087350258494:=True
def tw10458136630677840444:=True
def tw4135832257326803618:=True
def tw11305563066038899562:=True
def tw9596077150171823695:=True
def tw8331242153635337837:=True
def tw5579013699950417:=True
def tw14693651646033368307:=True
def tw928086139305401680:=True
def tw8768429206308682129:=True
def tw7265427832920071400:=True
def tw15597857032832595575:=True
def tw10157459877086999219:=True
def tw18388194665211079672:=True
def tw1698191451181723131:=True
def tw13613499952549467696:=True
def tw5288040771940945028:=True
def tw17355165969750654470:=True
def tw1511326206379139092:=True
def tw1033418401497927808:=True
def tw9220645095935249685:=True
def tw8208128666150345577:=True
def tw11695855682197168016:=True
def tw14259869398028425711:=True
def tw17808963979429178212:=True
def tw7853824048949758090:=True
def tw9513074850716016631:=True
def tw738869804098522675:=True
def tw14248616143511944388:=True
def tw199724911200964965:=True
def tw13540344955105699668:=True
def tw2326043882705403618:=True
def tw6136945580186431004:=True
def tw14572024835885952237:=True
def tw5903601271103249485:=True
def tw16708394114860670253:=True
def tw840839134761432506:=True
def tw1772839955817328877:=True
def tw10094825344241792042:=True
def tw5100514542882904457:=True
def tw2063972900557846807:=True
def tw1547537332001530766:=True
def tw14400297395892592733:=True
def tw10243574426369787733:=True
def tw18424872124245074822:=True
def tw2764949658822259628:=True
def tw4720241546938100898:=True
def tw16020290373949161925:=True
def tw15661603378467186353:=True
def tw14064944545641761523:=True
def tw10072485305556622995:=True
def tw5044054336670950202:=True
def tw3911605473878314691:=True
def tw15522525785255794826:=True
def tw11446790755224619533:=True
def tw10342054420877323676:=True
def tw6998551277882250210:=True
def tw3356349534703624022:=True
def tw16071496421932333424:=True
def tw4270526842577563607:=True
def tw10065249591987697889:=True
def tw4946775591915615671:=True
def tw7246788763607495185:=True
def tw7373088580519611938:=True
def tw11418200018800518611:=True
def tw17098155005161796506:=True
def tw8838401177461201630:=True
def tw13477348428087720843:=True
def tw8369962801986559849:=True
def tw16311539567757739318:=True
def tw13435232589615883172:=True
def tw16234979919427448211:=True
def tw1035578301769538221:=True
def tw15447276831501479316:=True
def tw6574371490701596813:=True
def tw17116692779323923417:=True
def tw15753380856725562334:=True
def tw16309743792281902621:=True
def tw14012250178861772440:=True
def tw9533997487212128201:=True
def tw5575598766425707440:=True
def tw18206423829449162666:=True
def tw1269443061305178745:=True
def tw7119398728522972193:=True
def tw628224296011114030:=True
def tw6122264146247354559:=True
def tw2078892749452241576:=True
def tw2028425989077422135:=True
def tw18248331803821189180:=True
def tw13017773559161375698:=True
def tw9232732015352374655:=True
def tw5956803631114927306:=True
def tw4954708280017769849:=True
def tw1754876210167930433:=True
def tw15103179778147692675:=True
def tw1297273437623458567:=True
def tw12738875954080031282:=True
def tw10364045686424776353:=True
end PySem.W.Fast
open PySem PySem.W PyProof.Rows
set_option maxRecDepth 100000 in
set_option maxHeartbeats 0 in
theorem PySem.Challenge.cw_twoorders_k05_whole_broken_off_holds : PySem.Challenge.rw_twoorders_k05_whole_broken_off.Holds := by
 w_on;o_law;k_head;(case hw=>w_witness2)
 k_fill
 refine K1.r_z (l:=PySem.Challenge.rw_twoorders_k05_whole_broken_off) rfl rfl (λw h Y=>PySem.W.kIn_of Y) ?F
 case F=>
  intro w mg fa h b G a
  refine' K1.o_T b G a ?aCO ?aCS ?aInit ?iInit ?FInit ?aTake ?iTake ?FTake ?aLet ?iLet ?FLet ?aAhead ?iAhead ?FAhead ?aBetw ?iBetw ?FBetw ?aBA ?iBA ?FBA ?aRA ?iRA ?FRA ?aSplit ?iSplit ?FSplit ?aJoin ?iJoin ?FJoin ?aRows ?iRows ?FRows ?aSInit ?iSInit ?FSInit ?aSBring ?iSBring ?FSBring ?aSAlter ?iSAlter ?FSAlter ?aSCut ?iSCut ?FSCut ?aSBegin ?iSBegin ?FSBegin ?aSKeep ?iSKeep ?FSKeep ?aSBreak ?iSBreak ?FSBreak ?aSRowOf ?iSRowOf ?FSRowOf ?aSEnd ?iSEnd ?FSEnd ?aSChange ?iSChange ?FSChange ?aSExch ?iSExch ?FSExch ?aCW ?FCW ?aLead ?FLead ?aKey ?FKey ?aqOrderOf ?FqOrderOf ?aqWithin ?FqWithin ?aqText ?FqText ?aqRankKey ?FqRankKey ?aqFrom ?FqFrom ?aqSpot ?FqSpot ?adAnswers ?FdAnswers ?adAnsIn ?FdAnsIn ?adAnsOf ?FdAnsOf ?adAll ?FdAll ?adOne ?FdOne ?adDo ?FdDo ?adAsk ?FdAsk ?aWhole ?FWhole ?aAt ?FAt ?aSame ?FSame ?aTexts ?FTexts ?aDrawn ?FDrawn ?aFar ?FFar ?aChangeOf ?FChangeOf ?aQuestionOf ?FQuestionOf ?aBringsOf ?FBringsOf ?aDeedsOf ?FDeedsOf ?aNewStore ?FNewStore ?aRowsBy ?FRowsBy ?aChanged ?FChanged ?aAllChanged ?FAllChanged ?aLies ?FLies ?aToldByAll ?FToldByAll ?aAnswered ?FAnswered ?aStep ?FStep ?aRaised ?FRaised ?aRanked ?FRanked ?aSigned ?FSigned ?aMoved ?FMoved ?aDeedMoved ?FDeedMoved ?aRoomOf ?FRoomOf ?aCopied ?FCopied ?adBothO ?FdBothO ?aIsRow ?FIsRow ?aAreRows ?FAreRows ?aWithinBegun ?FWithinBegun ?aQuestions ?FQuestions ?aLaw ?FLaw ?pgCO ?hdCO ?poCO ?saCO ?mkCO ?kcCO ?pgCS ?hdCS ?poCS ?saCS ?mkCS ?kcCS ?nCO_word ?nCO_blocks ?nCO_bring ?nCS_room ?nCS_by_number ?nCS_by_rank ?nCS_by_text ?nCS_steps ?nCS_marks ?q1 ?q2 ?q3 ?q4 ?q5 ?qQ ?lQ ?aCT ?xCT ?aCF ?xCF ?aCM ?xCM ?aCN ?xCN ?aCNo ?xCNo ?ett ?emt ?emm ?eft ?efm ?eff ?ent ?enm ?enf ?enn ?eot ?eom ?eof ?eon ?eoo ?zlen ?zmin ?zsum ?zisinstance ?zint ?zbool ?zlist ?ztuple ?zstr ?zsorted ?zrange ?zmax ?nb
  (case aCO=>k_is);(case aCS=>k_is);(case aInit=>k_is);(case iInit=>k_is);(case FInit=>refine' L2.a_A ?l ?c ?k;(case l=>k_is);(case c=>k_is);(case k=>k_is));(case aTake=>k_is)
  (case iTake=>k_is);(case FTake=>refine' L2.a_A ?l ?c ?k;(case l=>k_is);(case c=>k_is);(case k=>k_is));(case aLet=>k_is);(case iLet=>k_is);(case FLet=>refine' L2.a_A ?l ?c ?k;(case l=>k_is);(case c=>k_is);(case k=>k_is));(case aAhead=>k_is)
  (case iAhead=>k_is);(case FAhead=>refine' L2.a_A ?l ?c ?k;(case l=>k_is);(case c=>k_is);(case k=>k_is));(case aBetw=>k_is);(case iBetw=>k_is);(case FBetw=>refine' L2.a_A ?l ?c ?k;(case l=>k_is);(case c=>k_is);(case k=>k_is));(case aBA=>k_is)
  (case iBA=>k_is);(case FBA=>refine' L2.a_A ?l ?c ?k;(case l=>k_is);(case c=>k_is);(case k=>k_is));(case aRA=>k_is);(case iRA=>k_is);(case FRA=>refine' L2.a_A ?l ?c ?k;(case l=>k_is);(case c=>k_is);(case k=>k_is));(case aSplit=>k_is)
  (case iSplit=>k_is);(case FSplit=>refine' L2.a_A ?l ?c ?k;(case l=>k_is);(case c=>k_is);(case k=>k_is));(case aJoin=>k_is);(case iJoin=>k_is);(case FJoin=>refine' L2.a_A ?l ?c ?k;(case l=>k_is);(case c=>k_is);(case k=>k_is));(case aRows=>k_is)
  (case iRows=>k_is);(case FRows=>refine' L2.a_A ?l ?c ?k;(case l=>k_is);(case c=>k_is);(case k=>k_is));(case aSInit=>k_is);(case iSInit=>k_is);(case FSInit=>refine' L2.a_A ?l ?c ?k;(case l=>k_is);(case c=>k_is);(case k=>k_is));(case aSBring=>k_is)
  (case iSBring=>k_is);(case FSBring=>refine' L2.a_A ?l ?c ?k;(case l=>k_is);(case c=>k_is);(case k=>k_is));(case aSAlter=>k_is);(case iSAlter=>k_is);(case FSAlter=>refine' L2.a_A ?l ?c ?k;(case l=>k_is);(case c=>k_is);(case k=>k_is));(case aSCut=>k_is)
  (case iSCut=>k_is);(case FSCut=>refine' L2.a_A ?l ?c ?k;(case l=>k_is);(case c=>k_is);(case k=>k_is));(case aSBegin=>k_is);(case iSBegin=>k_is);(case FSBegin=>refine' L2.a_A ?l ?c ?k;(case l=>k_is);(case c=>k_is);(case k=>k_is));(case aSKeep=>k_is)
  (case iSKeep=>k_is);(case FSKeep=>refine' L2.a_A ?l ?c ?k;(case l=>k_is);(case c=>k_is);(case k=>k_is));(case aSBreak=>k_is);(case iSBreak=>k_is);(case FSBreak=>refine' L2.a_A ?l ?c ?k;(case l=>k_is);(case c=>k_is);(case k=>k_is));(case aSRowOf=>k_is)
  (case iSRowOf=>k_is);(case FSRowOf=>refine' L2.a_A ?l ?c ?k;(case l=>k_is);(case c=>k_is);(case k=>k_is));(case aSEnd=>k_is);(case iSEnd=>k_is);(case FSEnd=>refine' L2.a_A ?l ?c ?k;(case l=>k_is);(case c=>k_is);(case k=>k_is));(case aSChange=>k_is)
  (case iSChange=>k_is);(case FSChange=>refine' L2.a_A ?l ?c ?k;(case l=>k_is);(case c=>k_is);(case k=>k_is));(case aSExch=>k_is);(case iSExch=>k_is);(case FSExch=>refine' L2.a_A ?l ?c ?k;(case l=>k_is);(case c=>k_is);(case k=>k_is));(case aCW=>k_is)
  (case FCW=>refine' L2.a_A ?l ?c ?k;(case l=>k_is);(case c=>k_is);(case k=>k_is));(case aLead=>k_is);(case FLead=>refine' L2.a_A ?l ?c ?k;(case l=>k_is);(case c=>k_is);(case k=>k_is));(case aKey=>k_is);(case FKey=>refine' L2.a_A ?l ?c ?k;(case l=>k_is);(case c=>k_is);(case k=>k_is));(case aqOrderOf=>k_is)
  (case FqOrderOf=>refine' L2.a_A ?l ?c ?k;(case l=>k_is);(case c=>k_is);(case k=>k_is));(case aqWithin=>k_is);(case FqWithin=>refine' L2.a_A ?l ?c ?k;(case l=>k_is);(case c=>k_is);(case k=>k_is));(case aqText=>k_is);(case FqText=>refine' L2.a_A ?l ?c ?k;(case l=>k_is);(case c=>k_is);(case k=>k_is));(case aqRankKey=>k_is)
  (case FqRankKey=>refine' L2.a_A ?l ?c ?k;(case l=>k_is);(case c=>k_is);(case k=>k_is));(case aqFrom=>k_is);(case FqFrom=>refine' L2.a_A ?l ?c ?k;(case l=>k_is);(case c=>k_is);(case k=>k_is));(case aqSpot=>k_is);(case FqSpot=>refine' L2.a_A ?l ?c ?k;(case l=>k_is);(case c=>k_is);(case k=>k_is));(case adAnswers=>k_is)
  (case FdAnswers=>refine' L2.a_A ?l ?c ?k;(case l=>k_is);(case c=>k_is);(case k=>k_is));(case adAnsIn=>k_is);(case FdAnsIn=>refine' L2.a_A ?l ?c ?k;(case l=>k_is);(case c=>k_is);(case k=>k_is));(case adAnsOf=>k_is);(case FdAnsOf=>refine' L2.a_A ?l ?c ?k;(case l=>k_is);(case c=>k_is);(case k=>k_is));(case adAll=>k_is)
  (case FdAll=>refine' L2.a_A ?l ?c ?k;(case l=>k_is);(case c=>k_is);(case k=>k_is));(case adOne=>k_is);(case FdOne=>refine' L2.a_A ?l ?c ?k;(case l=>k_is);(case c=>k_is);(case k=>k_is));(case adDo=>k_is);(case FdDo=>refine' L2.a_A ?l ?c ?k;(case l=>k_is);(case c=>k_is);(case k=>k_is));(case adAsk=>k_is)
  (case FdAsk=>refine' L2.a_A ?l ?c ?k;(case l=>k_is);(case c=>k_is);(case k=>k_is));(case aWhole=>k_is);(case FWhole=>refine' L2.a_A ?l ?c ?k;(case l=>k_is);(case c=>k_is);(case k=>k_is));(case aAt=>k_is);(case FAt=>refine' L2.a_A ?l ?c ?k;(case l=>k_is);(case c=>k_is);(case k=>k_is));(case aSame=>k_is)
  (case FSame=>refine' L2.a_A ?l ?c ?k;(case l=>k_is);(case c=>k_is);(case k=>k_is));(case aTexts=>k_is);(case FTexts=>refine' L2.a_A ?l ?c ?k;(case l=>k_is);(case c=>k_is);(case k=>k_is));(case aDrawn=>k_is);(case FDrawn=>refine' L2.a_A ?l ?c ?k;(case l=>k_is);(case c=>k_is);(case k=>k_is));(case aFar=>k_is)
  (case FFar=>refine' L2.a_A ?l ?c ?k;(case l=>k_is);(case c=>k_is);(case k=>k_is));(case aChangeOf=>k_is);(case FChangeOf=>refine' L2.a_A ?l ?c ?k;(case l=>k_is);(case c=>k_is);(case k=>k_is));(case aQuestionOf=>k_is);(case FQuestionOf=>refine' L2.a_A ?l ?c ?k;(case l=>k_is);(case c=>k_is);(case k=>k_is));(case aBringsOf=>k_is)
  (case FBringsOf=>refine' L2.a_A ?l ?c ?k;(case l=>k_is);(case c=>k_is);(case k=>k_is));(case aDeedsOf=>k_is);(case FDeedsOf=>refine' L2.a_A ?l ?c ?k;(case l=>k_is);(case c=>k_is);(case k=>k_is));(case aNewStore=>k_is);(case FNewStore=>refine' L2.a_A ?l ?c ?k;(case l=>k_is);(case c=>k_is);(case k=>k_is));(case aRowsBy=>k_is)
  (case FRowsBy=>refine' L2.a_A ?l ?c ?k;(case l=>k_is);(case c=>k_is);(case k=>k_is));(case aChanged=>k_is);(case FChanged=>refine' L2.a_A ?l ?c ?k;(case l=>k_is);(case c=>k_is);(case k=>k_is));(case aAllChanged=>k_is);(case FAllChanged=>refine' L2.a_A ?l ?c ?k;(case l=>k_is);(case c=>k_is);(case k=>k_is));(case aLies=>k_is)
  (case FLies=>refine' L2.a_A ?l ?c ?k;(case l=>k_is);(case c=>k_is);(case k=>k_is));(case aToldByAll=>k_is);(case FToldByAll=>refine' L2.a_A ?l ?c ?k;(case l=>k_is);(case c=>k_is);(case k=>k_is));(case aAnswered=>k_is);(case FAnswered=>refine' L2.a_A ?l ?c ?k;(case l=>k_is);(case c=>k_is);(case k=>k_is));(case aStep=>k_is)
  (case FStep=>refine' L2.a_A ?l ?c ?k;(case l=>k_is);(case c=>k_is);(case k=>k_is));(case aRaised=>k_is);(case FRaised=>refine' L2.a_A ?l ?c ?k;(case l=>k_is);(case c=>k_is);(case k=>k_is));(case aRanked=>k_is);(case FRanked=>refine' L2.a_A ?l ?c ?k;(case l=>k_is);(case c=>k_is);(case k=>k_is));(case aSigned=>k_is)
  (case FSigned=>refine' L2.a_A ?l ?c ?k;(case l=>k_is);(case c=>k_is);(case k=>k_is));(case aMoved=>k_is);(case FMoved=>refine' L2.a_A ?l ?c ?k;(case l=>k_is);(case c=>k_is);(case k=>k_is));(case aDeedMoved=>k_is);(case FDeedMoved=>refine' L2.a_A ?l ?c ?k;(case l=>k_is);(case c=>k_is);(case k=>k_is));(case aRoomOf=>k_is)
  (case FRoomOf=>refine' L2.a_A ?l ?c ?k;(case l=>k_is);(case c=>k_is);(case k=>k_is));(case aCopied=>k_is);(case FCopied=>refine' L2.a_A ?l ?c ?k;(case l=>k_is);(case c=>k_is);(case k=>k_is));(case adBothO=>k_is);(case FdBothO=>refine' L2.a_A ?l ?c ?k;(case l=>k_is);(case c=>k_is);(case k=>k_is));(case aIsRow=>k_is)
  (case FIsRow=>refine' L2.a_A ?l ?c ?k;(case l=>k_is);(case c=>k_is);(case k=>k_is));(case aAreRows=>k_is);(case FAreRows=>refine' L2.a_A ?l ?c ?k;(case l=>k_is);(case c=>k_is);(case k=>k_is));(case aWithinBegun=>k_is);(case FWithinBegun=>refine' L2.a_A ?l ?c ?k;(case l=>k_is);(case c=>k_is);(case k=>k_is));(case aQuestions=>k_is)
  (case FQuestions=>refine' L2.a_A ?l ?c ?k;(case l=>k_is);(case c=>k_is);(case k=>k_is));(case aLaw=>k_is);(case FLaw=>refine' L2.a_A ?l ?c ?k;(case l=>k_is);(case c=>k_is);(case k=>k_is));(case pgCO=>k_is);(case hdCO=>k_is);(case poCO=>k_is)
  (case saCO=>k_is);(case mkCO=>k_is);(case kcCO=>k_is);(case pgCS=>k_is);(case hdCS=>k_is);(case poCS=>k_is)
  (case saCS=>k_is);(case mkCS=>k_is);(case kcCS=>k_is);(case nCO_word=>k_is);(case nCO_blocks=>k_is);(case nCO_bring=>k_is)
  (case nCS_room=>k_is);(case nCS_by_number=>k_is);(case nCS_by_rank=>k_is);(case nCS_by_text=>k_is);(case nCS_steps=>k_is);(case nCS_marks=>k_is)
  (case q1=>k_is);(case q2=>k_is);(case q3=>k_is);(case q4=>k_is);(case q5=>k_is);(case qQ=>k_is)
  (case lQ=>k_is);(case aCT=>k_is);(case xCT=>k_exc);(case aCF=>k_is);(case xCF=>k_exc);(case aCM=>k_is)
  (case xCM=>k_exc);(case aCN=>k_is);(case xCN=>k_exc);(case aCNo=>k_is);(case xCNo=>k_exc);(case ett=>kts_exm)
  (case emt=>kts_exm);(case emm=>kts_exm);(case eft=>kts_exm);(case efm=>kts_exm);(case eff=>kts_exm);(case ent=>kts_exm)
  (case enm=>kts_exm);(case enf=>kts_exm);(case enn=>kts_exm);(case eot=>kts_exm);(case eom=>kts_exm);(case eof=>kts_exm)
  (case eon=>kts_exm);(case eoo=>kts_exm);(case zlen=>k_is);(case zmin=>k_is);(case zsum=>k_is);(case zisinstance=>k_is)
  (case zint=>k_is);(case zbool=>k_is);(case zlist=>k_is);(case ztuple=>k_is);(case zstr=>k_is);(case zsorted=>k_is)
  (case zrange=>k_is);(case zmax=>k_is);(case nb=>k_is)
#print axioms PySem.Challenge.cw_twoorders_k05_whole_broken_off_holds
