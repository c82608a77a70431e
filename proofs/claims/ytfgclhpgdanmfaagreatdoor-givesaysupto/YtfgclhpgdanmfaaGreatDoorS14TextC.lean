import Derived.Test.YtfgclhpgdanmfaaGreatDoorS13TextB
namespace Go.Proofs.YtfgclhpgdanmfaaGreatDoor
set_option linter.defProp false
open Go.RowKit
open Go.Proofs.Tryz
set_option linter.unusedSimpArgs false
set_option linter.unusedVariables false
set_option maxHeartbeats 8000000
set_option maxRecDepth 1000000
variable{B b base cap g k n x:Nat}{w w' w2:Vz}{p u v:Ac}{a:Vx}{C:Vw}{l m:Vu}{xs:Vv}{ty:Vr}{i:AT}
def oj(w:Vz)(b:Nat):Option Nat:=(w.cell? ⟨b,1,none⟩).bind Value.ownBlock
structure Wr (b:Nat) (w w':Vz):Prop where
 size:w.heap.size<=w'.heap.size
 block:∀k,k<w.heap.size->k≠b->oj w b≠some k->w'.heap[k]?=w.heap[k]?
 buf:oj w' b=oj w b∨∃g,w.heap.size<=g/\oj w' b=some g
def Wr.refl(b:Nat)(w:Vz):Wr b w w:=⟨aV _,fun _ _ _ _=>rfl,.inl rfl⟩
def Wr.keep(h:Wr b w w')(hk:k<w.heap.size)(d:oj w b≠some k):oj w' b≠some k:=by
 rcases h.buf with a|⟨g,e,a⟩
 . rw[a];exact d
 . rw[a];intro c;injection c with c;omega
def Wr.trans{u v:Vz}(h:Wr b u v)(k:Wr b v w):Wr b u w:=by
 refine⟨aE h.size k.size,fun i c hb d=>?_,?_⟩
 . rw[k.block i (oB h.size) hb (h.keep c d)]
   exact h.block i c hb d
 .
  rcases k.buf with a|⟨g,e,a⟩
  . rw[a];exact h.buf
  . exact .inr ⟨g,by have:=h.size;omega,a⟩
def Wr.below(hb:b<w.heap.size)(h:Bl w w'):Wr b w w':=
 ⟨h.size,fun k hk _ _=>h.block k hk,.inl (by unfold oj;rw[h.cell (p:=⟨b,1,none⟩) hb])⟩
def Fg.Qt{a:Vv}(h:Bd B b a w):b<w.heap.size:=by rcases h with h|h<;>exact h.lt
def Mx{w1:Vz}{c:Ac}(d:w.heap[b]?=some (.cells #[p,v] 207 (0,0)))(a:Bl w w1)(f:w1.grownBy w2 v.ownBlock)(g:c.ownBlock=v.ownBlock∨c.ownBlock=some w1.heap.size)(i:v.ownBlock≠some b):Wr b w (w2.setCell ⟨b,1,none⟩ c):=by
 have hb:b<w.heap.size:=by
  rcases bB b w.heap.size with j|j
  . exact j
  . simp[dX j]at d
 have m:oj w b=v.ownBlock:=by unfold oj;rw[Lib.cell_of_heap d];rfl
 have n:w1.heap[b]?=some (.cells #[p,v] 207 (0,0)):=by rw[a.block b hb];exact d
 have o:w2.heap[b]?=some (.cells #[p,v] 207 (0,0)):=by rw[f.block b (oB a.size) (fun e=>i e.symm)];exact n
 have q:oj (w2.setCell ⟨b,1,none⟩ c) b=c.ownBlock:=by unfold oj;rw[Me _ _ _ (show w2.cell? ⟨b,1,none⟩=some v by rw[Lib.cell_of_heap o];rfl)];rfl
 refine⟨?_,fun k hk l r=>?_,?_⟩
 . have s:=a.size;have t:=f.size;simp[World.setCell];omega
 . rw[gF _ _ _ _ l,f.block k (oB a.size) (fun e=>r (by rw[m];exact e.symm)),a.block k hk]
 .
  rw[q,m];rcases g with h|h
  . exact .inl h
  . exact .inr ⟨_,a.size,h⟩
def nZ(C:Vw):Prop:=∀(i:Nat) u,C[i]?=some u->∃n,u=Value.int .u8 n
def mj(w:Vz)(v:Ac):Prop:=∀g,v.ownBlock=some g->∃C t f,w.heap[g]?=some (.cells C t f)/\nZ C
def nZ.append{D:Vw}(h:nZ C)(k:nZ D):nZ (C++D):=fun i u a=>by
 rw[Ml]at a
 split at a
 . exact h _ _ a
 . exact k _ _ a
def nZ.zeros(n:Nat):nZ (Builtin.zeroCells (Value.int .u8 0).cells n):=fun i u b=>by have a:=uA b;simp[Builtin.zeroCells,Value.cells]at a;obtain⟨j,c,e⟩:=a;rw[QA]at e;exact⟨0,e.symm⟩
def nZ.list{l:Vv}(h:∀u,u∈ l->∃n,u=Value.int .u8 n):nZ l.toArray:=fun i u a=>h u (by rw[aK]at a;exact mO a)
def nZ.mem(h:nZ C)(b:u∈ C.toList):∃n,u=Value.int .u8 n:=by obtain⟨i,a⟩:=dS.1 b;exact h i u (by rw[dF]at a;exact a)
def Mw(s:Vs):∀u,u∈ Lib.strCells s->∃n,u=Value.int .u8 n:=fun u a=>by unfold Lib.strCells at a;obtain⟨c,_,rfl⟩:=bZ.1 a;exact⟨_,rfl⟩
def mj.new(w:Vz)(C:Vw)(t:Vr)(n cap:Nat)(h:nZ C):mj (w.drew.alloc (.cells C t)) (.slice (some ⟨w.heap.size,0,none⟩) n cap):=fun g a=>by
 have e:w.heap.size=g:=by simpa [Value.ownBlock] using a
 subst e;exact⟨C,t,_,jz w.drew _,h⟩
def mj.row{n' cap':Nat}{b a:Vw}{t:Vr}{f:Nat × Nat}(d:w.heap[g]?=some (.cells b t f))(h:nZ a):mj (w.setRow g a) (.slice (some ⟨g,0,none⟩) n cap):=fun i c=>by
 have e:g=i:=by simpa [Value.ownBlock] using c
 subst e;exact⟨a,t,f,wP w g b _ t _ d,h⟩
def QO{F:Ac}{m y:Nat}{b:Vv}{a:Addr}(z:prog.info? 5=some i)(G:i.zero=some (.int .u8 0))(f:i.size=1)(s:i.bytes=1)(e:w.ownsRow base 5 1 v n xs)(d:mj w v)(hl:b.length=m)(c:∀j u,b[j]?=some u->w.cell? (a.add j)=some u)(H:∀u∈ b,u.oneCell'=true)(A:∀u,u∈ b->∃n,u=Value.int .u8 n)(I:0<m)(J:n+m<=140737488355328)(r:(Builtin.append_ #[205,205] ty #[v,.slice (some a) m y]).run prog w=.ok F w'):mj w' F:=by
 have B:xs.length=n:=sU e.1;have h:=e;have k:b.length=m*i.size:=by rw[f,eP];exact hl
 rcases e.2 with ⟨rfl,rfl⟩|⟨g,cap,D,rfl,K,E,L,M,N,l⟩
 . rw[Hr (P:=prog) w 205 ty 5 i (.int .u8 0) underlying205 z G a m y b k c I oO (rO s)]at r;injection r with t x
   rw[<-t,<-x];exact mj.new _ _ _ _ _ ((nZ.list A).append (nZ.zeros _))
 .
  obtain⟨C,O,Q,hC,o⟩:=d g rfl;rw[E]at hC;injection hC with hC
  injection hC with hC _ _
  subst hC;by_cases p:n+m<=cap
  .
   rw[Fh (P:=prog) w 205 ty 5 i underlying205 z g n cap D E a m y b k c H p (rO f)]at r;injection r with t x
   rw[<-t,<-x];refine mj.row (n':=0) (cap':=0) E (nZ.list fun u d=>?_);simp only[bD]at d;rcases d with (d|d)|d
   . exact o.mem (dR d)
   . exact A u d
   . exact o.mem (fR d)
  . have q:=h.cells (g:=g) rfl;rw[Fi (P:=prog) w 205 ty 5 i (.int .u8 0) underlying205 z G ⟨g,0,none⟩ n cap xs (by rw[f];simpa using B) q a m y b k c oO oO (by rw[s];exact wQ oO oO)]at r;injection r with t x
    rw[<-t,<-x];refine mj.new _ _ _ _ _ (((nZ.list fun u d=>?_).append (nZ.list A)).append (nZ.zeros _));rw[<-l]at d;exact o.mem (dR d)
structure uu (B b:Nat) (l:Vu) (w:Vz):Prop where
 bd:Bd B b (Lib.byteCells l) w
 u8:∀v,w.cell? ⟨b,1,none⟩=some v->mj w v
def mj.below(h:mj w v)(hb:∀g,v.ownBlock=some g->w'.heap[g]?=w.heap[g]?):mj w' v:=fun g a=>by obtain⟨C,t,f,b,c⟩:=h g a;exact⟨C,t,f,by rw[hb g a];exact b,c⟩
def Mv(B b:Nat)(d:Vv)(w:Vz)(h:Bd B b d w)(f:∀v,w.cell? ⟨b,1,none⟩=some v->mj w v):
 Calls prog 238 #[.pointer (some ⟨b,0,none⟩)] w fun e w'=>e=.returned (.tuple #[])/\Fg B b d w'/\Below B w w'/\Wr b w w'/\(∀v,w'.cell? ⟨b,1,none⟩=some v->mj w' v):=by
 rcases h with h|h
 .
  refine(Ra b w h.cell0 h.shape h.frozen0).mono ?_;rintro e w' ⟨rfl,rfl⟩;have i:(w.setCell ⟨b,0,none⟩ (.pointer (some ⟨b,0,none⟩))).cell? ⟨b,1,none⟩=w.cell? ⟨b,1,none⟩:=World.cell?_setCell_other _ _ _ _ sS;refine⟨rfl,h.used _,(ac B w).setCell (p:=⟨b,0,none⟩) h.1 _,⟨by simp[World.setCell],fun k hk hb _=>gF _ _ _ _ hb,.inl ?_⟩,fun v a=>?_⟩
  . unfold oj
    rw[i]
  . rw[i]at a;obtain⟨_,u,j,_,c⟩:=h;have:v=u:=by rw[Lib.cell_of_heap j]at a;simpa using a.symm
    subst this;exact(f v a).below fun g l=>gF _ _ _ _ (fun e=>c (by rw[l,e]))
 . refine(Rc b w h.cell0).mono ?_;rintro e w' ⟨rfl,rfl⟩;exact⟨rfl,h,ac B _,Wr.refl _ _,f⟩
def Gy{P:Au}(w:Vz){ops:Af}{rest:List Oper}{o:Oper}{a:Act}{Q:Ab}(b:o.guard=none)(c x:AV)(t u:Vr)(e:o.op=.call { callee:=.builtin .append,args:=#[c,x],argTypes:=#[t,u] })(v y d:Ac)(w':Vz)(f:a.eval c=v)(g:a.eval x=y)(i:(Builtin.append_ #[t,u] o.type #[v,y]).run P w=.ok d w')(h:wpList P ops Q rest (a.put o.dst d) w'):wpList P ops Q (o :: rest) a w:=by
 refine wpList_plain b fun K j=>?_
 unfold Oper.wp execOp;simp only[e,resolve,invoke,builtin,BS,Sem.run_pure,BU,List.map_toArray,dY,yL,f,g,i];exact j _ _ h
def BB(B b:Nat)(l:Vu)(r:Ac)(w:Vz)(e:As)(w':Vz):Prop:=e=.returned r/\uu B b l w'/\Below B w w'/\Wr b w w'
def Mu{a:Ac}(d:w2.heap[b]?=some (.cells #[p,v] 207 (0,0)))(h:mj w2 a)(f:a.ownBlock≠some b):∀u,(w2.setCell ⟨b,1,none⟩ a).cell? ⟨b,1,none⟩=some u->mj (w2.setCell ⟨b,1,none⟩ a) u:=fun u c=>by
 rw[Me _ _ _ (show w2.cell? ⟨b,1,none⟩=some v by rw[Lib.cell_of_heap d];rfl)]at c;injection c with c
 subst c;exact h.below fun g i=>gF _ _ _ _ (fun e=>f (by rw[i,e]))
def QM(B b:Nat)(l:Vu)(c:AP)(w:Vz)(h:uu B b l w)(U:l.length+1<=140737488355328)(Y:B<=w.heap.size):
 Calls prog 231 #[.pointer (some ⟨b,0,none⟩),.int .u8 (c.toNat:Int)] w (BB B b (l++ [c]) .nilIface w):=by
 obtain⟨Z,J,x,y,hz2⟩:=me Tryz.A5;have V:=Hi (Mv B b (Lib.byteCells l) w h.bd h.u8);have aa:=Lib.byteCells_length l;clear h;go_enter func231,ntmps231;go_wp2_with fail;go_fit V.o;rintro e w1 ⟨rfl,⟨hB,v,q,i,z⟩,A,D,W⟩;clear V;have c1:w1.cell? ⟨b,1,none⟩=some v:=by rw[Lib.cell_of_heap q];rfl
 have E:=W v c1;have K:b<w1.heap.size:=by
  rcases bB b w1.heap.size with L|L
  . exact L
  . simp[dX L]at q
 have ab:=A.size;have s:Bl w1 (w1.alloc (.cells #[.int .u8 (c.toNat:Int)] 5)):=bR.alloc lZ _;have f:=Dz i s;have C:∀j u,[Value.int .u8 (c.toNat:Int)][j]?=some u->(w1.alloc (.cells #[.int .u8 (c.toNat:Int)] 5)).cell? ((⟨w1.heap.size,0,none⟩:Addr).add j)=some u:=World.news_of_block (jz w1 _);have r:∀u∈ [Value.int .u8 (c.toNat:Int)],u.oneCell'=true:=fun u M=>by rw[bE.1 M];rfl
 obtain⟨v',w2,N,a,d,_,F⟩:=run_append_own_at (P:=prog) (w1.alloc (.cells #[.int .u8 (c.toNat:Int)] 5)) B 205 205 5 Z (.int .u8 0) 1 1 underlying205 J x y hz2 rfl dD v _ _ f ⟨w1.heap.size,0,none⟩ 1 1 [.int .u8 (c.toNat:Int)] rfl C r mZ oO wO;have t:=E.below fun g hg=>s.block g ((i.lt g hg).2)
 have G:=QO (m:=1) J x y hz2 f t rfl C r (fun u M=>⟨_,bE.1 M⟩) dD oO N;have n:w2.heap[b]?=some (.cells #[.pointer (some ⟨b,0,none⟩),v] 207 (0,0)):=by rw[d.block b sO (fun e=>z e.symm),Lib.alloc_old w1 _ b K];exact q
 obtain⟨O,n',cap,rfl⟩:∃O n' cap,v'=.slice O n' cap:=by
  rcases a.2 with ⟨Q,_⟩|⟨g,cap,ad,Q,_⟩
  . exact⟨_,_,_,Q⟩
  . exact⟨_,_,_,Q⟩
 have d1:w2.cell? ⟨b,1,none⟩=some v:=by rw[Lib.cell_of_heap n];rfl
 have f1:=Lib.frozen_of_heap n 1;obtain⟨H,R,I,S,X⟩:=Id (Lib.BuilderAt.put (T:=207) (e:=5) hB n (bs':=Lib.byteCells (l++ [c])) (by simpa [Lib.byteCells] using a) dD) (Mu n G (Lib.ownBlock_ne a n dD)) (((A.alloc oO (.cells #[.int .u8 (c.toNat:Int)] 5)).grown d sO (fun k hk=>(i.lt k hk).1)).setCell (p:=⟨b,1,none⟩) hB (.slice O n' cap)) (D.trans (Mx q s d F z)) N;clear q i z A D n a d F J x y hz2 N G t r C f s E W;go_wp2_with (at_builtin;refine Gy _ rfl _ _ 205 205 rfl v (.slice (some ⟨w1.heap.size,0,none⟩) 1 1) _ _ rfl rfl X.o ?_);clear X;go_wp2;go_ret;exact⟨rfl,⟨.inr H.o,R.o⟩,I.o,S.o⟩
def QL{q:Ac}{s:Vs}(r:prog.info? 5=some i)(A:i.zero=some (.int .u8 0))(l:i.size=1)(m:i.bytes=1)(b:w.ownsRow base 5 1 v n xs)(a:mj w v)(B:0<s.size)(D:n+s.size<=140737488355328)(k:(Builtin.append_ #[205,9] ty #[v,.string s]).run prog w=.ok q w'):(q.ownBlock=v.ownBlock∨q.ownBlock=some w.heap.size)/\mj w' q:=by
 have t:xs.length=n:=sU b.1;have c:=b;rcases b.2 with ⟨rfl,rfl⟩|⟨g,cap,y,rfl,E,z,F,G,H,d⟩
 . rw[run_append_nil_string (P:=prog) w 205 9 ty 5 i (.int .u8 0) underlying205 underlying9 r A s B oO (rO m)]at k;injection k with o p
   rw[<-o,<-p];refine⟨.inr rfl,mj.new _ _ _ _ _ (nZ.append ?_ (nZ.zeros _))⟩;intro j u a;rw[Array.getElem?_map]at a;obtain⟨x,_,rfl⟩:=aZ.1 a;exact⟨_,rfl⟩
 .
  obtain⟨C,I,J,hC,e⟩:=a g rfl;rw[z]at hC;injection hC with hC
  injection hC with hC _ _
  subst hC;by_cases f:n+s.size<=cap
  .
   rw[Lib.run_append_room_string (P:=prog) w 205 9 ty 5 i underlying205 underlying9 r l g n cap y z s f oO]at k;injection k with o p
   rw[<-o,<-p];refine⟨.inl rfl,mj.row (n':=0) (cap':=0) z (nZ.list fun u a=>?_)⟩;simp only[bD]at a;rcases a with (a|a)|a
   . exact e.mem (dR a)
   . exact Mw s u a
   . exact e.mem (fR a)
  . have h:=c.cells (g:=g) rfl;rw[Lib.run_append_grow_string (P:=prog) w 205 9 ty 5 i (.int .u8 0) underlying205 underlying9 r A ⟨g,0,none⟩ n cap xs (by rw[l];simpa using t) h s oO oO (by rw[m];exact wQ oO oO)]at k;injection k with o p
    rw[<-o,<-p];refine⟨.inr rfl,mj.new _ _ _ _ _ (((nZ.list fun u a=>?_).append (nZ.list (Mw s))).append (nZ.zeros _))⟩;rw[<-d]at a;exact e.mem (dR a)
def Mt(B b:Nat)(l:Vu)(s:Vs)(w:Vz)(h:uu B b l w)(N:0<s.size)(J:l.length+s.size<=140737488355328)(O:B<=w.heap.size):
 Calls prog 232 #[.pointer (some ⟨b,0,none⟩),.string s] w (BB B b (l++s.data.toList) (.tuple #[.int .i64 s.size,.nilIface]) w):=by
 obtain⟨Q,A,j,m,hz2⟩:=me Tryz.A5;have K:=Hi (Mv B b (Lib.byteCells l) w h.bd h.u8);have R:=Lib.byteCells_length l;clear h;go_enter func232,ntmps232;go_wp2_with fail;go_fit K.o;rintro e w1 ⟨rfl,⟨hB,v,i,d,n⟩,q,r,L⟩;clear K;have c1:w1.cell? ⟨b,1,none⟩=some v:=by rw[Lib.cell_of_heap i];rfl
 have S:=q.size;obtain⟨U,w2,C,a,c,_⟩:=Lib.run_append_own_string (P:=prog) w1 B 205 9 205 5 Q underlying205 underlying9 A j m hz2 v _ _ d s mZ oO oO;obtain⟨t,u⟩:=QL A j m hz2 d (L v c1) N oO C;have D:b<w1.heap.size:=by
  rcases bB b w1.heap.size with E|E
  . exact E
  . simp[dX E]at i
 have f:w2.heap[b]?=some (.cells #[.pointer (some ⟨b,0,none⟩),v] 207 (0,0)):=by rw[c.block b D (fun e=>n e.symm)];exact i
 obtain⟨F,n',cap,rfl⟩:∃F n' cap,U=.slice F n' cap:=by
  rcases a.2 with ⟨G,_⟩|⟨g,cap,V,G,_⟩
  . exact⟨_,_,_,G⟩
  . exact⟨_,_,_,G⟩
 have d1:w2.cell? ⟨b,1,none⟩=some v:=by rw[Lib.cell_of_heap f];rfl
 have f1:=Lib.frozen_of_heap f 1;have x:Lib.byteCells (l++s.data.toList)=Lib.byteCells l++Lib.strCells s:=by rw[Lib.strCells_eq];simp[Lib.byteCells]
 obtain⟨y,H,z,I,M⟩:=Id (Lib.BuilderAt.put (T:=207) (e:=5) hB f (bs':=Lib.byteCells (l++s.data.toList)) (by rw[x,aS,Lib.strCells_length];exact a) dD) (Mu f u (Lib.ownBlock_ne a f dD)) ((q.grown c oO (fun k hk=>(d.lt k hk).1)).setCell (p:=⟨b,1,none⟩) hB (.slice F n' cap)) (r.trans (Mx i bR c t n)) C;clear i d n q r f a c t A j m hz2 C u L x;go_wp2_with (at_builtin;refine Gy _ rfl _ _ 205 9 rfl v (.string s) _ _ rfl rfl M.o ?_);clear M;go_wp2;go_ret2;exact⟨rfl,⟨.inr y.o,H.o⟩,z.o,I.o⟩
def uu.oe(h:uu B b l w):∃q a n c,w.heap[b]?=some (.cells #[.pointer q,.slice a n c] 207 (0,0)):=by
 have:∃q,Lib.BuilderAt 207 5 B b (.pointer q) (Lib.byteCells l) w:=by
  rcases h.bd with h|h
  . exact⟨_,h⟩
  . exact⟨_,h⟩
 obtain⟨q,hB,v,d,e,i⟩:=this;rcases e.2 with ⟨f,_⟩|⟨g,cap,j,f,_⟩
 . exact⟨q,none,0,0,by rw[<-f];exact d⟩
 . exact⟨q,some ⟨g,0,none⟩,_,cap,by rw[<-f];exact d⟩
def uu.lt(h:uu B b l w):b<w.heap.size:=Fg.Qt h.bd
def uu.xL(h:uu B b l w){o:Nat}(a:w.cell? ⟨k,o,none⟩=some u)(c:∀n,u≠.int .u8 n):oj w b≠some k:=by intro hb;unfold oj at hb;obtain⟨v,d,hk⟩:=Option.bind_eq_some_iff.1 hb;obtain⟨C,t,f,hC,e⟩:=h.u8 v d k hk;rw[Lib.cell_of_heap hC]at a;obtain⟨n,g⟩:=e o u a;exact c n g
def uu.xd(h:uu B b l w){o:Nat}{n:Int}(d:w.cell? ⟨k,o,none⟩=some (.int .u64 n)):k≠b/\oj w b≠some k:=by
 refine⟨?_,h.xL d (fun n e=>by cases e)⟩;rintro rfl;obtain⟨q,a,m,c,hb⟩:=h.oe;rw[Lib.cell_of_heap hb]at d
 match o with
 |0=>simp at d
 |1=>simp at d
 |o+2=>simp at d
def uu.vF(h:uu B b l w){c:Nat}(d:w.cell? ⟨k,0,none⟩=some (.slice a n c)):k≠b/\oj w b≠some k:=by refine⟨?_,h.xL d (fun n e=>by cases e)⟩;rintro rfl;obtain⟨q,a,m,c,hb⟩:=h.oe;rw[Lib.cell_of_heap hb]at d;simp at d
def uu.below(h:uu B b l w)(hb:Bl w w'):uu B b l w':=by
 have a:=h.lt;have c:∀p,Lib.BuilderAt 207 5 B b p (Lib.byteCells l) w->Lib.BuilderAt 207 5 B b p (Lib.byteCells l) w':=fun p ⟨hB,v,e,d,i⟩=> ⟨hB,v,by rw[hb.block b a];exact e,Dz d hb,i⟩
 refine⟨?_,fun v j=>?_⟩
 .
  rcases h.bd with h|h
  . exact .inl (c _ h)
  . exact .inr (c _ h)
 . rw[hb.cell (p:=⟨b,1,none⟩) a]at j;refine(h.u8 v j).below fun g k=>hb.block g ?_
   obtain⟨C,t,f,hC,_⟩:=h.u8 v j g k;exact(kO.1 hC).1
def jx.uE{f:Vy}(h:jx w a cap f n)(m:uu B b l w)(k:Wr b w w'):jx w' a cap f n:=by
 refine⟨⟨h.row.fit,?_,fun i o=>?_⟩,h.num,h.short⟩
 .
  rcases h.row.shape with d|⟨e,c,d,g⟩
  . exact .inl d
  . exact .inr ⟨e,c,d,by have:=k.size;omega⟩
 . obtain⟨e,c,d,g,j⟩:=h.row.cell i o;obtain⟨p,q⟩:=m.xd j;exact⟨e,c,d,by have:=k.size;omega,(bJ (w:=w) (k.block e g p q)).trans j⟩
structure sZ (fill:Bool) (k:Nat) (m:Vu) (x:Nat):Prop where
 dig:fF m
 eq:dE m=x
 most:m.length<=k
 full:fill=true->m.length=k
 some:m≠ []
 lean:fill=false->m= [48]∨m.head?≠Option.some 48
def MD(c:AP)(l:Vu):dE (c :: l)=(c.toNat - 48)*10 ^ l.length+dE l:=by
 have:=FL [c] l
 simpa [dE] using this
def JO(d:Nat)(h:d<10):(UInt8.ofNat (48+d)).toNat=48+d:=by rw[xm];omega
def RM(u:Nat):fF (Lib.decDigits u)/\dE (Lib.decDigits u)=u/\Lib.decDigits u≠ []/\(Lib.decDigits u= [48]∨(Lib.decDigits u).head?≠Option.some 48):=by
 induction u using Nat.strongRecOn with
 |_ u ih=>
  rw[Lib.decDigits];by_cases h:u<10
  .
   rw[dif_pos h];have e:=JO u h;refine⟨fun c a=>?_,?_,sS,?_⟩
   . rw[bE.1 a,e];omega
   . simp only[dE,List.foldl_cons,List.foldl_nil,e];omega
   . by_cases g:u=0
     . left;subst g;rfl
     . right;intro a;have d:UInt8.ofNat (48+u)=48:=sU a;rw[d]at e;have:(48:AP).toNat=48:=rfl;omega
  .
   rw[dif_neg h];obtain⟨d,f,i,b⟩:=ih (u / 10) oO;have e:=JO (u % 10) oO;refine⟨fun c a=>?_,?_,sS,.inr ?_⟩
   . rcases bD.1 a with a|a
     . exact d c a
     . rw[bE.1 a,e];omega
   . rw[IK,f,e];omega
   .
    rcases b with b|b
    . rw[b]at f;have:dE [48]=0:=rfl;omega
    . cases hl:Lib.decDigits (u / 10) with
      |nil=>exact absurd hl i
      |cons c t=>rw[hl]at b;simpa using b
def MB(a:fF m)(b:m≠ [])(h:m.head?≠Option.some 48):10 ^ (m.length - 1)<=dE m:=by
 cases m with
 |nil=>exact absurd rfl b
 |cons c t=>
  have f:=a c (dT ..);have d:c.toNat≠48:=by intro e;apply h;simp only[List.head?_cons,jl];exact uj.1 e
  rw[MD,dJ,gW];have:1*10 ^ t.length<=(c.toNat - 48)*10 ^ t.length:=cD _ oO;omega
def RL{u:Nat}(e:u<10 ^ k)(hk:0<k):sZ false k (Lib.decDigits u) u:=by
 obtain⟨b,c,d,a⟩:=RM u;refine⟨b,c,?_,(fun h=>by cases h),d,fun _=>a⟩;rcases a with a|a
 . rw[a];simp;omega
 . have:=MB b d a;rw[c]at this;have f:=(sj (by decide:1<10)).1 (bQ this e);omega
def RK(j:Nat)(m:Vu):dE (List.replicate j 48++m)=dE m:=by
 induction j with
 |zero=>rfl
 |succ j a=>rw[j4,bO,NK,a]
def RJ{u:Nat}(h:sZ false k m u):sZ true k (List.replicate (k - m.length) 48++m) u:=by
 refine⟨fun c a=>?_,by rw[RK];exact h.eq,?_,fun _=>?_,?_,(fun h=>by cases h)⟩
 .
  rcases bD.1 a with a|a
  . rw[sn a];decide
  . exact h.dig c a
 . rw[aS,jF];have:=h.most;omega
 . rw[aS,jF];have:=h.most;omega
 . intro a
   exact h.some (JI.1 a).2
def MA{a:Bool}{lo:Nat}{j:Vu}(b:sZ a k j g)(i:sZ true k l lo)(f:a=true∨0<g):sZ a (2*k) (j++l) (g*10 ^ k+lo):=by
 have m:=i.full rfl;refine⟨fun c e=>?_,by rw[FL,b.eq,i.eq,m],?_,fun h=>?_,?_,fun h=>.inr ?_⟩
 .
  rcases bD.1 e with e|e
  . exact b.dig c e
  . exact i.dig c e
 . rw[aS];have:=b.most;have:=i.most;omega
 . rw[aS,b.full h,m];omega
 . intro e
   exact b.some (JI.1 e).1
 .
  have d:0<g:=by
   rcases f with f|f
   . rw[h]at f;cases f
   . exact f
  rcases b.lean h with hl|hl
  . rw[<-b.eq,hl]at d
    exact absurd d dD
  . cases hm:j with
    |nil=>exact absurd hm b.some
    |cons c t=>rw[hm]at hl;simpa using hl
def sZ.grow{k':Nat}(h:sZ false k m x)(hk:k<=k'):sZ false k' m x:=⟨h.dig,h.eq,aE h.most hk,(fun h=>by cases h),h.some,h.lean⟩
def RH(m:Vu):val 10 (m.reverse.map (fun c=>c.toNat - 48))=dE m:=by
 induction m with
 |nil=>rfl
 |cons c t a=> rw[yK,dH,dY,yL,wu,a,MD,bF,Y3,bV (10 ^ t.length)];omega
def sZ.JA(h:sZ false k m x):pY m x:=by
 by_cases a:x=0
 .
  left;refine⟨a,?_⟩;rcases h.lean rfl with hl|hl
  . exact hl
  . have:=MB h.dig h.some hl;rw[h.eq,a]at this;have:=gU (n:=m.length - 1) (by decide:0<10);omega
 .
  right;refine⟨a,m.reverse.map (fun c=>c.toNat - 48),⟨?_,?_,by rw[RH];exact h.eq⟩,?_⟩
  . intro d e;obtain⟨c,b,rfl⟩:=bZ.1 e;have:=h.dig c (sM.1 b);omega
  .
   right;rcases h.lean rfl with hl|hl
   . rw[<-h.eq,hl]at a
     exact absurd rfl a
   .
    cases hm:m with
    |nil=>exact absurd hm h.some
    |cons c t=>
     rw[hm]at hl;have b:=h.dig c (by rw[hm];exact dT ..);have f:c.toNat≠48:=fun g=>hl (by simp only[List.head?_cons,jl];exact uj.1 g)
     rw[yK,dH,dY,yL,aS,io,gW,aC,aX lZ,fA];simp;omega
  . rw[<-List.map_reverse,List.reverse_reverse,kG]
    conv=>lhs;rw[<-List.map_id m]
    apply mg;intro c b;have:=h.dig c b;apply uj.1;simp only[id_eq,Function.comp_apply];rw[JO _ oO];omega
def Hk(B b:Nat)(l:Vu)(fill:Bool)(k x:Nat)(w:Vz)(e:As)(w':Vz):Prop:=∃m,sZ fill k m x/\BB B b (l++m) (.tuple #[]) w e w'
def Q9(w0 w:Vz)(b:Nat)(l:Vu)(u:Nat)(g:Bool)(M:wU w0)(hb:Bl w0 w)(h:uu w0.heap.size b l w)(Q:u<10000000000000000000)(hl:l.length+19<=140737488355328):
 Calls prog 208 #[.pointer (some ⟨b,0,none⟩),.int .u64 u,.bool g] w (Hk w0.heap.size b l g 19 u w):=by
 have F:=Hi (RL (u:=u) (k:=19) Q dD);have v:=hb.size;obtain⟨x,y⟩:=Ia (QP u oO w (M.below hb)) h;obtain⟨s,G⟩:=nm ((⟨(Lib.decDigits u).toArray⟩:ByteArray));rw[G]at x;have t:s.data.toList=Lib.decDigits u:=by rw[<-G]
 have p:s.size=(Lib.decDigits u).length:=by rw[<-t];simp
 have z:0<s.size:=by rw[p];exact List.length_pos_iff.2 F.o.some
 have N:s.size<=19:=by rw[p];exact F.o.most
 obtain⟨A,H⟩:=Ia t p;clear hb h M G t p;cases g with
 |false=> go_enter func208,ntmps208;go_wp2_with fail;go_fit x.o;rintro e w1 ⟨rfl,a⟩;obtain⟨q,r⟩:=Ia (Mt w0.heap.size b l s w1 (y.o.below a) z oO (oB a.size)) a;clear x a;go_wp2_with fail;go_fit q.o;rintro e w2 ⟨rfl,i,d,c⟩;obtain⟨f,m,n⟩:=Ib i d c;clear q i d c;go_wp2;go_end0;rw[A.o]at f;exact⟨_,F.o,rfl,f.o,(r.o.mono v).trans m.o,(Wr.below y.o.lt r.o).trans n.o⟩
 |true=>
  go_enter func208,ntmps208;go_wp2_with fail;go_fit x.o;rintro e w1 ⟨rfl,a⟩;obtain⟨I,r,J⟩:=Ib (y.o.below a) (a.mono v) (Wr.below y.o.lt a);have B:w0.heap.size<=w1.heap.size:=oB a.size;clear x a y;go_wp2_with fail;go_loopw [13] (fun K wr=>∃j:Nat,j+s.size<=19/\K=.int .i64 j/\uu w0.heap.size b (l++List.replicate j 48) wr/\Below w0.heap.size w wr/\Wr b w wr/\w0.heap.size<=wr.heap.size) (fun K _=>19 - (intOf K).toNat)
  case atStart=>exact⟨0,oO,rfl,by rw[List.replicate_zero,mU];exact I.o,r.o,J.o,B⟩
  case round=>
   obtain⟨j,T,rfl,i,hb,O,P⟩:=hrel;obtain⟨C,D,E⟩:=Ib i hb O;clear i hb O;by_cases R:j+s.size<19
   . have S:((j:Int)<19 - (s.size:Int)):=oO;have q:=Hi (QM w0.heap.size b (l++List.replicate j 48) 48 wr C.o (by rw[aS,jF];omega) P);rw[show ((48:AP).toNat:Int)=48 from rfl]at q;go_wp2_with fail;go_fit q.o;rintro e w2 ⟨rfl,i,d,c⟩;obtain⟨f,m,n⟩:=Ib i d c;have hz2:=c.size;clear q i d c;go_wp2;go_roundw
     case rel=>exact⟨j+1,oO,by go_num,by rw[List.replicate_succ',<-lI];exact f.o,D.o.trans m.o,E.o.trans n.o,oO⟩
     case measure=>exact mI
   . have S:¬((j:Int)<19 - (s.size:Int)):=oO;have L:j=19 - (Lib.decDigits u).length:=by rw[<-H.o];omega
     have q:=Hi (Mt w0.heap.size b (l++List.replicate j 48) s wr C.o z (by rw[aS,jF];omega) P);go_wp2_with fail;go_fit q.o;rintro e w2 ⟨rfl,i,d,c⟩;obtain⟨f,m,n⟩:=Ib i d c;clear q i d c;go_wp2;go_end0;rw[A.o,lI,L]at f;exact⟨_,RJ F.o,rfl,f.o,D.o.trans m.o,E.o.trans n.o⟩
end Go.Proofs.YtfgclhpgdanmfaaGreatDoor
