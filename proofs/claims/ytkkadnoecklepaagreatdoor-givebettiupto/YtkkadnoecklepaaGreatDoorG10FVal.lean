import Derived.Test.YtkkadnoecklepaaGreatDoorG09TextB
namespace Go.Proofs.YtkkadnoecklepaaGreatDoor
open Go.RowKit
open Go.Proofs.Tryz
set_option linter.unusedSimpArgs false
set_option linter.unusedVariables false
set_option maxHeartbeats 8000000
set_option maxRecDepth 1000000
def bufOf(w:Vz)(b:Nat):Option Nat:=(w.cell? ⟨b,1,none⟩).bind Value.ownBlock
structure Wr (b:Nat) (w w':Vz):Prop where
 size:w.heap.size<=w'.heap.size
 block:∀k,k<w.heap.size->k≠b->bufOf w b≠some k->w'.heap[k]?=w.heap[k]?
 buf:bufOf w' b=bufOf w b∨∃g,w.heap.size<=g/\bufOf w' b=some g
theorem Wr.refl(b:Nat)(w:Vz):Wr b w w:=⟨Nat.le_refl _,fun _ _ _ _=>rfl,.inl rfl⟩
theorem Wr.keep{b:Nat}{w c:Vz}(h:Wr b w c){k:Nat}(hk:k<w.heap.size)(e:bufOf w b≠some k):bufOf c b≠some k:=by
 rcases h.buf with a|⟨g,f,a⟩
 . rw[a];exact e
 . rw[a];intro d;injection d with d;omega
theorem Wr.trans{b:Nat}{u v w:Vz}(h:Wr b u v)(k:Wr b v w):Wr b u w:=by
 refine⟨Nat.le_trans h.size k.size,fun i c d e=>?_,?_⟩
 . rw[k.block i (by have:=h.size;omega) d (h.keep c e)]
   exact h.block i c d e
 .
  rcases k.buf with a|⟨g,f,a⟩
  . rw[a];exact h.buf
  . exact .inr ⟨g,by have:=h.size;omega,a⟩
theorem Wr.below{b:Nat}{w a:Vz}(c:b<w.heap.size)(h:Bl w a):Wr b w a:=
 ⟨h.size,fun k hk _ _=>h.block k hk,.inl (by unfold bufOf;rw[h.cell (p:=⟨b,1,none⟩) c])⟩
theorem BdAt.lt'{B b:Nat}{a:Vv}{w:Vz}(h:Bd B b a w):b<w.heap.size:=by rcases h with h|h<;>exact h.lt
theorem Qly{b:Nat}{w w1 w2:Vz}{p v c:Value}(d:w.heap[b]?=some (.cells #[p,v] 228 (0,0)))(a:Bl w w1)(f:w1.grownBy w2 v.ownBlock)(g:c.ownBlock=v.ownBlock∨c.ownBlock=some w1.heap.size)(i:v.ownBlock≠some b):Wr b w (w2.setCell ⟨b,1,none⟩ c):=by
 have n:b<w.heap.size:=by
  rcases Nat.lt_or_ge b w.heap.size with j|j
  . exact j
  . simp[Array.getElem?_eq_none j] at d
 have m:bufOf w b=v.ownBlock:=by unfold bufOf;rw[Lib.cell_of_heap d];rfl
 have o:w1.heap[b]?=some (.cells #[p,v] 228 (0,0)):=by rw[a.block b n];exact d
 have q:w2.heap[b]?=some (.cells #[p,v] 228 (0,0)):=by rw[f.block b (by have:=a.size;omega) (fun e=>i e.symm)];exact o
 have r:bufOf (w2.setCell ⟨b,1,none⟩ c) b=c.ownBlock:=by
  unfold bufOf;rw[World.cell?_setCell_same _ _ _ (show w2.cell? ⟨b,1,none⟩=some v by rw[Lib.cell_of_heap q];rfl)];rfl
 refine⟨?_,fun k hk l s=>?_,?_⟩
 .
  have t:=a.size;have u:=f.size;simp[World.setCell];omega
 . rw[Below.heap_setCell _ _ _ _ l,f.block k (by have:=a.size;omega) (fun e=>s (by rw[m];exact e.symm)),a.block k hk]
 .
  rw[r,m];rcases g with h|h
  . exact .inl h
  . exact .inr ⟨_,a.size,h⟩
def U8In(C:Vw):Prop:=∀(i:Nat) u,C[i]?=some u->∃n,u=Value.int .u8 n
def U8Blk(w:Vz)(v:Value):Prop:=∀g,v.ownBlock=some g->∃C t f,w.heap[g]?=some (.cells C t f)/\U8In C
theorem U8In.append{C D:Vw}(h:U8In C)(k:U8In D):U8In (C++D):=fun i u a=>by
 rw[Array.getElem?_append] at a
 split at a
 . exact h _ _ a
 . exact k _ _ a
theorem U8In.zeros(n:Nat):U8In (Builtin.zeroCells (Value.int .u8 0).cells n):=fun i u b=>by
 have a:=Array.mem_of_getElem? b;simp[Builtin.zeroCells,Value.cells] at a;obtain⟨j,c,e⟩:=a;rw[Nat.mod_one] at e;exact⟨0,e.symm⟩
theorem U8In.list{l:Vv}(h:∀u,u∈ l->∃n,u=Value.int .u8 n):U8In l.toArray:=fun i u a=>h u (by rw[List.getElem?_toArray] at a;exact mO a)
theorem U8In.mem{C:Vw}(h:U8In C){u:Value}(b:u∈ C.toList):∃n,u=Value.int .u8 n:=by
 obtain⟨i,a⟩:=List.mem_iff_getElem?.1 b;exact h i u (by rw[Array.getElem?_toList] at a;exact a)
theorem Qlz(s:Vs):∀u,u∈ Lib.strCells s->∃n,u=Value.int .u8 n:=fun u a=>by
 unfold Lib.strCells at a;obtain⟨c,_,rfl⟩:=List.mem_map.1 a;exact⟨_,rfl⟩
theorem U8Blk.new(w:Vz)(C:Vw)(t:Vr)(n a:Nat)(h:U8In C):U8Blk (w.drew.alloc (.cells C t)) (.slice (some ⟨w.heap.size,0,none⟩) n a):=fun g b=>by
 have e:w.heap.size=g:=by simpa [Value.ownBlock] using b
 subst e;exact⟨C,t,_,heap_alloc_new w.drew _,h⟩
theorem U8Blk.row{w:Vz}{g n c n' cap':Nat}{b a:Vw}{t:Vr}{f:Nat × Nat}(i:w.heap[g]?=some (.cells b t f))(h:U8In a):U8Blk (w.setRow g a) (.slice (some ⟨g,0,none⟩) n c):=fun j d=>by
 have e:g=j:=by simpa [Value.ownBlock] using d
 subst e;exact⟨a,t,f,setRow_heap w g b _ t _ i,h⟩
theorem Qwa{w:Vz}{t:Nat}{v H:Value}{n m A:Nat}{xs b:Vv}{a:Addr}{I:Vz}{ty:Vr}{i:TypeInfo}(B:prog.info? 5=some i)(J:i.zero=some (.int .u8 0))(f:i.size=1)(x:i.bytes=1)(e:w.ownsRow t 5 1 v n xs)(d:U8Blk w v)
 (hl:b.length=m) (c:∀j u,b[j]?=some u->w.cell? (a.add j)=some u) (K:∀u∈ b,u.oneCell'=true) (D:∀u,u∈ b->∃n,u=Value.int .u8 n) (L:0<m) (M:n+m<=140737488355328)
 (s:(Builtin.append_ #[226,226] ty #[v,.slice (some a) m A]).run prog w=.ok H I):U8Blk I H:=by
 have E:xs.length=n:=by simpa using e.1
 have h:=e;have k:b.length=m*i.size:=by rw[f,Nat.mul_one];exact hl
 rcases e.2 with ⟨rfl,rfl⟩|⟨g,l,F,rfl,N,G,O,Q,R,o⟩
 .
  rw[run_append_nil (P:=prog) w 226 ty 5 i (.int .u8 0) underlying226 B J a m A b k c L (by omega) (by rw[x];omega)] at s;injection s with y z
  rw[<-y,<-z];exact U8Blk.new _ _ _ _ _ ((U8In.list D).append (U8In.zeros _))
 .
  obtain⟨C,S,T,hC,p⟩:=d g rfl;rw[G] at hC;injection hC with hC
  injection hC with hC _ _
  subst hC;by_cases q:n+m<=l
  .
   rw[run_append_room (P:=prog) w 226 ty 5 i underlying226 B g n l F G a m A b k c K q (by rw[f];omega)] at s;injection s with y z
   rw[<-y,<-z];refine U8Blk.row (n':=0) (cap':=0) G (U8In.list fun u d=>?_);simp only[List.mem_append] at d;rcases d with (d|d)|d
   . exact p.mem (List.mem_of_mem_take d)
   . exact D u d
   . exact p.mem (List.mem_of_mem_drop d)
  .
   have r:∀j u,xs[j]?=some u->w.cell? ((⟨g,0,none⟩:Addr).add j)=some u:=h.cells (g:=g) rfl;rw[run_append_grow (P:=prog) w 226 ty 5 i (.int .u8 0) underlying226 B J ⟨g,0,none⟩ n l xs (by rw[f];simpa using E) r a m A b k c (by omega) (by omega) (by rw[x];exact growslice_fits (by omega) (by omega))] at s;injection s with y z
   rw[<-y,<-z];refine U8Blk.new _ _ _ _ _ (((U8In.list fun u d=>?_).append (U8In.list D)).append (U8In.zeros _));rw[<-o] at d;exact p.mem (List.mem_of_mem_take d)
structure Bd8 (B b:Nat) (l:Vu) (w:Vz):Prop where
 bd:Bd B b (Lib.byteCells l) w
 u8:∀v,w.cell? ⟨b,1,none⟩=some v->U8Blk w v
theorem U8Blk.below{w a:Vz}{v:Value}(h:U8Blk w v)(c:∀g,v.ownBlock=some g->a.heap[g]?=w.heap[g]?):U8Blk a v:=fun g b=>by
 obtain⟨C,t,f,d,e⟩:=h g b;exact⟨C,t,f,by rw[c g b];exact d,e⟩
theorem Ql0(B b:Nat)(f:Vv)(w:Vz)(h:Bd B b f w)(i:∀v,w.cell? ⟨b,1,none⟩=some v->U8Blk w v):
 Calls prog 257 #[.pointer (some ⟨b,0,none⟩)] w fun e a=>e=.returned (.tuple #[])/\BdAt B b f a/\Below B w a/\Wr b w a/\(∀v,a.cell? ⟨b,1,none⟩=some v->U8Blk a v):=by
 rcases h with h|h
 .
  refine(Qvn b w h.cell0 h.shape h.frozen0).mono ?_;rintro e a ⟨rfl,rfl⟩;have j:(w.setCell ⟨b,0,none⟩ (.pointer (some ⟨b,0,none⟩))).cell? ⟨b,1,none⟩=w.cell? ⟨b,1,none⟩:=World.cell?_setCell_other _ _ _ _ (by simp);refine⟨rfl,h.used _,(Below.refl B w).setCell (p:=⟨b,0,none⟩) h.1 _,⟨by simp[World.setCell],fun k hk l _=>Below.heap_setCell _ _ _ _ l,.inl ?_⟩,fun v c=>?_⟩
  . unfold bufOf
    rw[j]
  .
   rw[j] at c;obtain⟨_,u,m,_,d⟩:=h;have:v=u:=by rw[Lib.cell_of_heap m] at c;simpa using c.symm
   subst this;exact(i v c).below fun g n=>Below.heap_setCell _ _ _ _ (fun e=>d (by rw[n,e]))
 .
  refine(Qvm b w h.cell0).mono ?_;rintro e a ⟨rfl,rfl⟩;exact⟨rfl,h,Below.refl B _,Wr.refl _ _,i⟩
theorem Qbl{P:Program}(w:Vz){ops:Array Oper}{rest:List Oper}{o:Oper}{a:Act}{Q:Exit->Act->World->Prop}(b:o.guard=none)(c x:Operand)(t u:Vr)
 (f:o.op=.call { callee:=.builtin .append,args:=#[c,x],argTypes:=#[t,u] }) (v y d:Value) (e:Vz) (g:a.eval c=v) (i:a.eval x=y)
 (j:(Builtin.append_ #[t,u] o.type #[v,y]).run P w=.ok d e) (h:wpList P ops Q rest (a.put o.dst d) e):wpList P ops Q (o :: rest) a w:=by
 refine wpList_plain b fun K k=>?_
 unfold Oper.wp execOp;simp only[f,resolve,invoke,builtin,Sem.run_bind,Sem.run_pure,Result.andThen_ok,List.map_toArray,List.map_cons,List.map_nil,g,i,j];exact k _ _ h
def Wrote(B b:Nat)(l:Vu)(r:Value)(w:Vz)(e:Ending)(w':Vz):Prop:=e=.returned r/\Bd8 B b l w'/\Below B w w'/\Wr b w w'
theorem Ql1{w2:Vz}{b:Nat}{p v a:Value}(d:w2.heap[b]?=some (.cells #[p,v] 228 (0,0)))(h:U8Blk w2 a)(f:a.ownBlock≠some b):∀u,(w2.setCell ⟨b,1,none⟩ a).cell? ⟨b,1,none⟩=some u->U8Blk (w2.setCell ⟨b,1,none⟩ a) u:=fun u c=>by
 rw[World.cell?_setCell_same _ _ _ (show w2.cell? ⟨b,1,none⟩=some v by rw[Lib.cell_of_heap d];rfl)] at c;injection c with c
 subst c;exact h.below fun g i=>Below.heap_setCell _ _ _ _ (fun e=>f (by rw[i,e]))
theorem Qwb(B b:Nat)(l:Vu)(c:UInt8)(w:Vz)(h:Bd8 B b l w)(V:l.length+1<=140737488355328)(aa:B<=w.heap.size):
 Calls prog 250 #[.pointer (some ⟨b,0,none⟩),.int .u8 (c.toNat:Int)] w (Wrote B b (l++ [c]) .nilIface w):=by
 obtain⟨i0,K,y,z,hz2⟩:=info_parts Tryz.info8;have W:=Hi (Ql0 B b (Lib.byteCells l) w h.bd h.u8);have ab:(Lib.byteCells l).length=l.length:=Lib.byteCells_length l;clear h;go_enter func250,ntmps250;go_wp2_with fail;go_fit W.o;rintro e w1 ⟨rfl,⟨hB,v,q,i,A⟩,C,E,X⟩;clear W;have c1:w1.cell? ⟨b,1,none⟩=some v:=by rw[Lib.cell_of_heap q];rfl
 have F:=X v c1;have L:b<w1.heap.size:=by
  rcases Nat.lt_or_ge b w1.heap.size with M|M
  . exact M
  . simp[Array.getElem?_eq_none M] at q
 have ad:=C.size;have s:Bl w1 (w1.alloc (.cells #[.int .u8 (c.toNat:Int)] 5)):=bR.alloc lZ _;have f:=Qcw i s;have D:∀j u,[Value.int .u8 (c.toNat:Int)][j]?=some u->(w1.alloc (.cells #[.int .u8 (c.toNat:Int)] 5)).cell? ((⟨w1.heap.size,0,none⟩:Addr).add j)=some u:=World.news_of_block (heap_alloc_new w1 _);have r:∀u∈ [Value.int .u8 (c.toNat:Int)],u.oneCell'=true:=fun u N=>by rw[List.mem_singleton.1 N];rfl
 obtain⟨Y,w2,O,a,d,_,G⟩:=run_append_own_at (P:=prog) (w1.alloc (.cells #[.int .u8 (c.toNat:Int)] 5)) B 226 226 5 i0 (.int .u8 0) 1 1 underlying226 K y z hz2 rfl (by decide) v _ _ f ⟨w1.heap.size,0,none⟩ 1 1 [.int .u8 (c.toNat:Int)] rfl D r (by unfold maxLen;omega) (by omega) (by rw[World.size_alloc];omega);have x:U8Blk (w1.alloc (.cells #[.int .u8 (c.toNat:Int)] 5)) v:=F.below fun g hg=>s.block g ((i.lt g hg).2)
 have H:U8Blk w2 Y:=Qwa (m:=1) K y z hz2 f x rfl D r (fun u N=>⟨_,List.mem_singleton.1 N⟩) (by decide) (by omega) O;have n:w2.heap[b]?=some (.cells #[.pointer (some ⟨b,0,none⟩),v] 228 (0,0)):=by
  rw[d.block b (by simp;omega) (fun e=>A e.symm),Lib.alloc_old w1 _ b L];exact q
 obtain⟨Q,n',t,rfl⟩:∃Q n' t,Y=.slice Q n' t:=by
  rcases a.2 with ⟨R,_⟩|⟨g,t,ae,R,_⟩
  . exact⟨_,_,_,R⟩
  . exact⟨_,_,_,R⟩
 have d1:w2.cell? ⟨b,1,none⟩=some v:=by rw[Lib.cell_of_heap n];rfl
 have f1:w2.frozen? ⟨b,1,none⟩=false:=Lib.frozen_of_heap n 1;obtain⟨I,S,J,U,Z⟩:=Id (Lib.BuilderAt.put (T:=228) (e:=5) hB n (bs':=Lib.byteCells (l++ [c])) (by simpa [Lib.byteCells] using a) (by decide)) (Ql1 n H (Lib.ownBlock_ne a n (by decide))) (((C.alloc (by omega) (.cells #[.int .u8 (c.toNat:Int)] 5)).grown d (by simp;omega) (fun k hk=>(i.lt k hk).1)).setCell (p:=⟨b,1,none⟩) hB (.slice Q n' t)) (E.trans (Qly q s d G A)) O;clear q i A C E n a d G K y z hz2 O H x r D f s F X;go_wp2_with (at_builtin;refine Qbl _ rfl _ _ 226 226 rfl v (.slice (some ⟨w1.heap.size,0,none⟩) 1 1) _ _ rfl rfl Z.o ?_);clear Z;go_wp2;go_ret;exact⟨rfl,⟨.inr I.o,S.o⟩,J.o,U.o⟩
theorem Qwc{w:Vz}{m:Nat}{v t:Value}{n:Nat}{xs:Vv}{s:Vs}{D:Vz}{ty:Vr}{i:TypeInfo}(y:prog.info? 5=some i)(E:i.zero=some (.int .u8 0))(o:i.size=1)(p:i.bytes=1)(b:w.ownsRow m 5 1 v n xs)(a:U8Blk w v)(F:0<s.size)(G:n+s.size<=140737488355328)
 (l:(Builtin.append_ #[226,9] ty #[v,.string s]).run prog w=.ok t D):(t.ownBlock=v.ownBlock∨t.ownBlock=some w.heap.size)/\U8Blk D t:=by
 have z:xs.length=n:=by simpa using b.1
 have c:=b;rcases b.2 with ⟨rfl,rfl⟩|⟨g,d,A,rfl,H,B,I,J,K,e⟩
 .
  rw[run_append_nil_string (P:=prog) w 226 9 ty 5 i (.int .u8 0) underlying226 underlying9 y E s F (by omega) (by rw[p];omega)] at l;injection l with q r
  rw[<-q,<-r];refine⟨.inr rfl,U8Blk.new _ _ _ _ _ (U8In.append ?_ (U8In.zeros _))⟩;intro j u a;rw[Array.getElem?_map] at a;obtain⟨x,_,rfl⟩:=Option.map_eq_some_iff.1 a;exact⟨_,rfl⟩
 .
  obtain⟨C,L,M,hC,f⟩:=a g rfl;rw[B] at hC;injection hC with hC
  injection hC with hC _ _
  subst hC;by_cases h:n+s.size<=d
  .
   rw[Lib.run_append_room_string (P:=prog) w 226 9 ty 5 i underlying226 underlying9 y o g n d A B s h (by omega)] at l;injection l with q r
   rw[<-q,<-r];refine⟨.inl rfl,U8Blk.row (n':=0) (cap':=0) B (U8In.list fun u a=>?_)⟩;simp only[List.mem_append] at a;rcases a with (a|a)|a
   . exact f.mem (List.mem_of_mem_take a)
   . exact Qlz s u a
   . exact f.mem (List.mem_of_mem_drop a)
  .
   have k:∀j u,xs[j]?=some u->w.cell? ((⟨g,0,none⟩:Addr).add j)=some u:=c.cells (g:=g) rfl;rw[Lib.run_append_grow_string (P:=prog) w 226 9 ty 5 i (.int .u8 0) underlying226 underlying9 y E ⟨g,0,none⟩ n d xs (by rw[o];simpa using z) k s (by omega) (by omega) (by rw[p];exact growslice_fits (by omega) (by omega))] at l;injection l with q r
   rw[<-q,<-r];refine⟨.inr rfl,U8Blk.new _ _ _ _ _ (((U8In.list fun u a=>?_).append (U8In.list (Qlz s))).append (U8In.zeros _))⟩;rw[<-e] at a;exact f.mem (List.mem_of_mem_take a)
theorem Ql2(B b:Nat)(l:Vu)(s:Vs)(w:Vz)(h:Bd8 B b l w)(O:0<s.size)(K:l.length+s.size<=140737488355328)(Q:B<=w.heap.size):
 Calls prog 251 #[.pointer (some ⟨b,0,none⟩),.string s] w (Wrote B b (l++s.data.toList) (.tuple #[.int .i64 s.size,.nilIface]) w):=by
 obtain⟨R,C,m,n,hz2⟩:=info_parts Tryz.info8;have L:=Hi (Ql0 B b (Lib.byteCells l) w h.bd h.u8);have S:(Lib.byteCells l).length=l.length:=Lib.byteCells_length l;clear h;go_enter func251,ntmps251;go_wp2_with fail;go_fit L.o;rintro e w1 ⟨rfl,⟨hB,v,i,d,q⟩,r,t,M⟩;clear L;have c1:w1.cell? ⟨b,1,none⟩=some v:=by rw[Lib.cell_of_heap i];rfl
 have U:=r.size;obtain⟨V,w2,D,a,c,_⟩:=Lib.run_append_own_string (P:=prog) w1 B 226 9 226 5 R underlying226 underlying9 C m n hz2 v _ _ d s (by unfold maxLen;omega) (by omega) (by omega);obtain⟨u,x⟩:=Qwc C m n hz2 d (M v c1) O (by omega) D;have E:b<w1.heap.size:=by
  rcases Nat.lt_or_ge b w1.heap.size with F|F
  . exact F
  . simp[Array.getElem?_eq_none F] at i
 have f:w2.heap[b]?=some (.cells #[.pointer (some ⟨b,0,none⟩),v] 228 (0,0)):=by
  rw[c.block b E (fun e=>q e.symm)];exact i
 obtain⟨G,n',j,rfl⟩:∃G n' j,V=.slice G n' j:=by
  rcases a.2 with ⟨H,_⟩|⟨g,j,W,H,_⟩
  . exact⟨_,_,_,H⟩
  . exact⟨_,_,_,H⟩
 have d1:w2.cell? ⟨b,1,none⟩=some v:=by rw[Lib.cell_of_heap f];rfl
 have f1:w2.frozen? ⟨b,1,none⟩=false:=Lib.frozen_of_heap f 1;have y:Lib.byteCells (l++s.data.toList)=Lib.byteCells l++Lib.strCells s:=by rw[Lib.strCells_eq];simp[Lib.byteCells]
 obtain⟨z,I,A,J,N⟩:=Id (Lib.BuilderAt.put (T:=228) (e:=5) hB f (bs':=Lib.byteCells (l++s.data.toList)) (by rw[y,List.length_append,Lib.strCells_length];exact a) (by decide)) (Ql1 f x (Lib.ownBlock_ne a f (by decide))) ((r.grown c (by omega) (fun k hk=>(d.lt k hk).1)).setCell (p:=⟨b,1,none⟩) hB (.slice G n' j)) (t.trans (Qly i bR c u q)) D;clear i d q r t f a c u C m n hz2 D x M y;go_wp2_with (at_builtin;refine Qbl _ rfl _ _ 226 9 rfl v (.string s) _ _ rfl rfl N.o ?_);clear N;go_wp2;go_ret2;exact⟨rfl,⟨.inr z.o,I.o⟩,A.o,J.o⟩
theorem Bd8.parts{B b:Nat}{l:Vu}{w:Vz}(h:Bd8 B b l w):∃q a n c,w.heap[b]?=some (.cells #[.pointer q,.slice a n c] 228 (0,0)):=by
 have:∃q,Lib.BuilderAt 228 5 B b (.pointer q) (Lib.byteCells l) w:=by
  rcases h.bd with h|h
  . exact⟨_,h⟩
  . exact⟨_,h⟩
 obtain⟨q,hB,v,d,e,j⟩:=this;rcases e.2 with ⟨f,_⟩|⟨g,i,k,f,_⟩
 . exact⟨q,none,0,0,by rw[<-f];exact d⟩
 . exact⟨q,some ⟨g,0,none⟩,_,i,by rw[<-f];exact d⟩
theorem Bd8.lt{B b:Nat}{l:Vu}{w:Vz}(h:Bd8 B b l w):b<w.heap.size:=BdAt.lt' h.bd
theorem Bd8.not_buf{B b:Nat}{l:Vu}{w:Vz}(h:Bd8 B b l w){k o:Nat}{u:Value}(a:w.cell? ⟨k,o,none⟩=some u)(d:∀n,u≠.int .u8 n):bufOf w b≠some k:=by
 intro c;unfold bufOf at c;obtain⟨v,e,hk⟩:=Option.bind_eq_some_iff.1 c;obtain⟨C,t,f,hC,g⟩:=h.u8 v e k hk;rw[Lib.cell_of_heap hC] at a;obtain⟨n,i⟩:=g o u a;exact d n i
theorem Bd8.word_apart{B b:Nat}{l:Vu}{w:Vz}(h:Bd8 B b l w){k o:Nat}{n:Int}(d:w.cell? ⟨k,o,none⟩=some (.int .u64 n)):k≠b/\bufOf w b≠some k:=by
 refine⟨?_,h.not_buf d (fun n e=>by cases e)⟩;rintro rfl;obtain⟨q,a,m,c,f⟩:=h.parts;rw[Lib.cell_of_heap f] at d
 match o with
 |0=>simp at d
 |1=>simp at d
 |o+2=>simp at d
theorem Bd8.slice_apart{B b:Nat}{l:Vu}{w:Vz}(h:Bd8 B b l w){k:Nat}{a:Vx}{n c:Nat}(d:w.cell? ⟨k,0,none⟩=some (.slice a n c)):k≠b/\bufOf w b≠some k:=by
 refine⟨?_,h.not_buf d (fun n e=>by cases e)⟩;rintro rfl;obtain⟨q,a,m,c,f⟩:=h.parts;rw[Lib.cell_of_heap f] at d;simp at d
theorem Bd8.below{B b:Nat}{l:Vu}{w i:Vz}(h:Bd8 B b l w)(e:Bl w i):Bd8 B b l i:=by
 have a:=h.lt;have c:∀p,Lib.BuilderAt 228 5 B b p (Lib.byteCells l) w->Lib.BuilderAt 228 5 B b p (Lib.byteCells l) i:=fun p ⟨hB,v,j,d,k⟩=>
  ⟨hB,v,by rw[e.block b a];exact j,Qcw d e,k⟩
 refine⟨?_,fun v m=>?_⟩
 .
  rcases h.bd with h|h
  . exact .inl (c _ h)
  . exact .inr (c _ h)
 .
  rw[e.cell (p:=⟨b,1,none⟩) a] at m;refine(h.u8 v m).below fun g n=>e.block g ?_
  obtain⟨C,t,f,hC,_⟩:=h.u8 v m g n;exact(Array.getElem?_eq_some_iff.1 hC).1
theorem U64.wrote{B b:Nat}{l:Vu}{w g:Vz}{a:Vx}{d n:Nat}{j:Vy}(h:U64 w a d j n)(p:Bd8 B b l w)(k:Wr b w g):U64 g a d j n:=by
 refine⟨⟨h.row.fit,?_,fun i q=>?_⟩,h.num,h.short⟩
 .
  rcases h.row.shape with e|⟨f,c,e,m⟩
  . exact .inl e
  . exact .inr ⟨f,c,e,by have:=k.size;omega⟩
 .
  obtain⟨f,c,e,m,o⟩:=h.row.cell i q;obtain⟨r,s⟩:=p.word_apart o;exact⟨f,c,e,by have:=k.size;omega,(World.cell?_of_block (w:=w) (k.block f m r s)).trans o⟩
structure OutT (fill:Bool) (k:Nat) (m:Vu) (x:Nat):Prop where
 dig:AllDigits m
 eq:decVal m=x
 most:m.length<=k
 full:fill=true->m.length=k
 some:m≠ []
 lean:fill=false->m= [48]∨m.head?≠Option.some 48
theorem Qlt(c:UInt8)(l:Vu):decVal (c :: l)=(c.toNat - 48)*10 ^ l.length+decVal l:=by
 have:=Qb4 [c] l
 simpa [decVal] using this
theorem Qg3(d:Nat)(h:d<10):(UInt8.ofNat (48+d)).toNat=48+d:=by
 rw[UInt8.toNat_ofNat'];omega
theorem Qvs(u:Nat):AllDigits (Lib.decDigits u)/\decVal (Lib.decDigits u)=u/\Lib.decDigits u≠ []/\(Lib.decDigits u= [48]∨(Lib.decDigits u).head?≠Option.some 48):=by
 induction u using Nat.strongRecOn with
 |_ u ih=>
  rw[Lib.decDigits];by_cases h:u<10
  .
   rw[dif_pos h];have e:=Qg3 u h;refine⟨fun c a=>?_,?_,by simp,?_⟩
   . rw[List.mem_singleton.1 a,e];omega
   . simp only[decVal,List.foldl_cons,List.foldl_nil,e];omega
   .
    by_cases g:u=0
    . left;subst g;rfl
    .
     right;intro a;have d:UInt8.ofNat (48+u)=48:=by simpa using a
     rw[d] at e;have:(48:UInt8).toNat=48:=rfl;omega
  .
   rw[dif_neg h];obtain⟨d,f,i,b⟩:=ih (u / 10) (by omega);have e:=Qg3 (u % 10) (by omega);refine⟨fun c a=>?_,?_,by simp,.inr ?_⟩
   .
    rcases List.mem_append.1 a with a|a
    . exact d c a
    . rw[List.mem_singleton.1 a,e];omega
   . rw[Qde,f,e];omega
   .
    rcases b with b|b
    .
     rw[b] at f;have:decVal [48]=0:=rfl;omega
    .
     cases hl:Lib.decDigits (u / 10) with
     |nil=>exact absurd hl i
     |cons c t=>rw[hl] at b;simpa using b
theorem Qlu{m:Vu}(a:AllDigits m)(b:m≠ [])(h:m.head?≠Option.some 48):10 ^ (m.length - 1)<=decVal m:=by
 cases m with
 |nil=>exact absurd rfl b
 |cons c t=>
  have f:=a c (List.mem_cons_self ..);have d:c.toNat≠48:=by
   intro e;apply h;simp only[List.head?_cons,Option.some.injEq];exact UInt8.toNat_inj.1 e
  rw[Qlt,List.length_cons,Nat.add_sub_cancel];have:1*10 ^ t.length<=(c.toNat - 48)*10 ^ t.length:=Nat.mul_le_mul_right _ (by omega);omega
theorem Qvt{u k:Nat}(e:u<10 ^ k)(hk:0<k):OutT false k (Lib.decDigits u) u:=by
 obtain⟨b,c,d,a⟩:=Qvs u;refine⟨b,c,?_,(fun h=>by cases h),d,fun _=>a⟩;rcases a with a|a
 . rw[a];simp;omega
 .
  have:=Qlu b d a;rw[c] at this;have f:(Lib.decDigits u).length - 1<k:=(Nat.pow_lt_pow_iff_right (by decide:1<10)).1 (Nat.lt_of_le_of_lt this e);omega
theorem Qvu(j:Nat)(m:Vu):decVal (List.replicate j 48++m)=decVal m:=by
 induction j with
 |zero=>rfl
 |succ j a=>rw[List.replicate_succ,List.cons_append,Qj6,a]
theorem Qvv{u k:Nat}{m:Vu}(h:OutT false k m u):OutT true k (List.replicate (k - m.length) 48++m) u:=by
 refine⟨fun c a=>?_,by rw[Qvu];exact h.eq,?_,fun _=>?_,?_,(fun h=>by cases h)⟩
 .
  rcases List.mem_append.1 a with a|a
  . rw[List.eq_of_mem_replicate a];decide
  . exact h.dig c a
 . rw[List.length_append,List.length_replicate];have:=h.most;omega
 . rw[List.length_append,List.length_replicate];have:=h.most;omega
 . intro a
   exact h.some (List.append_eq_nil_iff.1 a).2
theorem Qlv{a:Bool}{k g lo:Nat}{j l:Vu}(b:OutT a k j g)(i:OutT true k l lo)(f:a=true∨0<g):OutT a (2*k) (j++l) (g*10 ^ k+lo):=by
 have m:=i.full rfl;refine⟨fun c e=>?_,by rw[Qb4,b.eq,i.eq,m],?_,fun h=>?_,?_,fun h=>.inr ?_⟩
 .
  rcases List.mem_append.1 e with e|e
  . exact b.dig c e
  . exact i.dig c e
 . rw[List.length_append];have:=b.most;have:=i.most;omega
 . rw[List.length_append,b.full h,m];omega
 . intro e
   exact b.some (List.append_eq_nil_iff.1 e).1
 .
  have d:0<g:=by
   rcases f with f|f
   . rw[h] at f;cases f
   . exact f
  rcases b.lean h with hl|hl
  . rw[<-b.eq,hl] at d
    exact absurd d (by decide)
  .
   cases hm:j with
   |nil=>exact absurd hm b.some
   |cons c t=>rw[hm] at hl;simpa using hl
theorem OutT.grow{k k' x:Nat}{m:Vu}(h:OutT false k m x)(hk:k<=k'):OutT false k' m x:=⟨h.dig,h.eq,Nat.le_trans h.most hk,(fun h=>by cases h),h.some,h.lean⟩
theorem Qvw(m:Vu):val 10 (m.reverse.map (fun c=>c.toNat - 48))=decVal m:=by
 induction m with
 |nil=>rfl
 |cons c t a=>
  rw[List.reverse_cons,List.map_append,List.map_cons,List.map_nil,Qal,a,Qlt,List.length_map,List.length_reverse,Nat.mul_comm (10 ^ t.length)];omega
theorem OutT.dec{k x:Nat}{m:Vu}(h:OutT false k m x):IsDec m x:=by
 by_cases a:x=0
 .
  left;refine⟨a,?_⟩;rcases h.lean rfl with hl|hl
  . exact hl
  .
   have:=Qlu h.dig h.some hl;rw[h.eq,a] at this;have:=Nat.pow_pos (n:=m.length - 1) (by decide:0<10);omega
 .
  right;refine⟨a,m.reverse.map (fun c=>c.toNat - 48),⟨?_,?_,by rw[Qvw];exact h.eq⟩,?_⟩
  .
   intro d e;obtain⟨c,b,rfl⟩:=List.mem_map.1 e;have:=h.dig c (List.mem_reverse.1 b);omega
  .
   right;rcases h.lean rfl with hl|hl
   . rw[<-h.eq,hl] at a
     exact absurd rfl a
   .
    cases hm:m with
    |nil=>exact absurd hm h.some
    |cons c t=>
     rw[hm] at hl;have b:=h.dig c (by rw[hm];exact List.mem_cons_self ..);have f:c.toNat≠48:=fun g=>hl (by simp only[List.head?_cons,Option.some.injEq];exact UInt8.toNat_inj.1 g)
     rw[List.reverse_cons,List.map_append,List.map_cons,List.map_nil,List.length_append,List.length_singleton,Nat.add_sub_cancel,List.getD_eq_getElem?_getD,List.getElem?_append_right lZ,Nat.sub_self];simp;omega
  .
   rw[<-List.map_reverse,List.reverse_reverse,List.map_map]
   conv=>lhs;rw[<-List.map_id m]
   apply List.map_congr_left;intro c b;have:=h.dig c b;apply UInt8.toNat_inj.1;simp only[id_eq,Function.comp_apply];rw[Qg3 _ (by omega)];omega
def Digs(B b:Nat)(l:Vu)(fill:Bool)(k x:Nat)(w:Vz)(e:Ending)(w':Vz):Prop:=∃m,OutT fill k m x/\Wrote B b (l++m) (.tuple #[]) w e w'
theorem Qvo(w0 w:Vz)(b:Nat)(l:Vu)(u:Nat)(g:Bool)(N:Tab w0)(v:Bl w0 w)(h:Bd8 w0.heap.size b l w)(R:u<10000000000000000000)(hl:l.length+19<=140737488355328):
 Calls prog 227 #[.pointer (some ⟨b,0,none⟩),.int .u64 u,.bool g] w (Digs w0.heap.size b l g 19 u w):=by
 have G:=Hi (Qvt (u:=u) (k:=19) R (by decide));have x:w0.heap.size<=w.heap.size:=v.size;obtain⟨y,z⟩:=Ia (Qv9 u (by omega) w (N.below v)) h;obtain⟨s,H⟩:=nm ((⟨(Lib.decDigits u).toArray⟩:ByteArray));rw[H] at y;have t:s.data.toList=Lib.decDigits u:=by rw[<-H]
 have p:s.size=(Lib.decDigits u).length:=by rw[<-t];simp
 have A:0<s.size:=by rw[p];exact List.length_pos_iff.2 G.o.some
 have O:s.size<=19:=by rw[p];exact G.o.most
 obtain⟨B,I⟩:=Ia t p;clear v h N H t p;cases g with
 |false=>
  go_enter func227,ntmps227;go_wp2_with fail;go_fit y.o;rintro e w1 ⟨rfl,a⟩;obtain⟨q,r⟩:=Ia (Ql2 w0.heap.size b l s w1 (z.o.below a) A (by omega) (by have:=a.size;omega)) a;clear y a;go_wp2_with fail;go_fit q.o;rintro e w2 ⟨rfl,i,d,c⟩;obtain⟨f,m,n⟩:=Ib i d c;clear q i d c;go_wp2;go_end0;rw[B.o] at f;exact⟨_,G.o,rfl,f.o,(r.o.mono x).trans m.o,(Wr.below z.o.lt r.o).trans n.o⟩
 |true=>
  go_enter func227,ntmps227;go_wp2_with fail;go_fit y.o;rintro e w1 ⟨rfl,a⟩;obtain⟨J,r,K⟩:=Ib (z.o.below a) (a.mono x) (Wr.below z.o.lt a);have C:w0.heap.size<=w1.heap.size:=by have:=a.size;omega
  clear y a z;go_wp2_with fail;go_loopw [13] (fun L wr=>∃j:Nat,j+s.size<=19/\L=.int .i64 j/\Bd8 w0.heap.size b (l++List.replicate j 48) wr/\Below w0.heap.size w wr/\Wr b w wr/\w0.heap.size<=wr.heap.size) (fun L _=>19 - (intOf L).toNat)
  case atStart=>exact⟨0,by omega,rfl,by rw[List.replicate_zero,List.append_nil];exact J.o,r.o,K.o,C⟩
  case round=>
   obtain⟨j,U,rfl,i,v,P,Q⟩:=hrel;obtain⟨D,E,F⟩:=Ib i v P;clear i v P;by_cases S:j+s.size<19
   .
    have T:((j:Int)<19 - (s.size:Int)):=by omega
    have q:=Hi (Qwb w0.heap.size b (l++List.replicate j 48) 48 wr D.o (by rw[List.length_append,List.length_replicate];omega) Q);rw[show ((48:UInt8).toNat:Int)=48 from rfl] at q;go_wp2_with fail;go_fit q.o;rintro e w2 ⟨rfl,i,d,c⟩;obtain⟨f,m,n⟩:=Ib i d c;have hz2:=c.size;clear q i d c;go_wp2;go_roundw
    case rel=>exact⟨j+1,by omega,by go_num,by rw[List.replicate_succ',<-List.append_assoc];exact f.o,E.o.trans m.o,F.o.trans n.o,by omega⟩
    case measure=>simp[intOf];omega
   .
    have T:¬((j:Int)<19 - (s.size:Int)):=by omega
    have M:j=19 - (Lib.decDigits u).length:=by rw[<-I.o];omega
    have q:=Hi (Ql2 w0.heap.size b (l++List.replicate j 48) s wr D.o A (by rw[List.length_append,List.length_replicate];omega) Q);go_wp2_with fail;go_fit q.o;rintro e w2 ⟨rfl,i,d,c⟩;obtain⟨f,m,n⟩:=Ib i d c;clear q i d c;go_wp2;go_end0;rw[B.o,List.append_assoc,M] at f;exact⟨_,Qvv G.o,rfl,f.o,E.o.trans m.o,F.o.trans n.o⟩
def SlIn(C:Vw):Prop:=∀(i:Nat) u,C[i]?=some u->∃a n c,u=Value.slice a n c
def SlBlk(w:Vz)(v:Value):Prop:=∀g,v.ownBlock=some g->∃C t f,w.heap[g]?=some (.cells C t f)/\SlIn C
theorem SlIn.append{C D:Vw}(h:SlIn C)(k:SlIn D):SlIn (C++D):=fun i u a=>by
 rw[Array.getElem?_append] at a
 split at a
 . exact h _ _ a
 . exact k _ _ a
theorem SlIn.zeros(n:Nat):SlIn (Builtin.zeroCells (Value.slice none 0 0).cells n):=fun i u b=>by
 have a:=Array.mem_of_getElem? b;simp[Builtin.zeroCells,Value.cells] at a;obtain⟨j,c,e⟩:=a;rw[Nat.mod_one] at e;exact⟨none,0,0,e.symm⟩
theorem SlIn.list{l:Vv}(h:∀u,u∈ l->∃a n c,u=Value.slice a n c):SlIn l.toArray:=fun i u b=>h u (by rw[List.getElem?_toArray] at b;exact mO b)
theorem SlIn.mem{C:Vw}(h:SlIn C){u:Value}(d:u∈ C.toList):∃a n c,u=Value.slice a n c:=by
 obtain⟨i,b⟩:=List.mem_iff_getElem?.1 d;exact h i u (by rw[Array.getElem?_toList] at b;exact b)
theorem SlBlk.below{w a:Vz}{v:Value}(h:SlBlk w v)(c:∀g,v.ownBlock=some g->a.heap[g]?=w.heap[g]?):SlBlk a v:=fun g b=>by
 obtain⟨C,t,f,d,e⟩:=h g b;exact⟨C,t,f,by rw[c g b];exact d,e⟩
theorem SlBlk.new(w:Vz)(C:Vw)(t:Vr)(n a:Nat)(h:SlIn C):SlBlk (w.drew.alloc (.cells C t)) (.slice (some ⟨w.heap.size,0,none⟩) n a):=fun g b=>by
 have e:w.heap.size=g:=by simpa [Value.ownBlock] using b
 subst e;exact⟨C,t,_,heap_alloc_new w.drew _,h⟩
theorem SlBlk.row{w:Vz}{g n c:Nat}{b a:Vw}{t:Vr}{f:Nat × Nat}(i:w.heap[g]?=some (.cells b t f))(h:SlIn a):SlBlk (w.setRow g a) (.slice (some ⟨g,0,none⟩) n c):=fun j d=>by
 have e:g=j:=by simpa [Value.ownBlock] using d
 subst e;exact⟨a,t,f,setRow_heap w g b _ t _ i,h⟩
theorem Tryz.infoNat:(prog.info? 105).map (fun i=>(i.zero,i.size,i.bytes))=some (some (.slice none 0 0),1,24):=by kernel_rfl
theorem Qvx{w:Vz}{x:Nat}{v I:Value}{n m B:Nat}{xs b:Vv}{a:Addr}{J:Vz}{ty:Vr}{i:TypeInfo}(D:prog.info? 105=some i)(K:i.zero=some (.slice none 0 0))(h:i.size=1)(y:i.bytes=24)(f:w.ownsRow x 105 1 v n xs)(e:SlBlk w v)
 (hl:b.length=m) (d:∀j u,b[j]?=some u->w.cell? (a.add j)=some u) (L:∀u∈ b,u.oneCell'=true) (E:∀u,u∈ b->∃a n c,u=Value.slice a n c) (M:0<m) (N:n+m<=1099511627776)
 (t:(Builtin.append_ #[230,230] ty #[v,.slice (some a) m B]).run prog w=.ok I J):SlBlk J I:=by
 have F:xs.length=n:=by simpa using f.1
 have k:=f;have l:b.length=m*i.size:=by rw[h,Nat.mul_one];exact hl
 rcases f.2 with ⟨rfl,rfl⟩|⟨g,o,G,rfl,O,H,Q,R,S,p⟩
 .
  rw[run_append_nil (P:=prog) w 230 ty 105 i (.slice none 0 0) underlying230 D K a m B b l d M (by omega) (by rw[y];omega)] at t;injection t with z A
  rw[<-z,<-A];exact SlBlk.new _ _ _ _ _ ((SlIn.list E).append (SlIn.zeros _))
 .
  obtain⟨C,T,U,hC,q⟩:=e g rfl;rw[H] at hC;injection hC with hC
  injection hC with hC _ _
  subst hC;by_cases r:n+m<=o
  .
   rw[run_append_room (P:=prog) w 230 ty 105 i underlying230 D g n o G H a m B b l d L r (by rw[h];omega)] at t;injection t with z A
   rw[<-z,<-A];refine SlBlk.row H (SlIn.list fun u e=>?_);simp only[List.mem_append] at e;rcases e with (e|e)|e
   . exact q.mem (List.mem_of_mem_take e)
   . exact E u e
   . exact q.mem (List.mem_of_mem_drop e)
  .
   have s:∀j u,xs[j]?=some u->w.cell? ((⟨g,0,none⟩:Addr).add j)=some u:=k.cells (g:=g) rfl;rw[run_append_grow (P:=prog) w 230 ty 105 i (.slice none 0 0) underlying230 D K ⟨g,0,none⟩ n o xs (by rw[h];simpa using F) s a m B b l d (by omega) (by omega) (by rw[y];exact growslice_fits (by omega) (by omega))] at t;injection t with z A
   rw[<-z,<-A];refine SlBlk.new _ _ _ _ _ (((SlIn.list fun u e=>?_).append (SlIn.list E)).append (SlIn.zeros _));rw[<-p] at e;exact q.mem (List.mem_of_mem_take e)
def pw(i:Nat):Nat:=10 ^ (19*2 ^ i)
theorem Qex(i:Nat):pw (i+1)=pw i*pw i:=by unfold pw;rw[<-Nat.pow_add];congr 1;rw[Nat.pow_succ];omega
theorem Qlw:pw 0=10000000000000000000:=by decide
theorem Qg4(i:Nat):0<pw i:=Nat.pow_pos (by decide)
def Pows(w:Vz)(vs:Vv):Prop:=∀i v,vs[i]?=some v->∃a c l,v=.slice a (List.length l) c/\U64 w a c l (pw i)
theorem Pows.below{w b:Vz}{vs:Vv}(h:Pows w vs)(d:Bl w b):Pows b vs:=fun i v f=>by
 obtain⟨a,c,l,e,g⟩:=h i v f;exact⟨a,c,l,e,g.below d⟩
theorem Pows.snoc{w:Vz}{vs:Vv}{a:Vx}{c:Nat}{l:Vy}(h:Pows w vs)(e:U64 w a c l (pw vs.length)):Pows w (vs++ [.slice a l.length c]):=fun i v b=>by
 rw[List.getElem?_append] at b
 split at b
 . exact h i v b
 .
  rename_i f;rw[List.getElem?_singleton] at b
  split at b
  .
   have d:i=vs.length:=by omega
   subst d;injection b with b
   exact⟨a,c,l,b.symm,e⟩
  . cases b
theorem U64.grownSl{w m:Vz}{v:Value}{a:Vx}{c n:Nat}{l:Vy}(h:U64 w a c l n)(j:w.grownBy m v.ownBlock)(p:SlBlk w v):U64 m a c l n:=by
 refine⟨⟨h.row.fit,?_,fun i q=>?_⟩,h.num,h.short⟩
 .
  rcases h.row.shape with d|⟨g,b,d,o⟩
  . exact .inl d
  . exact .inr ⟨g,b,d,by have:=j.size;omega⟩
 .
  obtain⟨g,b,d,o,k⟩:=h.row.cell i q;refine⟨g,b,d,by have:=j.size;omega,(World.cell?_of_block (w:=w) (j.block g o ?_)).trans k⟩;intro r;obtain⟨C,t,f,hC,s⟩:=p g r.symm;rw[Lib.cell_of_heap hC] at k;obtain⟨_,_,_,e⟩:=s _ _ k;cases e
theorem Pows.grown{w b:Vz}{v:Value}{vs:Vv}(h:Pows w vs)(d:w.grownBy b v.ownBlock)(f:SlBlk w v):Pows b vs:=fun i u g=>by
 obtain⟨a,c,l,e,j⟩:=h i u g;exact⟨a,c,l,e,j.grownSl d f⟩
theorem Qvy(k:Nat):2 ^ (63*k)<=10 ^ (19*k):=by
 rw[Nat.pow_mul,Nat.pow_mul];exact Nat.pow_le_pow_left (by decide) k
theorem Qlx{w:Vz}{a:Vx}{c i:Nat}{l:Vy}(h:U64 w a c l (pw i)):63*2 ^ i<64*l.length:=by
 have b:=Qab (B:=18446744073709551616) (by decide) h.num.small;rw[h.num.eq] at b;have d:2 ^ (63*2 ^ i)<=pw i:=Qvy _;have e:(18446744073709551616:Nat) ^ l.length=2 ^ (64*l.length):=by rw[Nat.pow_mul]
 rw[e] at b;exact(Nat.pow_lt_pow_iff_right (by decide:1<2)).1 (Nat.lt_of_le_of_lt d b)
theorem Qvz(n:Nat):n+1<=2 ^ n:=Nat.lt_two_pow_self
theorem Qv0{w:Vz}{a e:Vx}{c c2 i x:Nat}{l m:Vy}(h:U64 w a c l (pw i))(d:U64 w e c2 m x)(hl:m.length+1<2*l.length):x<pw (i+1):=by
 have f:=Qab (B:=18446744073709551616) (by decide) d.num.small;rw[d.num.eq] at f;have b:=h.num.trim.pow_le (B:=18446744073709551616) (by omega);rw[h.num.eq] at b;have g:=Nat.mul_le_mul b b;rw[<-Nat.pow_add,<-Qex] at g;have j:(18446744073709551616:Nat) ^ m.length<=18446744073709551616 ^ (l.length - 1+(l.length - 1)):=Nat.pow_le_pow_right (by decide) (by omega);omega
theorem Qv1{n k:Nat}(h:63*2 ^ n<64*k)(hk:k<=549755813890):19*2 ^ (n+1)<=140737488355000:=by
 rw[Nat.pow_succ];omega
def PowAns(w:Vz)(x:Nat)(e:Ending)(w':Vz):Prop:=(∃g n cap,e=.returned (.slice (some ⟨g,0,none⟩) (n+1) cap)/\n+1<=cap/\(∃vs,List.length vs=n+1/\(∀i v,vs[i]?=some v->w'.cell? ⟨g,i,none⟩=some v)/\Pows w' vs)/\g<w'.heap.size/\x<pw (n+1)/\n<=1099511627770/\19*2 ^ (n+1)<=140737488355000)/\Below w.heap.size w w'
theorem Qv2(a:Vx)(L x:Nat)(D:Vy)(w:Vz)(h:U64 w a L D x)(hl:D.length<=274877906944):
 Calls prog 189 #[.slice a D.length L] w (PowAns w x):=by
 obtain⟨i0,hi,M,N,hz2⟩:=info_parts Tryz.infoNat;obtain⟨HX,HI,O,Q,R⟩:=Id h hi M N hz2;clear h hi M N hz2;go_enter func189,ntmps189;go_wp2_with fail;go_loopw [3,4] (fun lv pv wr=>∃(n:Nat) (vs:Vv) (S:Vx) (c1:Nat) (c:Vy),vs.length=n+1/\lv=.slice S c.length c1/\vs[n]?=some lv/\wr.ownsRow w.heap.size 105 1 pv (n+1) vs/\SlBlk wr pv/\Pows wr vs/\U64 wr S c1 c (pw n)/\c.length<=2*D.length+1/\n<=2*D.length/\Below w.heap.size w wr) (fun _ pv _=>2*D.length+2 - sliceLen pv)
 case atStart=>
  have af:Blk .u64 190 (w.alloc (.cells (wordCells .u64 [10000000000000000000]) 190)) w.heap.size [10000000000000000000]:=Blk.new _ _ _ _;have ag:U64 (w.alloc (.cells (wordCells .u64 [10000000000000000000]) 190)) (some ⟨w.heap.size,0,none⟩) 1 [10000000000000000000] (pw 0):=⟨af.row 1 (by simp) 1 (by omega),⟨fun d hd=>by simp at hd;omega,.inr (by simp),by rw[Qlw];simp[val]⟩,by simp⟩;have ah:Below (w.alloc (.cells (wordCells .u64 [10000000000000000000]) 190)).heap.size (w.alloc (.cells (wordCells .u64 [10000000000000000000]) 190)) ((w.alloc (.cells (wordCells .u64 [10000000000000000000]) 190)).alloc (.cells #[.slice (some ⟨w.heap.size,0,none⟩) 1 1] 105)):=bR.alloc lZ _;have T:=ag.below ah;refine⟨0,[.slice (some ⟨w.heap.size,0,none⟩) 1 1],some ⟨w.heap.size,0,none⟩,1,[10000000000000000000],rfl,rfl,rfl,?_,?_,?_,T,by simp,by omega,?_⟩
  . exact⟨rfl,.inr ⟨w.heap.size+1,1,#[.slice (some ⟨w.heap.size,0,none⟩) 1 1],rfl,by omega,by have:=heap_alloc_new (w.alloc (.cells (wordCells .u64 [10000000000000000000]) 190)) (.cells #[.slice (some ⟨w.heap.size,0,none⟩) 1 1] 105);rw[World.size_alloc] at this;exact this,by omega,by unfold maxLen;omega,rfl,rfl⟩⟩
  .
   intro g U;have e:w.heap.size+1=g:=by simpa [Value.ownBlock] using U
   subst e;refine⟨#[.slice (some ⟨w.heap.size,0,none⟩) 1 1],105,(0,0),by have:=heap_alloc_new (w.alloc (.cells (wordCells .u64 [10000000000000000000]) 190)) (.cells #[.slice (some ⟨w.heap.size,0,none⟩) 1 1] 105);rw[World.size_alloc] at this;exact this,?_⟩;intro i u q
   match i with
   |0=>simp at q;exact⟨_,_,_,q.symm⟩
   |i+1=>simp at q
  .
   intro i v V
   match i with
   |0=>simp at V;exact⟨_,_,[10000000000000000000],V.symm,T⟩
   |i+1=>simp at V
  . exact(bR.alloc lZ _).alloc (by rw[World.size_alloc];omega) _
 case round=>
  obtain⟨n,vs,S,c1,c,W,rfl,I,r,X,Y,q,av,aw,hb⟩:=hrel;have Z:=Qi4 r;have ai:=Qlx q;have aj:=Qvz n;obtain⟨s,f,ak,aa,K,HB⟩:=Ie W r X Y q hb;have au:=hb.size;have ax:1<=c.length:=by omega
  have E:63*(n+1)<64*c.length:=by omega
  clear W I r X Y q hb ai aj;by_cases hc:2*c.length<=D.length+1
  .
   have q1:(2*(c.length:Int) - 1<=(D.length:Int)):=by omega
   have HM:=Hi (Qj0 S S c1 c1 c c (pw n) (pw n) wr K.o K.o (by omega));go_wp2_with fail;go_fit HM.o;rintro e w2 ⟨⟨C,c2,t,rfl,F⟩,J⟩;rw[<-Qex] at F;have ay:t.length<=2*c.length:=F.num.length_le_of_lt (by decide) (by
    rw[Qex,show 2*c.length=c.length+c.length by omega,Nat.pow_add];have h1:=Qab (B:=18446744073709551616) (by decide) K.o.num.small;rw[K.o.num.eq] at h1
    exact Nat.mul_lt_mul'' h1 h1)
   have al:=J.size;obtain⟨am,G⟩:=Ia F J;clear HM F J;have y:Bl w2 (w2.alloc (.cells #[.slice C t.length c2] 105)):=bR.alloc lZ _;have l:=Qcw (Qcw f.o G.o) y;have p:SlBlk (w2.alloc (.cells #[.slice C t.length c2] 105)) u4:=(ak.o.below fun g U=>G.o.block g (f.o.lt g U).2).below fun g U=>y.block g (by have:=(f.o.lt g U).2;omega)
   have E:∀j u,[Value.slice C t.length c2][j]?=some u->(w2.alloc (.cells #[.slice C t.length c2] 105)).cell? ((⟨w2.heap.size,0,none⟩:Addr).add j)=some u:=World.news_of_block (heap_alloc_new w2 _);have z:∀u∈ [Value.slice C t.length c2],u.oneCell'=true:=fun u q=>by rw[List.mem_singleton.1 q];rfl
   obtain⟨v',w3,hr,A,b,_,an⟩:=run_append_own_at (P:=prog) (w2.alloc (.cells #[.slice C t.length c2] 105)) w.heap.size 230 230 105 i0 (.slice none 0 0) 1 24 underlying230 HI.o O.o Q.o R.o rfl (by decide) u4 (n+1) vs l ⟨w2.heap.size,0,none⟩ 1 1 [.slice C t.length c2] rfl E z (by unfold maxLen;omega) (by omega) (by rw[World.size_alloc];omega);obtain⟨ao,ab,ap,ad,aq,HR⟩:=Ie (Qvx (m:=1) HI.o O.o Q.o R.o l p rfl E z (fun u q=>⟨_,_,_,List.mem_singleton.1 q⟩) (by decide) (by omega) hr) ((am.o.below y).grownSl b p) (((aa.o.below G.o).below y).grown b p) A (((HB.o.trans (G.o.mono (by omega))).alloc (by omega) (.cells #[.slice C t.length c2] 105)).grown b (by rw[World.size_alloc];omega) (fun k hk=>(f.o.lt k hk).1)) hr
   clear y l p E z hr A b an;go_wp2_with (at_builtin;refine Qbl _ rfl _ _ 230 230 rfl u4 (.slice (some ⟨w2.heap.size,0,none⟩) 1 1) _ _ rfl rfl HR.o ?_);clear HR;go_wp2;go_roundw
   case rel=>
    refine⟨n+1,vs++ [.slice C t.length c2],C,c2,t,by rw[List.length_append,s.o];rfl,rfl,?_,ad.o,ao.o,ap.o.snoc (by rw[s.o];exact ab.o),ab.o,by omega,by omega,aq.o⟩;rw[List.getElem?_append_right (by rw[s.o];omega),s.o,Nat.sub_self];rfl
   case measure=>
    rw[Z];have:=Qi4 ad.o;simp only[sliceLen] at this ⊢;simp at this ⊢;omega
  .
   have q1:¬(2*(c.length:Int) - 1<=(D.length:Int)):=by omega
   obtain⟨g,ae,rfl,az,ar⟩:=f.o.form (by omega);go_wp2;go_ret;have H:=f.o.cells (g:=g) rfl;refine⟨⟨g,n,ae,rfl,?_,⟨vs,s.o,fun i v V=>?_,aa.o⟩,ar,Qv0 K.o (HX.o.below HB.o) (by omega),by omega,Qv1 (Qlx K.o) (by omega)⟩,HB.o⟩
   .
    rcases f.o.2 with ⟨h,_⟩|⟨g',cap',a0,he,_,_,hf,_⟩
    . cases h
    . injection he with _ _ h3
      omega
   .
    have:=H i v V;rw[Lib.add_plain,Nat.zero_add] at this;exact this
def Pw(w:Vz)(g n:Nat):Prop:=∀i,i<n->∃a c l,w.cell? ⟨g,i,none⟩=some (.slice a (List.length l) c)/\U64 w a c l (pw i)
theorem Pw.below{w b:Vz}{g n:Nat}(h:Pw w g n)(d:Bl w b):Pw b g n:=fun i f=>by
 obtain⟨a,c,l,e,j⟩:=h i f;exact⟨a,c,l,ce d (World.block_lt_of_cell? _ _ e) e,j.below d⟩
theorem Pw.wrote{B b:Nat}{l:Vu}{w e:Vz}{g n:Nat}(h:Pw w g n)(f:Bd8 B b l w)(k:Wr b w e):Pw e g n:=fun i j=>by
 obtain⟨a,c,m,o,p⟩:=h i j;obtain⟨s,t,u,d,_⟩:=h 0 (by omega);obtain⟨q,r⟩:=f.slice_apart d;exact⟨a,c,m,(World.cell?_of_block (w:=w) (a:=⟨g,i,none⟩) (k.block g (World.block_lt_of_cell? _ _ d) q r)).trans o,p.wrote f k⟩
theorem Pw.less{w:Vz}{g n m:Nat}(h:Pw w g n)(a:m<=n):Pw w g m:=fun i b=>h i (by omega)
theorem Qvp{w:Vz}{a:Vx}{c x:Nat}{l:Vy}(h:U64 w a c l x)(b:x<10000000000000000000):l.getD 0 0=x:=by
 have hl:l.length<=1:=h.num.length_le_of_lt (by decide) (by rw[Nat.pow_one];omega);rw[<-h.num.eq]
 match l,hl with
 | [],_=>rfl
 | [d],_=>simp[val]
theorem Qvq(w0:Vz)(b g:Nat)(hT:Tab w0)(n:Nat):∀(j:Nat) (i:Bool) (l:Vu) (a:Vx) (c x:Nat) (P:Vy) (w:Vz),Below w0.heap.size w0 w->Bd8 w0.heap.size b l w->U64 w a c P x->Pw w g n->n<=j->x<pw n->P.length<=274877906944->n<=1099511627776->l.length+19*2 ^ n<=140737488355328->
 Calls prog 188 #[.pointer (some ⟨b,0,none⟩),.slice a P.length c,.slice (some ⟨g,0,none⟩) n j,.bool i] w (Digs w0.heap.size b l i (19*2 ^ n) x w):=by
 induction n with
 |zero=>
  intro j i l a c x P w Y hd M hp ah Z ai hn hl;rw[Qlw] at Z;have S:=Hi (Qby a c P 0 w M.row M.short (by decide));rw[Qvp M Z] at S;have aa:=Hi (Qvo w0 w b l x i hT Y hd Z (by simpa using hl));clear Y hd M hp;go_enter func188,ntmps188;go_wp2_with fail;go_fit S.o;rintro e w1 ⟨rfl,hw⟩;subst hw;clear S;go_wp2_with fail;go_fit aa.o;rintro e w2 ⟨m,A,rfl,k,f,d⟩;obtain⟨HO,aj,C,D⟩:=Ic A k f d;clear aa A k f d;go_wp2;go_end0;exact⟨m,by simpa using HO.o,rfl,aj.o,C.o,D.o⟩
 |succ n ih=>
  intro j i l a c x P w Y hd M hp ah Z ai hn hl;obtain⟨ap,cp,lp,ak,ab⟩:=hp n (by omega);obtain⟨ad,HB,HD,HP,E⟩:=Id (Qjw a ap c cp P lp x (pw n) w M ab (Qg4 n) (by omega)) Y hd hp ih;have ae:x / pw n<pw n:=by rw[Nat.div_lt_iff_lt_mul (Qg4 n)];rw[Qex] at Z;exact Z
  have T:x % pw n<pw n:=Nat.mod_lt _ (Qg4 n);have Q:∀(w':Vz) (a':Vx) (c' y:Nat) (l':Vy),U64 w' a' c' l' y->y<=x->l'.length<=P.length:=fun w' a' c' y l' h' hy=>h'.num.length_le_of_lt (by decide) (Nat.lt_of_le_of_lt hy (by have:=Qab (B:=18446744073709551616) (by decide) M.num.small;rw[M.num.eq] at this;exact this))
  obtain⟨R,HX⟩:=Ia Q (Nat.div_add_mod x (pw n));have h2:19*2 ^ (n+1)=2*(19*2 ^ n):=by rw[Nat.pow_succ];omega
  have af:=Hi (show pw n=10 ^ (19*2 ^ n) from rfl);have n1:((n+1:Nat):Int) - 1=(n:Int):=by omega
  have n2:((n:Int)+1) - 1=(n:Int):=by omega
  have n0:(((n+1:Nat):Int) == 0)=false:=by rw[beq_eq_false_iff_ne];omega
  have N:w0.heap.size<=w.heap.size:=Y.size;clear Y hd M hp ab ih Q;go_enter func188,ntmps188;go_wp2_with fail;go_fit ad.o;rintro e w1 ⟨⟨aq,cq,lq,ar,cr,lr,rfl,hq,hr⟩,u⟩;have hz:=hq.num.len_zero (by decide);obtain⟨ag,U,HQ,HR,V,v,F,W,G⟩:=Ih (R.o _ _ _ _ _ hq (Nat.div_le_self _ _)) (R.o _ _ _ _ _ hr (Nat.mod_le _ _)) hq hr u (HD.o.below u) (HP.o.below u) (Wr.below HD.o.lt u) (HB.o.trans (u.mono N));have am:=u.size;clear ad hq hr u;cases i with
  |true=>
   have H:=Hi (E.o j true l aq cq (x / pw n) lq w1 G.o v.o HQ.o (F.o.less (by omega)) (by omega) ae (by have:=ag.o;omega) (by omega) (by omega));clear hz;go_wp2_with fail;go_fit H.o;rintro e w2 ⟨m1,z,rfl,k,f,d⟩;obtain⟨X,p,C,D⟩:=Ic z (E.o j true (l++m1) ar cr (x % pw n) lr w2 (G.o.trans f) k (HR.o.wrote v.o d) ((F.o.wrote v.o d).less (by omega)) (by omega) T (by have:=U.o;omega) (by omega) (by rw[List.length_append];have:=z.most;omega)) f d;clear H z k f d;go_wp2_with fail;go_fit p.o;rintro e w3 ⟨m2,q,rfl,r,s,t⟩;obtain⟨I,J,K,L⟩:=Ic q r s t;clear p q r s t;go_wp2;go_end0;have A:=Qlv X.o I.o (.inl rfl);rw[<-af.o,Nat.mul_comm (x / pw n),HX.o,<-h2] at A
   exact⟨m1++m2,A,rfl,by rw[<-List.append_assoc];exact J.o,(V.o.mono N).trans (C.o.trans K.o),W.o.trans (D.o.trans L.o)⟩
  |false=>
   by_cases an:0<lq.length
   .
    have q1:((0:Int)<(lq.length:Int)):=by omega
    have HF:O (0<x / pw n):=Hi (by
     rcases Nat.eq_zero_or_pos (x / pw n) with h|h
     . have:=hz.1 h;omega
     . exact h)
    have H:=Hi (E.o j false l aq cq (x / pw n) lq w1 G.o v.o HQ.o (F.o.less (by omega)) (by omega) ae (by have:=ag.o;omega) (by omega) (by omega));clear hz;go_wp2_with fail;go_fit H.o;rintro e w2 ⟨m1,z,rfl,k,f,d⟩;obtain⟨X,p,C,D⟩:=Ic z (E.o j true (l++m1) ar cr (x % pw n) lr w2 (G.o.trans f) k (HR.o.wrote v.o d) ((F.o.wrote v.o d).less (by omega)) (by omega) T (by have:=U.o;omega) (by omega) (by rw[List.length_append];have:=z.most;omega)) f d;clear H z k f d;go_wp2_with fail;go_fit p.o;rintro e w3 ⟨m2,q,rfl,r,s,t⟩;obtain⟨I,J,K,L⟩:=Ic q r s t;clear p q r s t;go_wp2;go_end0;have A:=Qlv X.o I.o (.inr HF.o);rw[<-af.o,Nat.mul_comm (x / pw n),HX.o,<-h2] at A
    exact⟨m1++m2,A,rfl,by rw[<-List.append_assoc];exact J.o,(V.o.mono N).trans (C.o.trans K.o),W.o.trans (D.o.trans L.o)⟩
   .
    have q1:¬((0:Int)<(lq.length:Int)):=by omega
    have al:x % pw n=x:=by
     have h1:=HX.o;rw[hz.2 (by omega),Nat.mul_zero,Nat.zero_add] at h1;exact h1
    have p:=Hi (E.o j false l ar cr (x % pw n) lr w1 G.o v.o HR.o (F.o.less (by omega)) (by omega) T (by have:=U.o;omega) (by omega) (by omega));clear hz;go_wp2_with fail;go_fit p.o;rintro e w3 ⟨m2,q,rfl,r,s,t⟩;obtain⟨I,J,K,L⟩:=Ic q r s t;clear p q r s t;go_wp2;go_end0;have A:=I.o;rw[al] at A;exact⟨m2,A.grow (by omega),rfl,J.o,(V.o.mono N).trans K.o,W.o.trans L.o⟩
def TextAns(x:Nat)(w:Vz)(e:Ending)(w':Vz):Prop:=(∃s:Vs,e=.returned (.string s)/\IsDec s.data.toList x/\s.size<=140737488355328)/\Below w.heap.size w w'
theorem Qvr(a:Vx)(c x:Nat)(l:Vy)(w:Vz)(T:Tab w)(h:U64 w a c l x)(hl:l.length<=274877906944):
 Calls prog 130 #[.slice a l.length c] w (TextAns x w):=by
 obtain⟨F,j⟩:=nm (w.alloc (.cells #[.pointer none,.slice none 0 0] 228));have d:Bl w F:=by rw[<-j];exact(Below.refl _ _).alloc lZ _
 have k:F.heap[w.heap.size]?=some (.cells #[.pointer none,.slice none 0 0] 228 (0,0)):=by rw[<-j];exact heap_alloc_new w _
 have p:Bd8 w.heap.size w.heap.size [] F:=⟨.inl ⟨Nat.le_refl _,.slice none 0 0,k,World.ownsRow_nil _ _ _ _,by simp[Value.ownBlock]⟩,fun v q=>by
  rw[Lib.cell_of_heap k] at q;have:v=.slice none 0 0:=by simpa using q.symm
  subst this;intro g W
  simp[Value.ownBlock] at W⟩
 obtain⟨r,X,Y,s,G,Z⟩:=Ie (Qv2 a c x l F (h.below d) hl) (h.below d) p d j T;have t:=d.size;clear T h d k p j;go_enter func130,ntmps130;go_wp2_with fail;rw[G.o];go_fit r.o;rintro e w1 ⟨⟨g,n,H,rfl,I,⟨vs,J,u,f⟩,K,U,aa,L⟩,b⟩;have y:Pw w1 g (n+1):=fun i hi=>by
  obtain⟨v,q⟩:∃v,vs[i]?=some v:=⟨vs[i]'(by omega),gE (by omega)⟩;obtain⟨a',c',l',e',M⟩:=f i v q;exact⟨a',c',l',by rw[u i v q,e'],M⟩
 obtain⟨z,N⟩:=Ia (Qvq w w.heap.size g Z.o (n+1) H false [] a c x l w1 (s.o.trans (b.mono t)) (Y.o.below b) (X.o.below b) y I U hl (by omega) (by rw[List.length_nil];omega)) (s.o.trans (b.mono t));have V:=b.size;clear r y J u f K U b;go_wp2_with fail;go_fit z.o;rintro e w2 ⟨m,O,rfl,A,B,C⟩;obtain⟨D,P,Q,R⟩:=Ic (Qvl w.heap.size w.heap.size m w2 (by have:=A.bd;rwa [List.nil_append] at this) (by have:=C.size;omega)) O.dec O.most (N.o.trans B);clear z O A B C;go_wp2_with fail;go_fit D.o;rintro e w3 ⟨rfl,E⟩;have S:=Hi (R.o.trans E);clear D E;go_wp2;go_ret;refine⟨⟨_,rfl,P.o,?_⟩,S.o⟩;have h1:=Q.o;rw[<-Qag]
 show m.length<=_
 omega
def QAns(q:Rat)(w:Vz)(e:Ending)(w':Vz):Prop:=(∃s:Vs,e=.returned (.string s)/\QText s.data.toList q)/\Below w.heap.size w w'
theorem Qct(s t:Vs):(s++t).data.toList=s.data.toList++t.data.toList:=by simp[ByteArray.data_append]
theorem Qn3(w:Vz)(d:Nat)(a:Vx)(n c:Nat):(Op.equalIn (d+1) 105 (.slice a n c) (.slice none 0 0)).run prog w=.ok a.isNone w:=by
 cases a<;>simp[Op.equalIn,run_underlying underlying105]
theorem Qn4(w:Vz)(a:Vx)(n c:Nat):(Op.equal 105 (.slice a n c) (.slice none 0 0)).run prog w=.ok a.isNone w:=Qn3 w 9999 a n c
theorem Qn5(w:Vz)(a:Vx)(n c:Nat):(binOp .neq 105 (.slice a n c) (.slice none 0 0)).run prog w=.ok (.bool a.isSome) w:=by
 cases a<;>simp[binOp,Qn4]
theorem Qfg{a:Vx}{n c x K:Nat}{w:Vz}(b:Tab w)(h:NumV w a n c x)(d:x<2 ^ K)(e:K<=274877906944):Calls prog 130 #[.slice a n c] w (TextAns x w):=by
 obtain⟨l,rfl,h⟩:=h;exact Qvr a c x l w b h (Nat.le_trans (h.len_bits d) e)
theorem num_Q(neg:Bool)(a b:Vx)(n c m d K:Nat)(q:Rat)(w:Vz)(H:Tab w)(h:FracAt w neg a n c b m d q)(I:Fits q K)(J:K<=274877906944):
 Calls prog 67 #[.agg #[.bool neg,.slice a n c,.slice b m d]] w (QAns q w):=by
 have X:=Qn5;obtain⟨Q,s⟩:=nm (w.alloc (.cells #[.bool neg,.slice a n c,.slice b m d] 107));have g:Bl w Q:=by rw[<-s];exact(Below.refl _ _).alloc lZ _
 have x:SB Q w.heap.size 107 #[.bool neg,.slice a n c,.slice b m d]:=by rw[<-s];exact SB.new w _ _
 obtain⟨y,z,A,B,R,t,L,M⟩:=Ig (Qfg (H.below g) (h.top.below g) I.1 J) (h.low.below g) (H.below g) h.neg I x g s;have N:=g.size;clear H h I g x s;go_enter func67,ntmps67;obtain⟨-,k1,-⟩:=zc t.o;go_wp2_with fail;rw[M.o];go_fit y.o;rintro e w1 ⟨⟨G,rfl,C,T⟩,i⟩;obtain⟨D,j,E,F⟩:=Ic C (L.o.trans (i.mono N)) (z.o.below i) (A.o.below i);obtain⟨Y,-,Z,-⟩:=zc (t.o.below i t.o.lt);have S:=i.size;clear y C i k1 z A;cases neg with
 |true=>
  have k:O (IntText ((⟨#[45]⟩:ByteArray)++G).data.toList q.num):=Hi ⟨G.data.toList,D.o,by rw[if_pos (of_decide_eq_true B.o.symm),Qct];rfl⟩;rcases E.o with ⟨rfl,rfl,rfl,f⟩|⟨f,hl⟩
  .
   go_wp2;go_ret;exact⟨⟨_,rfl,_,k.o,.inl ⟨f,rfl⟩⟩,j.o⟩
  .
   obtain⟨U,V,rfl⟩:=hl.some (by omega);have l:=Hi (Qfg F.o hl R.o.2 J);clear hl;go_wp2_with fail;go_fit l.o;rintro e w2 ⟨⟨W,rfl,p,P⟩,r⟩;obtain⟨u,v⟩:=Ia p (j.o.trans (r.mono j.o.size));clear l p r;go_wp2;go_ret;exact⟨⟨_,rfl,_,k.o,.inr ⟨by omega,_,u.o,by rw[Qct,Qct];rfl⟩⟩,v.o⟩
 |false=>
  have k:O (IntText G.data.toList q.num):=Hi ⟨G.data.toList,D.o,by rw[if_neg (of_decide_eq_false B.o.symm)]⟩;rcases E.o with ⟨rfl,rfl,rfl,f⟩|⟨f,hl⟩
  .
   go_wp2;go_ret;exact⟨⟨_,rfl,_,k.o,.inl ⟨f,rfl⟩⟩,j.o⟩
  .
   obtain⟨U,V,rfl⟩:=hl.some (by omega);have l:=Hi (Qfg F.o hl R.o.2 J);clear hl;go_wp2_with fail;go_fit l.o;rintro e w2 ⟨⟨W,rfl,p,P⟩,r⟩;obtain⟨u,v⟩:=Ia p (j.o.trans (r.mono j.o.size));clear l p r;go_wp2;go_ret;exact⟨⟨_,rfl,_,k.o,.inr ⟨by omega,_,u.o,by rw[Qct,Qct];rfl⟩⟩,v.o⟩
theorem Qdr{v:Value}{K:Nat}{q:Rat}{w:Vz}(e:Tab w)(h:FracV w v q)(f:Fits q K)(g:K<=274877906944):Calls prog 67 #[v] w (QAns q w):=by
 obtain⟨neg,a,n,c,b,m,d,rfl,h⟩:=h;exact num_Q neg a b n c m d K q w e h f g
theorem Qh6(A B:Vx)(c1 c2:Nat)(l m:Vy)(w:Vz)(d:Row .u64 w A c1 l)(C:Row .u64 w B c2 m)(hl:l.length<=1099511627776)(R:m.length<=1099511627776):
 Calls prog 240 #[.slice A l.length c1,.slice B m.length c2] w fun e I=>e=.returned (.bool (decide (l=m)))/\Below w.heap.size w I:=by
 obtain⟨J,K⟩:=Ia d C;clear d C;by_cases a:l.length=m.length
 .
  have L:((l.length:Int) != (m.length:Int))=false:=by simp[a]
  have M:((l.length:Int) == (m.length:Int))=true:=by simp[a]
  go_enter func240,ntmps240;go_wp2;go_loopw [13] (fun n wr=>∃k:Nat,k<=l.length/\n=.int .i64 k/\l.take k=m.take k/\Below w.heap.size w wr) (fun n _=>l.length - (intOf n).toNat)
  case atStart=>exact⟨0,by omega,rfl,by simp,Below.refl _ _⟩
  case round=>
   obtain⟨k,hk,rfl,D,E⟩:=hrel;obtain⟨F,f⟩:=Ia D E;clear D E;by_cases b:k<l.length
   .
    obtain⟨b1,S,rfl,N,p⟩:=(J.o.below f.o).cell k b;obtain⟨b2,T,rfl,P,q⟩:=(K.o.below f.o).cell k (by omega);obtain⟨x,i⟩:=nm (l.getD k 0);obtain⟨y,j⟩:=nm (m.getD k 0);rw[i] at p;rw[j] at q;obtain⟨r,s⟩:=Ia i j;have G:l.take (k+1)=l.take k++ [x]:=by rw[List.take_succ_eq_append_getElem b,<-i,List.getD_eq_getElem?_getD,gE b];rfl
    have H:m.take (k+1)=m.take k++ [y]:=by rw[List.take_succ_eq_append_getElem (by omega),<-j,List.getD_eq_getElem?_getD,gE (by omega)];rfl
    obtain⟨t,u⟩:=Ia G H;clear i j G H;by_cases g:x=y
    .
     subst g;have Q:((x:Int) == (x:Int))=true:=by simp
     go_wp2_with fail;go_region
     all_goals
      go_wp2;go_roundw
      case rel=>exact⟨k+1,by omega,by go_num,by rw[t.o,u.o,F.o],f.o.drew⟩
      case measure=>simp[intOf];omega
    .
     have Q:((x:Int) == (y:Int))=false:=by rw[beq_eq_false_iff_ne];omega
     have U:((x:Int) != (y:Int))=true:=by rw[bne_iff_ne];omega
     have c:O (decide (l=m)=false):=Hi (decide_eq_false (fun h=>by
      have d:=r.o;rw[h,s.o] at d
      exact g d.symm))
     go_wp2_with fail;go_region
     all_goals
      go_wp2;go_ret;exact⟨by rw[c.o];rfl,f.o.drew⟩
   .
    have v:k=l.length:=by omega
    subst v;have z:O (decide (l=m)=true):=Hi (decide_eq_true (by have:=F.o;rwa [List.take_length,List.take_of_length_le (by omega)] at this));go_wp2;go_ret;exact⟨by rw[z.o];rfl,f.o⟩
 .
  have L:((l.length:Int) != (m.length:Int))=true:=by rw[bne_iff_ne];omega
  have M:((l.length:Int) == (m.length:Int))=false:=by rw[beq_eq_false_iff_ne];omega
  have c:O (decide (l=m)=false):=Hi (decide_eq_false (fun h=>a (by rw[h])));go_enter func240,ntmps240;go_wp2;go_ret;exact⟨by rw[c.o];rfl,Below.refl _ _⟩
theorem Low.row{w:Vz}{b:Vx}{m d k:Nat}(h:Low w b m d k):∃L:Vy,L.length=m/\Row .u64 w b d L/\L.length<=1099511627776/\((L= []/\k=1)∨(1<k/\Num 18446744073709551616 L k)):=by
 rcases h with ⟨rfl,rfl,rfl,rfl⟩|⟨h,l,hl,a⟩
 . exact⟨[],rfl,Row.nil _ _,by simp,.inl ⟨rfl,rfl⟩⟩
 . exact⟨l,hl,a.row,a.short,.inr ⟨h,a.num⟩⟩
theorem Qh7{L M:Vy}{j k:Nat}(b:(L= []/\j=1)∨(1<j/\Num 18446744073709551616 L j))(c:(M= []/\k=1)∨(1<k/\Num 18446744073709551616 M k)):L=M↔j=k:=by
 rcases b with ⟨rfl,rfl⟩|⟨d,n1⟩<;>rcases c with ⟨rfl,rfl⟩|⟨e,a⟩
 . simp
 .
  constructor
  . rintro rfl;have:=a.eq;simp[val] at this;omega
  . intro h;omega
 .
  constructor
  . rintro rfl;have:=n1.eq;simp[val] at this;omega
  . intro h;omega
 .
  constructor
  . rintro rfl;rw[<-n1.eq,<-a.eq]
  . rintro rfl;exact n1.inj (by decide) a
theorem Qn6(p q:Rat):p=q↔(decide (p.num<0)=decide (q.num<0)/\p.num.natAbs=q.num.natAbs/\p.den=q.den):=by
 constructor
 . rintro rfl;exact⟨rfl,rfl,rfl⟩
 .
  rintro⟨a,b,c⟩;refine Rat.ext ?_ c;rw[<-Qbs p.num,<-Qbs q.num,a,b]
theorem Qn7(x y:Bool)(A B C b2:Vx)(lx D mx E ly F my G:Nat)(p q:Rat)(w:Vz)(Q:FracAt w x A lx D B mx E p)(R:FracAt w y C ly F b2 my G q):
 Calls prog 210 #[.agg #[.bool x,.slice A lx D,.slice B mx E],.agg #[.bool y,.slice C ly F,.slice b2 my G]] w fun e w'=>e=.returned (.bool (decide (p=q)))/\Below w.heap.size w w':=by
 obtain⟨S,rfl,z⟩:=Q.top;obtain⟨T,rfl,H⟩:=R.top;obtain⟨U,rfl,I,l,d⟩:=Q.low.row;obtain⟨V,rfl,J,m,f⟩:=R.low.row;have hT:decide (S=T)=decide (p.num.natAbs=q.num.natAbs):=by
  by_cases h:p.num.natAbs=q.num.natAbs
  . rw[decide_eq_true h];rw[h] at z;exact decide_eq_true (z.num.inj (by decide) H.num)
  . rw[decide_eq_false h];exact decide_eq_false (fun Z=>h (by rw[<-z.num.eq,<-H.num.eq,Z]))
 have hL:decide (U=V)=decide (p.den=q.den):=by
  by_cases h:p.den=q.den
  . rw[decide_eq_true h];exact decide_eq_true ((Qh7 d f).2 h)
  . rw[decide_eq_false h];exact decide_eq_false (fun Z=>h ((Qh7 d f).1 Z))
 have n:=Qn6 p q;rw[<-Q.neg,<-R.neg] at n;obtain⟨W,g⟩:=nm ((w.alloc (.cells #[.bool x,.slice A S.length D,.slice B U.length E] 107)).alloc (.cells #[.bool y,.slice C T.length F,.slice b2 V.length G] 107));have c:Bl w W:=by rw[<-g];exact Below.new2 w _ _
 have r:SB W (w.heap.size+1) 107 #[.bool y,.slice C T.length F,.slice b2 V.length G]:=by rw[<-g];exact SB.new2 w _ _ _ _
 have s:SB W w.heap.size 107 #[.bool x,.slice A S.length D,.slice B U.length E]:=by rw[<-g];exact(SB.new w _ _).alloc _
 obtain⟨a,i⟩:=Ia (Qh6 A C D F S T W (z.row.below c) (H.row.below c) z.short H.short) (fun w1 hb=>Qh6 B b2 E G U V w1 ((I.below c).below hb) ((J.below c).below hb) l m);rw[hT] at a;rw[hL] at i;obtain⟨x0,x1,-⟩:=zc s;obtain⟨y0,y1,-⟩:=zc r;obtain⟨K,L,t,u,j⟩:=Id s r c g n;have M:=c.size;clear Q R z H I l d J m f hT hL n c s r g;by_cases hn:x=y
 .
  subst hn;by_cases X:p.num.natAbs=q.num.natAbs
  .
   rw[decide_eq_true X] at a;go_enter func210,ntmps210;go_wp2_with fail;rw[u.o];go_fit a.o;rintro e w1 ⟨rfl,b⟩;have N:=Hi (i.o w1 b);obtain⟨-,-,x2,-⟩:=zc (K.o.below b K.o.lt);obtain⟨-,-,y2,-⟩:=zc (L.o.below b L.o.lt);have k:=Hi (t.o.trans (b.mono M));clear a i b;go_wp2_with fail;go_fit N.o;rintro e w2 ⟨rfl,P⟩;have aa:=Hi (k.o.trans (P.mono k.o.size));clear N P;go_wp2;go_ret;refine⟨?_,aa.o⟩;by_cases Y:p.den=q.den
   . rw[decide_eq_true Y,decide_eq_true (j.o.2 ⟨by trivial,X,Y⟩)];rfl
   . rw[decide_eq_false Y,decide_eq_false (fun h=>Y (j.o.1 h).2.2)];rfl
  .
   rw[decide_eq_false X] at a;have v:O (decide (p=q)=false):=Hi (decide_eq_false (fun h=>X (j.o.1 h).2.1));go_enter func210,ntmps210;go_wp2_with fail;rw[u.o];go_fit a.o;rintro e w1 ⟨rfl,b⟩;have k:=Hi (t.o.trans (b.mono M));clear a i b;go_wp2;go_ret;exact⟨by rw[v.o];rfl,k.o⟩
 .
  have q0:(x == y)=false:=by simpa using hn
  have v:O (decide (p=q)=false):=Hi (decide_eq_false (fun h=>hn (j.o.1 h).1));clear a i;go_enter func210,ntmps210;go_wp2;go_ret;exact⟨by rw[v.o];rfl,by rw[u.o];exact t.o⟩
theorem Qn8{c d:Value}{p q:Rat}{w:Vz}(a:FracV w c p)(b:FracV w d q):Calls prog 210 #[c,d] w fun e f=>e=.returned (.bool (decide (p=q)))/\Below w.heap.size w f:=by
 obtain⟨g,h,i,j,k,l,m,rfl,a⟩:=a;obtain⟨n,o,r,s,b2,t,u,rfl,b⟩:=b;exact Qn7 g n h k o b2 i j l m r s t u p q w a b
def hasTen:Prop:=(prog.globalNamed "internal/strconv.uint64pow10").isSome=true
structure Glob (w:Vz):Prop where
 most:∃m,w.cell? ⟨4,0,none⟩=some (.int .i64 m)
 tab:hasTen->Tab w
theorem Glob.below{w a:Vz}(h:Glob w)(b:Bl w a):Glob a:=by
 obtain⟨m,c⟩:=h.most;exact⟨⟨m,ce b (World.block_lt_of_cell? _ _ c) c⟩,fun d=>(h.tab d).below b⟩
structure FE where
 x:Value
 y:Value
 z:Value
 q:Rat
 k:Nat
structure FBag (w0 w:Vz) (L:List FE):Prop where
 base:Bl w0 w
 glob:Glob w0
 ts:∀t,t∈ L->FracV w (.agg #[t.x,t.y,t.z]) t.q/\Fits t.q t.k/\0<t.k
theorem FBag.start{w:Vz}(h:Glob w):FBag w w []:=⟨Below.refl _ _,h,fun t a=>by cases a⟩
theorem FBag.below{w0 w a:Vz}{L:List FE}(h:FBag w0 w L)(b:Bl w a):FBag w0 a L:=
 ⟨h.base.trans (b.mono h.base.size),h.glob,fun t c=>⟨(h.ts t c).1.below b,(h.ts t c).2⟩⟩
theorem FBag.drew{w0 w:Vz}{L:List FE}(h:FBag w0 w L):FBag w0 w.drew L:=h.below bR.drew
theorem FBag.globNow{w0 w:Vz}{L:List FE}(h:FBag w0 w L):Glob w:=h.glob.below h.base
theorem FBag.get{w0 w:Vz}{L:List FE}{x y z:Value}{q:Rat}{k:Nat}(h:FBag w0 w L)(a:⟨x,y,z,q,k⟩∈ L):FracV w (.agg #[x,y,z]) q/\Fits q k/\0<k:=h.ts _ a
theorem FBag.put{w0 w:Vz}{L:List FE}{x y z:Value}{q:Rat}{k:Nat}(h:FBag w0 w L)(b:FracV w (.agg #[x,y,z]) q)(c:Fits q k)(hk:0<k):FBag w0 w (⟨x,y,z,q,k⟩ :: L):=
 ⟨h.base,h.glob,fun t a=>by
   rcases List.mem_cons.1 a with rfl|a
   . exact⟨b,c,hk⟩
   . exact h.ts t a⟩
theorem FBag.only{w0 w a:Vz}{L:List FE}{g:Nat}{t:Vr}{C:Vw}(h:FBag w0 w L)(b:Only g w a)(d:SB w g t C)(e:NoU64 C)(f:w0.heap.size<=g):FBag w0 a L:=
 ⟨Only.fresh h.base b f,h.glob,fun t c=>⟨(h.ts t c).1.only b d e,(h.ts t c).2⟩⟩
theorem FBag.from{w0 w1 w:Vz}{L M:List FE}(h:FBag w1 w L)(b:Bl w0 w1)(c:Glob w0)(d:∀t,t∈ M->∃k,⟨t.x,t.y,t.z,t.q,k⟩∈ L/\k<=t.k):FBag w0 w M:=by
 refine⟨b.trans (h.base.mono b.size),c,fun t e=>?_⟩;obtain⟨k,hk,a⟩:=d t e;have:=h.ts _ hk;exact⟨this.1,this.2.1.mono a,Nat.lt_of_lt_of_le this.2.2 a⟩
def FNewB(w0:Vz)(L:List FE)(q:Rat)(k:Nat)(e:Ending)(w':Vz):Prop:=∃x y z,e=.returned (.agg #[x,y,z])/\FBag w0 w' (⟨x,y,z,q,k⟩ :: L)
theorem FBag.new{w0 w f:Vz}{L:List FE}{q:Rat}{k:Nat}{e:Ending}(h:FBag w0 w L)(g:FNew w q e f)(i:Fits q k)(hk:0<k):FNewB w0 L q k e f:=by
 obtain⟨⟨v,rfl,neg,a,n,c,b,m,d,rfl,j⟩,l⟩:=g;exact⟨_,_,_,rfl,(h.below l).put ⟨neg,a,n,c,b,m,d,rfl,j⟩ i hk⟩
theorem FBag.minus{w0 w:Vz}{L:List FE}{x1 x2 x3 y1 y2 y3:Value}{j k:Nat}{p q:Rat}(h:FBag w0 w L)(a:⟨x1,x2,x3,p,j⟩∈ L)(b:⟨y1,y2,y3,q,k⟩∈ L)(f:j+k<68719476000):
 Calls prog 57 #[.agg #[x1,x2,x3],.agg #[y1,y2,y3]] w (FNewB w0 L (p - q) (j+k+1)):=by
 obtain⟨a,c,i⟩:=h.get a;obtain⟨b,d,l⟩:=h.get b;exact(Qa7 a b c d f).mono fun e m g=>h.new g (c.sub d) (by omega)
theorem Fits.div{p q:Rat}{j k:Nat}(h:Fits p j)(b:Fits q k)(c:0<j)(hk:0<k):Fits (p / q) (j+k):=by
 by_cases a:q=0
 . rw[a,Rat.div_def,Rat.inv_zero,Rat.mul_zero];exact Fits.zero.mono (by omega)
 . rw[Rat.div_def];exact h.mul (b.inv a) c
theorem FBag.equal{w0 w:Vz}{L:List FE}{x1 x2 x3 y1 y2 y3:Value}{j k:Nat}{p q:Rat}(h:FBag w0 w L)(a:⟨x1,x2,x3,p,j⟩∈ L)(b:⟨y1,y2,y3,q,k⟩∈ L):
 Calls prog 210 #[.agg #[x1,x2,x3],.agg #[y1,y2,y3]] w (fun e c=>e=.returned (.bool (decide (p=q)))/\FBag w0 c L):=by
 obtain⟨a,f,g⟩:=h.get a;obtain⟨b,i,l⟩:=h.get b;refine(Qn8 a b).mono ?_;rintro e c ⟨rfl,d⟩;exact⟨rfl,h.below d⟩
theorem FBag.of{w0 w:Vz}{L:List FE}{n:Nat}(s:Vs)(h:FBag w0 w L)(c:s.size<=n)(g:n<=1073741824):
 Calls prog 63 #[.string s] w (fun e a=>∃q,QOf s.data.toList q/\FNewB w0 L q (4*n+1) e a):=by
 obtain⟨m,d⟩:=h.globNow.most;refine(Qj9 s m w d (by omega)).mono ?_;rintro e a ⟨q,b,f⟩;exact⟨q,b,h.new f (b.fits (by rw[Qag];exact c)) (by omega)⟩
theorem Qhx{C:Vw}(h:∀v,v∈ C.toList->∀n,v≠Value.int .u64 n):NoU64 C:=fun i n a=>h _ (by rw[<-Array.getElem?_toList] at a;exact mO a) n rfl
theorem Qaa(P:Program){v:Value}(h:v.oneCell'=true):∀(a:Addr) (w:Vz),(store a v).run P w=stored P w a v .plain:=fun a w=>run_store P w a v .plain h
theorem FracV.one{w:Vz}{x y z:Value}{q:Rat}(h:FracV w (.agg #[x,y,z]) q):x.oneCell'=true/\y.oneCell'=true/\z.oneCell'=true:=by
 obtain⟨neg,a,n,c,b,m,d,e,_⟩:=h;simp at e;obtain⟨rfl,rfl,rfl⟩:=e;exact⟨rfl,rfl,rfl⟩
theorem FracV.no64{w:Vz}{x y z:Value}{q:Rat}(h:FracV w (.agg #[x,y,z]) q)(n:Int):x≠.int .u64 n/\y≠.int .u64 n/\z≠.int .u64 n:=by
 obtain⟨neg,a,m,c,b,k,d,e,_⟩:=h;simp at e;obtain⟨rfl,rfl,rfl⟩:=e;exact⟨by simp,by simp,by simp⟩
theorem Tryz.spotInfo:(prog.info? 34).map (·.size)=some 2:=by kernel_rfl
end Go.Proofs.YtkkadnoecklepaaGreatDoor
