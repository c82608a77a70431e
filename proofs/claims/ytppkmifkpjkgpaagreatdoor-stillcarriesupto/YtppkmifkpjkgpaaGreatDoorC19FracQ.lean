import Derived.Test.YtppkmifkpjkgpaaGreatDoorC18TextW
import Derived.Test.YtppkmifkpjkgpaaGreatDoorC17FracC
namespace Go.Proofs.YtppkmifkpjkgpaaGreatDoor
open Go.Proofs.Tryz
set_option linter.unusedSimpArgs false
set_option linter.unusedVariables false
set_option maxHeartbeats 8000000
set_option maxRecDepth 1000000
structure OutT (fill:Bool) (k:Nat) (m:Vu) (x:Nat):Prop where
 dig:AllDigits m
 eq:decVal m=x
 most:m.length<=k
 full:fill=true->m.length=k
 some:m≠ []
 lean:fill=false->m= [48]∨m.head?≠Option.some 48
theorem Qlk(c:UInt8)(l:Vu):decVal (c :: l)=(c.toNat - 48)*10 ^ l.length+decVal l:=by
 have:=Qcc [c] l
 simpa [decVal] using this
theorem Qg2(d:Nat)(h:d<10):(UInt8.ofNat (48+d)).toNat=48+d:=by
 rw[UInt8.toNat_ofNat'];omega
theorem Qv0(u:Nat):AllDigits (Lib.decDigits u)/\decVal (Lib.decDigits u)=u/\Lib.decDigits u≠ []/\(Lib.decDigits u= [48]∨(Lib.decDigits u).head?≠Option.some 48):=by
 induction u using Nat.strongRecOn with
 |_ u ih=>
  rw[Lib.decDigits];by_cases h:u<10
  .
   rw[dif_pos h];have e:=Qg2 u h;refine⟨fun c a=>?_,?_,by simp,?_⟩
   . rw[List.mem_singleton.1 a,e];omega
   . simp only[decVal,List.foldl_cons,List.foldl_nil,e];omega
   .
    by_cases g:u=0
    . left;subst g;rfl
    .
     right;intro a;have d:UInt8.ofNat (48+u)=48:=by simpa using a
     rw[d] at e;have:(48:UInt8).toNat=48:=rfl;omega
  .
   rw[dif_neg h];obtain⟨d,f,i,b⟩:=ih (u / 10) (by omega);have e:=Qg2 (u % 10) (by omega);refine⟨fun c a=>?_,?_,by simp,.inr ?_⟩
   .
    rcases List.mem_append.1 a with a|a
    . exact d c a
    . rw[List.mem_singleton.1 a,e];omega
   . rw[Qfa,f,e];omega
   .
    rcases b with b|b
    .
     rw[b] at f;have:decVal [48]=0:=rfl;omega
    .
     cases hl:Lib.decDigits (u / 10) with
     |nil=>exact absurd hl i
     |cons c t=>rw[hl] at b;simpa using b
theorem Qll{m:Vu}(a:AllDigits m)(b:m≠ [])(h:m.head?≠Option.some 48):10 ^ (m.length - 1)<=decVal m:=by
 cases m with
 |nil=>exact absurd rfl b
 |cons c t=>
  have f:=a c (List.mem_cons_self ..);have d:c.toNat≠48:=by
   intro e;apply h;simp only[List.head?_cons,Option.some.injEq];exact UInt8.toNat_inj.1 e
  rw[Qlk,List.length_cons,Nat.add_sub_cancel];have:1*10 ^ t.length<=(c.toNat - 48)*10 ^ t.length:=Nat.mul_le_mul_right _ (by omega);omega
theorem Qv1{u k:Nat}(e:u<10 ^ k)(hk:0<k):OutT false k (Lib.decDigits u) u:=by
 obtain⟨b,c,d,a⟩:=Qv0 u;refine⟨b,c,?_,(fun h=>by cases h),d,fun _=>a⟩;rcases a with a|a
 . rw[a];simp;omega
 .
  have:=Qll b d a;rw[c] at this;have f:(Lib.decDigits u).length - 1<k:=(Nat.pow_lt_pow_iff_right (by decide:1<10)).1 (Nat.lt_of_le_of_lt this e);omega
theorem Qv2(j:Nat)(m:Vu):decVal (List.replicate j 48++m)=decVal m:=by
 induction j with
 |zero=>rfl
 |succ j a=>rw[List.replicate_succ,List.cons_append,Qju,a]
theorem Qv3{u k:Nat}{m:Vu}(h:OutT false k m u):OutT true k (List.replicate (k - m.length) 48++m) u:=by
 refine⟨fun c a=>?_,by rw[Qv2];exact h.eq,?_,fun _=>?_,?_,(fun h=>by cases h)⟩
 .
  rcases List.mem_append.1 a with a|a
  . rw[List.eq_of_mem_replicate a];decide
  . exact h.dig c a
 . rw[List.length_append,List.length_replicate];have:=h.most;omega
 . rw[List.length_append,List.length_replicate];have:=h.most;omega
 . intro a
   exact h.some (List.append_eq_nil_iff.1 a).2
theorem Qlm{a:Bool}{k g lo:Nat}{j l:Vu}(b:OutT a k j g)(i:OutT true k l lo)(f:a=true∨0<g):OutT a (2*k) (j++l) (g*10 ^ k+lo):=by
 have m:=i.full rfl;refine⟨fun c e=>?_,by rw[Qcc,b.eq,i.eq,m],?_,fun h=>?_,?_,fun h=>.inr ?_⟩
 .
  rcases List.mem_append.1 e with e|e
  . exact b.dig c e
  . exact i.dig c e
 . rw[List.length_append];have:=b.most;have:=i.most;omega
 . rw[List.length_append,b.full h,m];omega
 . intro e
   exact b.some (List.append_eq_nil_iff.1 e).1
 .
  have d:0<g:=by
   rcases f with f|f
   . rw[h] at f;cases f
   . exact f
  rcases b.lean h with hl|hl
  . rw[<-b.eq,hl] at d
    exact absurd d (by decide)
  .
   cases hm:j with
   |nil=>exact absurd hm b.some
   |cons c t=>rw[hm] at hl;simpa using hl
theorem OutT.grow{k a x:Nat}{m:Vu}(h:OutT false k m x)(hk:k<=a):OutT false a m x:=⟨h.dig,h.eq,Nat.le_trans h.most hk,(fun h=>by cases h),h.some,h.lean⟩
theorem Qv4(m:Vu):val 10 (m.reverse.map (fun c=>c.toNat - 48))=decVal m:=by
 induction m with
 |nil=>rfl
 |cons c t a=>
  rw[List.reverse_cons,List.map_append,List.map_cons,List.map_nil,Qaj,a,Qlk,List.length_map,List.length_reverse,Nat.mul_comm (10 ^ t.length)];omega
theorem OutT.dec{k x:Nat}{m:Vu}(h:OutT false k m x):IsDec m x:=by
 by_cases a:x=0
 .
  left;refine⟨a,?_⟩;rcases h.lean rfl with hl|hl
  . exact hl
  .
   have:=Qll h.dig h.some hl;rw[h.eq,a] at this;have:=Nat.pow_pos (n:=m.length - 1) (by decide:0<10);omega
 .
  right;refine⟨a,m.reverse.map (fun c=>c.toNat - 48),⟨?_,?_,by rw[Qv4];exact h.eq⟩,?_⟩
  .
   intro d e;obtain⟨c,b,rfl⟩:=List.mem_map.1 e;have:=h.dig c (List.mem_reverse.1 b);omega
  .
   right;rcases h.lean rfl with hl|hl
   . rw[<-h.eq,hl] at a
     exact absurd rfl a
   .
    cases hm:m with
    |nil=>exact absurd hm h.some
    |cons c t=>
     rw[hm] at hl;have b:=h.dig c (by rw[hm];exact List.mem_cons_self ..);have f:c.toNat≠48:=fun g=>hl (by simp only[List.head?_cons,Option.some.injEq];exact UInt8.toNat_inj.1 g)
     rw[List.reverse_cons,List.map_append,List.map_cons,List.map_nil,List.length_append,List.length_singleton,Nat.add_sub_cancel,List.getD_eq_getElem?_getD,List.getElem?_append_right lZ,Nat.sub_self];simp;omega
  .
   rw[<-List.map_reverse,List.reverse_reverse,List.map_map]
   conv=>lhs;rw[<-List.map_id m]
   apply List.map_congr_left;intro c b;have:=h.dig c b;apply UInt8.toNat_inj.1;simp only[id_eq,Function.comp_apply];rw[Qg2 _ (by omega)];omega
open Go.RowKit
def Digs(B b:Nat)(l:Vu)(fill:Bool)(k x:Nat)(w:Vz)(e:Ending)(w':Vz):Prop:=∃m,OutT fill k m x/\Wrote B b (l++m) (.tuple #[]) w e w'
theorem Qvw(w0 w:Vz)(b:Nat)(l:Vu)(u:Nat)(g:Bool)(N:Tab w0)(v:Below w0.heap.size w0 w)(h:Bd8 w0.heap.size b l w)(R:u<10000000000000000000)(hl:l.length+19<=140737488355328):
 Calls prog 198 #[.pointer (some ⟨b,0,none⟩),.int .u64 u,.bool g] w (Digs w0.heap.size b l g 19 u w):=by
 have G:=Hi (Qv1 (u:=u) (k:=19) R (by decide));have x:w0.heap.size<=w.heap.size:=v.size;obtain⟨y,z⟩:=Ia (Qwh u (by omega) w (N.below v)) h;obtain⟨s,H⟩:=nm ((⟨(Lib.decDigits u).toArray⟩:ByteArray));rw[H] at y;have t:s.data.toList=Lib.decDigits u:=by rw[<-H]
 have p:s.size=(Lib.decDigits u).length:=by rw[<-t];simp
 have A:0<s.size:=by rw[p];exact List.length_pos_iff.2 G.o.some
 have O:s.size<=19:=by rw[p];exact G.o.most
 obtain⟨B,I⟩:=Ia t p;clear v h N H t p;cases g with
 |false=>
  go_enter func198,ntmps198;go_wp2_with fail;go_fit y.o;rintro e w1 ⟨rfl,a⟩;obtain⟨q,r⟩:=Ia (Qlt w0.heap.size b l s w1 (z.o.below a) A (by omega) (by have:=a.size;omega)) a;clear y a;go_wp2_with fail;go_fit q.o;rintro e w2 ⟨rfl,i,d,c⟩;obtain⟨f,m,n⟩:=Ib i d c;clear q i d c;go_wp2;go_end0;rw[B.o] at f;exact⟨_,G.o,rfl,f.o,(r.o.mono x).trans m.o,(Wr.below z.o.lt r.o).trans n.o⟩
 |true=>
  go_enter func198,ntmps198;go_wp2_with fail;go_fit y.o;rintro e w1 ⟨rfl,a⟩;obtain⟨J,r,K⟩:=Ib (z.o.below a) (a.mono x) (Wr.below z.o.lt a);have C:w0.heap.size<=w1.heap.size:=by have:=a.size;omega
  clear y a z;go_wp2_with fail;go_loopw [13] (fun L wr=>∃j:Nat,j+s.size<=19/\L=.int .i64 j/\Bd8 w0.heap.size b (l++List.replicate j 48) wr/\Below w0.heap.size w wr/\Wr b w wr/\w0.heap.size<=wr.heap.size) (fun L _=>19 - (intOf L).toNat)
  case atStart=>exact⟨0,by omega,rfl,by rw[List.replicate_zero,List.append_nil];exact J.o,r.o,K.o,C⟩
  case round=>
   obtain⟨j,U,rfl,i,v,P,Q⟩:=hrel;obtain⟨D,E,F⟩:=Ib i v P;clear i v P;by_cases S:j+s.size<19
   .
    have T:((j:Int)<19 - (s.size:Int)):=by omega
    have q:=Hi (Qwj w0.heap.size b (l++List.replicate j 48) 48 wr D.o (by rw[List.length_append,List.length_replicate];omega) Q);rw[show ((48:UInt8).toNat:Int)=48 from rfl] at q;go_wp2_with fail;go_fit q.o;rintro e w2 ⟨rfl,i,d,c⟩;obtain⟨f,m,n⟩:=Ib i d c;have hz2:=c.size;clear q i d c;go_wp2;go_roundw
    case rel=>exact⟨j+1,by omega,by go_num,by rw[List.replicate_succ',<-List.append_assoc];exact f.o,E.o.trans m.o,F.o.trans n.o,by omega⟩
    case measure=>simp[intOf];omega
   .
    have T:¬((j:Int)<19 - (s.size:Int)):=by omega
    have M:j=19 - (Lib.decDigits u).length:=by rw[<-I.o];omega
    have q:=Hi (Qlt w0.heap.size b (l++List.replicate j 48) s wr D.o A (by rw[List.length_append,List.length_replicate];omega) Q);go_wp2_with fail;go_fit q.o;rintro e w2 ⟨rfl,i,d,c⟩;obtain⟨f,m,n⟩:=Ib i d c;clear q i d c;go_wp2;go_end0;rw[B.o,List.append_assoc,M] at f;exact⟨_,Qv3 G.o,rfl,f.o,E.o.trans m.o,F.o.trans n.o⟩
def SlIn(C:Vw):Prop:=∀(i:Nat) u,C[i]?=some u->∃a n c,u=Value.slice a n c
def SlBlk(w:Vz)(v:Value):Prop:=∀g,v.ownBlock=some g->∃C t f,w.heap[g]?=some (.cells C t f)/\SlIn C
theorem SlIn.append{C D:Vw}(h:SlIn C)(k:SlIn D):SlIn (C++D):=fun i u a=>by
 rw[Array.getElem?_append] at a
 split at a
 . exact h _ _ a
 . exact k _ _ a
theorem SlIn.zeros(n:Nat):SlIn (Builtin.zeroCells (Value.slice none 0 0).cells n):=fun i u b=>by
 have a:=Array.mem_of_getElem? b;simp[Builtin.zeroCells,Value.cells] at a;obtain⟨j,c,e⟩:=a;rw[Nat.mod_one] at e;exact⟨none,0,0,e.symm⟩
theorem SlIn.list{l:Vv}(h:∀u,u∈ l->∃a n c,u=Value.slice a n c):SlIn l.toArray:=fun i u b=>h u (by rw[List.getElem?_toArray] at b;exact mO b)
theorem SlIn.mem{C:Vw}(h:SlIn C){u:Value}(d:u∈ C.toList):∃a n c,u=Value.slice a n c:=by
 obtain⟨i,b⟩:=List.mem_iff_getElem?.1 d;exact h i u (by rw[Array.getElem?_toList] at b;exact b)
theorem SlBlk.below{w w':Vz}{v:Value}(h:SlBlk w v)(b:∀g,v.ownBlock=some g->w'.heap[g]?=w.heap[g]?):SlBlk w' v:=fun g a=>by
 obtain⟨C,t,f,c,d⟩:=h g a;exact⟨C,t,f,by rw[b g a];exact c,d⟩
theorem SlBlk.new(w:Vz)(C:Vw)(t:Vr)(n cap:Nat)(h:SlIn C):SlBlk (w.drew.alloc (.cells C t)) (.slice (some ⟨w.heap.size,0,none⟩) n cap):=fun g a=>by
 have e:w.heap.size=g:=by simpa [Value.ownBlock] using a
 subst e;exact⟨C,t,_,heap_alloc_new w.drew _,h⟩
theorem SlBlk.row{w:Vz}{g n cap:Nat}{a news:Vw}{t:Vr}{f:Nat × Nat}(c:w.heap[g]?=some (.cells a t f))(h:SlIn news):SlBlk (w.setRow g news) (.slice (some ⟨g,0,none⟩) n cap):=fun d b=>by
 have e:g=d:=by simpa [Value.ownBlock] using b
 subst e;exact⟨news,t,f,setRow_heap w g a _ t _ c,h⟩
theorem Tryz.infoNat:(prog.info? 139).map (fun i=>(i.zero,i.size,i.bytes))=some (some (.slice none 0 0),1,24):=by kernel_rfl
theorem Qv5{w:Vz}{s:Nat}{v G:Value}{n m z:Nat}{xs news:Vv}{a:Addr}{w':Vz}{ty:Vr}{i:TypeInfo}(A:prog.info? 139=some i)(H:i.zero=some (.slice none 0 0))(f:i.size=1)(t:i.bytes=24)(e:w.ownsRow s 139 1 v n xs)(d:SlBlk w v)
 (hl:news.length=m) (b:∀j u,news[j]?=some u->w.cell? (a.add j)=some u) (I:∀u∈ news,u.oneCell'=true) (B:∀u,u∈ news->∃a n c,u=Value.slice a n c) (J:0<m) (K:n+m<=1099511627776)
 (r:(Builtin.append_ #[216,216] ty #[v,.slice (some a) m z]).run prog w=.ok G w'):SlBlk w' G:=by
 have D:xs.length=n:=by simpa using e.1
 have h:=e;have k:news.length=m*i.size:=by rw[f,Nat.mul_one];exact hl
 rcases e.2 with ⟨rfl,rfl⟩|⟨g,cap,E,rfl,L,F,M,N,O,l⟩
 .
  rw[run_append_nil (P:=prog) w 216 ty 139 i (.slice none 0 0) underlying216 A H a m z news k b J (by omega) (by rw[t];omega)] at r;injection r with x y
  rw[<-x,<-y];exact SlBlk.new _ _ _ _ _ ((SlIn.list B).append (SlIn.zeros _))
 .
  obtain⟨C,Q,R,hC,o⟩:=d g rfl;rw[F] at hC;injection hC with hC
  injection hC with hC _ _
  subst hC;by_cases p:n+m<=cap
  .
   rw[run_append_room (P:=prog) w 216 ty 139 i underlying216 A g n cap E F a m z news k b I p (by rw[f];omega)] at r;injection r with x y
   rw[<-x,<-y];refine SlBlk.row F (SlIn.list fun u d=>?_);simp only[List.mem_append] at d;rcases d with (d|d)|d
   . exact o.mem (List.mem_of_mem_take d)
   . exact B u d
   . exact o.mem (List.mem_of_mem_drop d)
  .
   have q:∀j u,xs[j]?=some u->w.cell? ((⟨g,0,none⟩:Addr).add j)=some u:=h.cells (g:=g) rfl;rw[run_append_grow (P:=prog) w 216 ty 139 i (.slice none 0 0) underlying216 A H ⟨g,0,none⟩ n cap xs (by rw[f];simpa using D) q a m z news k b (by omega) (by omega) (by rw[t];exact growslice_fits (by omega) (by omega))] at r;injection r with x y
   rw[<-x,<-y];refine SlBlk.new _ _ _ _ _ (((SlIn.list fun u d=>?_).append (SlIn.list B)).append (SlIn.zeros _));rw[<-l] at d;exact o.mem (List.mem_of_mem_take d)
def pw(i:Nat):Nat:=10 ^ (19*2 ^ i)
theorem Qev(i:Nat):pw (i+1)=pw i*pw i:=by unfold pw;rw[<-Nat.pow_add];congr 1;rw[Nat.pow_succ];omega
theorem Qln:pw 0=10000000000000000000:=by decide
theorem Qg3(i:Nat):0<pw i:=Nat.pow_pos (by decide)
def Pows(w:Vz)(vs:Vv):Prop:=∀i v,vs[i]?=some v->∃a c l,v=.slice a (List.length l) c/\U64 w a c l (pw i)
theorem Pows.below{w w':Vz}{vs:Vv}(h:Pows w vs)(b:Below w.heap.size w w'):Pows w' vs:=fun i v d=>by
 obtain⟨a,c,l,e,f⟩:=h i v d;exact⟨a,c,l,e,f.below b⟩
theorem Pows.snoc{w:Vz}{vs:Vv}{a:Vx}{c:Nat}{l:Vy}(h:Pows w vs)(e:U64 w a c l (pw vs.length)):Pows w (vs++ [.slice a l.length c]):=fun i v b=>by
 rw[List.getElem?_append] at b
 split at b
 . exact h i v b
 .
  rename_i f;rw[List.getElem?_singleton] at b
  split at b
  .
   have d:i=vs.length:=by omega
   subst d;injection b with b
   exact⟨a,c,l,b.symm,e⟩
  . cases b
theorem U64.grownSl{w w':Vz}{v:Value}{a:Vx}{cap n:Nat}{l:Vy}(h:U64 w a cap l n)(g:w.grownBy w' v.ownBlock)(m:SlBlk w v):U64 w' a cap l n:=by
 refine⟨⟨h.row.fit,?_,fun i o=>?_⟩,h.num,h.short⟩
 .
  rcases h.row.shape with c|⟨d,b,c,k⟩
  . exact .inl c
  . exact .inr ⟨d,b,c,by have:=g.size;omega⟩
 .
  obtain⟨d,b,c,k,j⟩:=h.row.cell i o;refine⟨d,b,c,by have:=g.size;omega,(World.cell?_of_block (w:=w) (g.block d k ?_)).trans j⟩;intro p;obtain⟨C,t,f,hC,q⟩:=m d p.symm;rw[Lib.cell_of_heap hC] at j;obtain⟨_,_,_,e⟩:=q _ _ j;cases e
theorem Pows.grown{w w':Vz}{v:Value}{vs:Vv}(h:Pows w vs)(b:w.grownBy w' v.ownBlock)(d:SlBlk w v):Pows w' vs:=fun i u f=>by
 obtain⟨a,c,l,e,g⟩:=h i u f;exact⟨a,c,l,e,g.grownSl b d⟩
theorem Qv6(k:Nat):2 ^ (63*k)<=10 ^ (19*k):=by
 rw[Nat.pow_mul,Nat.pow_mul];exact Nat.pow_le_pow_left (by decide) k
theorem Qlo{w:Vz}{a:Vx}{c i:Nat}{l:Vy}(h:U64 w a c l (pw i)):63*2 ^ i<64*l.length:=by
 have b:=Qaa (B:=18446744073709551616) (by decide) h.num.small;rw[h.num.eq] at b;have d:2 ^ (63*2 ^ i)<=pw i:=Qv6 _;have e:(18446744073709551616:Nat) ^ l.length=2 ^ (64*l.length):=by rw[Nat.pow_mul]
 rw[e] at b;exact(Nat.pow_lt_pow_iff_right (by decide:1<2)).1 (Nat.lt_of_le_of_lt d b)
theorem Qv7(n:Nat):n+1<=2 ^ n:=Nat.lt_two_pow_self
theorem Qv8{w:Vz}{a e:Vx}{c c2 i x:Nat}{l m:Vy}(h:U64 w a c l (pw i))(d:U64 w e c2 m x)(hl:m.length+1<2*l.length):x<pw (i+1):=by
 have f:=Qaa (B:=18446744073709551616) (by decide) d.num.small;rw[d.num.eq] at f;have b:=h.num.trim.pow_le (B:=18446744073709551616) (by omega);rw[h.num.eq] at b;have g:=Nat.mul_le_mul b b;rw[<-Nat.pow_add,<-Qev] at g;have j:(18446744073709551616:Nat) ^ m.length<=18446744073709551616 ^ (l.length - 1+(l.length - 1)):=Nat.pow_le_pow_right (by decide) (by omega);omega
theorem Qv9{n k:Nat}(h:63*2 ^ n<64*k)(hk:k<=549755813890):19*2 ^ (n+1)<=140737488355000:=by
 rw[Nat.pow_succ];omega
def PowAns(w:Vz)(x:Nat)(e:Ending)(w':Vz):Prop:=(∃g n cap,e=.returned (.slice (some ⟨g,0,none⟩) (n+1) cap)/\n+1<=cap/\(∃vs,List.length vs=n+1/\(∀i v,vs[i]?=some v->w'.cell? ⟨g,i,none⟩=some v)/\Pows w' vs)/\g<w'.heap.size/\x<pw (n+1)/\n<=1099511627770/\19*2 ^ (n+1)<=140737488355000)/\Below w.heap.size w w'
theorem Qwa(a:Vx)(cap x:Nat)(D:Vy)(w:Vz)(h:U64 w a cap D x)(hl:D.length<=274877906944):
 Calls prog 171 #[.slice a D.length cap] w (PowAns w x):=by
 obtain⟨i0,hi,L,M,hz2⟩:=info_parts Tryz.infoNat;obtain⟨HX,HI,N,O,Q⟩:=Id h hi L M hz2;clear h hi L M hz2;go_enter func171,ntmps171;go_wp2_with fail;go_loopw [3,4] (fun lv pv wr=>∃(n:Nat) (vs:Vv) (R:Vx) (c1:Nat) (c:Vy),vs.length=n+1/\lv=.slice R c.length c1/\vs[n]?=some lv/\wr.ownsRow w.heap.size 139 1 pv (n+1) vs/\SlBlk wr pv/\Pows wr vs/\U64 wr R c1 c (pw n)/\c.length<=2*D.length+1/\n<=2*D.length/\Below w.heap.size w wr) (fun _ pv _=>2*D.length+2 - sliceLen pv)
 case atStart=>
  have ae:Blk .u64 170 (w.alloc (.cells (wordCells .u64 [10000000000000000000]) 170)) w.heap.size [10000000000000000000]:=Blk.new _ _ _ _;have af:U64 (w.alloc (.cells (wordCells .u64 [10000000000000000000]) 170)) (some ⟨w.heap.size,0,none⟩) 1 [10000000000000000000] (pw 0):=⟨ae.row 1 (by simp) 1 (by omega),⟨fun d hd=>by simp at hd;omega,.inr (by simp),by rw[Qln];simp[val]⟩,by simp⟩;have ag:Below (w.alloc (.cells (wordCells .u64 [10000000000000000000]) 170)).heap.size (w.alloc (.cells (wordCells .u64 [10000000000000000000]) 170)) ((w.alloc (.cells (wordCells .u64 [10000000000000000000]) 170)).alloc (.cells #[.slice (some ⟨w.heap.size,0,none⟩) 1 1] 139)):=bR.alloc lZ _;have S:=af.below ag;refine⟨0,[.slice (some ⟨w.heap.size,0,none⟩) 1 1],some ⟨w.heap.size,0,none⟩,1,[10000000000000000000],rfl,rfl,rfl,?_,?_,?_,S,by simp,by omega,?_⟩
  . exact⟨rfl,.inr ⟨w.heap.size+1,1,#[.slice (some ⟨w.heap.size,0,none⟩) 1 1],rfl,by omega,by have:=heap_alloc_new (w.alloc (.cells (wordCells .u64 [10000000000000000000]) 170)) (.cells #[.slice (some ⟨w.heap.size,0,none⟩) 1 1] 139);rw[World.size_alloc] at this;exact this,by omega,by unfold maxLen;omega,rfl,rfl⟩⟩
  .
   intro g T;have e:w.heap.size+1=g:=by simpa [Value.ownBlock] using T
   subst e;refine⟨#[.slice (some ⟨w.heap.size,0,none⟩) 1 1],139,(0,0),by have:=heap_alloc_new (w.alloc (.cells (wordCells .u64 [10000000000000000000]) 170)) (.cells #[.slice (some ⟨w.heap.size,0,none⟩) 1 1] 139);rw[World.size_alloc] at this;exact this,?_⟩;intro i u q
   match i with
   |0=>simp at q;exact⟨_,_,_,q.symm⟩
   |i+1=>simp at q
  .
   intro i v U
   match i with
   |0=>simp at U;exact⟨_,_,[10000000000000000000],U.symm,S⟩
   |i+1=>simp at U
  . exact(bR.alloc lZ _).alloc (by rw[World.size_alloc];omega) _
 case round=>
  obtain⟨n,vs,R,c1,c,V,rfl,I,r,W,X,q,au,av,hb⟩:=hrel;have Y:=Qfp r;have ah:=Qlo q;have ai:=Qv7 n;obtain⟨s,f,aj,Z,K,HB⟩:=Ie V r W X q hb;have ar:=hb.size;have aw:1<=c.length:=by omega
  have E:63*(n+1)<64*c.length:=by omega
  clear V I r W X q hb ah ai;by_cases hc:2*c.length<=D.length+1
  .
   have q1:(2*(c.length:Int) - 1<=(D.length:Int)):=by omega
   have HM:=Hi (Qjq R R c1 c1 c c (pw n) (pw n) wr K.o K.o (by omega));go_wp2_with fail;go_fit HM.o;rintro e w2 ⟨⟨C,c2,t,rfl,F⟩,J⟩;rw[<-Qev] at F;have ax:t.length<=2*c.length:=F.num.length_le_of_lt (by decide) (by
    rw[Qev,show 2*c.length=c.length+c.length by omega,Nat.pow_add];have h1:=Qaa (B:=18446744073709551616) (by decide) K.o.num.small;rw[K.o.num.eq] at h1
    exact Nat.mul_lt_mul'' h1 h1)
   have ak:=J.size;obtain⟨al,G⟩:=Ia F J;clear HM F J;have y:Below w2.heap.size w2 (w2.alloc (.cells #[.slice C t.length c2] 139)):=bR.alloc lZ _;have l:=Qbn (Qbn f.o G.o) y;have p:SlBlk (w2.alloc (.cells #[.slice C t.length c2] 139)) u4:=(aj.o.below fun g T=>G.o.block g (f.o.lt g T).2).below fun g T=>y.block g (by have:=(f.o.lt g T).2;omega)
   have E:∀j u,[Value.slice C t.length c2][j]?=some u->(w2.alloc (.cells #[.slice C t.length c2] 139)).cell? ((⟨w2.heap.size,0,none⟩:Addr).add j)=some u:=World.news_of_block (heap_alloc_new w2 _);have z:∀u∈ [Value.slice C t.length c2],u.oneCell'=true:=fun u q=>by rw[List.mem_singleton.1 q];rfl
   obtain⟨v',w3,hr,A,b,_,am⟩:=run_append_own_at (P:=prog) (w2.alloc (.cells #[.slice C t.length c2] 139)) w.heap.size 216 216 139 i0 (.slice none 0 0) 1 24 underlying216 HI.o N.o O.o Q.o rfl (by decide) u4 (n+1) vs l ⟨w2.heap.size,0,none⟩ 1 1 [.slice C t.length c2] rfl E z (by unfold maxLen;omega) (by omega) (by rw[World.size_alloc];omega);obtain⟨an,aa,ao,ab,ap,HR⟩:=Ie (Qv5 (m:=1) HI.o N.o O.o Q.o l p rfl E z (fun u q=>⟨_,_,_,List.mem_singleton.1 q⟩) (by decide) (by omega) hr) ((al.o.below y).grownSl b p) (((Z.o.below G.o).below y).grown b p) A (((HB.o.trans (G.o.mono (by omega))).alloc (by omega) (.cells #[.slice C t.length c2] 139)).grown b (by rw[World.size_alloc];omega) (fun k hk=>(f.o.lt k hk).1)) hr
   clear y l p E z hr A b am;go_wp2_with (at_builtin;refine Qdg _ rfl _ _ 216 216 rfl u4 (.slice (some ⟨w2.heap.size,0,none⟩) 1 1) _ _ rfl rfl HR.o ?_);clear HR;go_wp2;go_roundw
   case rel=>
    refine⟨n+1,vs++ [.slice C t.length c2],C,c2,t,by rw[List.length_append,s.o];rfl,rfl,?_,ab.o,an.o,ao.o.snoc (by rw[s.o];exact aa.o),aa.o,by omega,by omega,ap.o⟩;rw[List.getElem?_append_right (by rw[s.o];omega),s.o,Nat.sub_self];rfl
   case measure=>
    rw[Y];have:=Qfp ab.o;simp only[sliceLen] at this ⊢;simp at this ⊢;omega
  .
   have q1:¬(2*(c.length:Int) - 1<=(D.length:Int)):=by omega
   obtain⟨g,ad,rfl,ay,aq⟩:=f.o.form (by omega);go_wp2;go_ret;have H:=f.o.cells (g:=g) rfl;refine⟨⟨g,n,ad,rfl,?_,⟨vs,s.o,fun i v U=>?_,Z.o⟩,aq,Qv8 K.o (HX.o.below HB.o) (by omega),by omega,Qv9 (Qlo K.o) (by omega)⟩,HB.o⟩
   .
    rcases f.o.2 with ⟨h,_⟩|⟨g',cap',az,he,_,_,hf,_⟩
    . cases h
    . injection he with _ _ h3
      omega
   .
    have:=H i v U;rw[Lib.add_plain,Nat.zero_add] at this;exact this
def Pw(w:Vz)(g n:Nat):Prop:=∀i,i<n->∃a c l,w.cell? ⟨g,i,none⟩=some (.slice a (List.length l) c)/\U64 w a c l (pw i)
theorem Pw.below{w w':Vz}{g n:Nat}(h:Pw w g n)(b:Below w.heap.size w w'):Pw w' g n:=fun i e=>by
 obtain⟨a,c,l,d,f⟩:=h i e;exact⟨a,c,l,ce b (World.block_lt_of_cell? _ _ d) d,f.below b⟩
theorem Pw.wrote{B b:Nat}{l:Vu}{w w':Vz}{g n:Nat}(h:Pw w g n)(e:Bd8 B b l w)(k:Wr b w w'):Pw w' g n:=fun i f=>by
 obtain⟨a,c,j,m,o⟩:=h i f;obtain⟨r,s,t,d,_⟩:=h 0 (by omega);obtain⟨p,q⟩:=e.slice_apart d;exact⟨a,c,j,(World.cell?_of_block (w:=w) (a:=⟨g,i,none⟩) (k.block g (World.block_lt_of_cell? _ _ d) p q)).trans m,o.wrote e k⟩
theorem Pw.less{w:Vz}{g n m:Nat}(h:Pw w g n)(a:m<=n):Pw w g m:=fun i b=>h i (by omega)
theorem Qvx{w:Vz}{a:Vx}{c x:Nat}{l:Vy}(h:U64 w a c l x)(b:x<10000000000000000000):l.getD 0 0=x:=by
 have hl:l.length<=1:=h.num.length_le_of_lt (by decide) (by rw[Nat.pow_one];omega);rw[<-h.num.eq]
 match l,hl with
 | [],_=>rfl
 | [d],_=>simp[val]
theorem Qvy(w0:Vz)(b g:Nat)(hT:Tab w0)(n:Nat):∀(cap:Nat) (i:Bool) (l:Vu) (a:Vx) (c x:Nat) (N:Vy) (w:Vz),Below w0.heap.size w0 w->Bd8 w0.heap.size b l w->U64 w a c N x->Pw w g n->n<=cap->x<pw n->N.length<=274877906944->n<=1099511627776->l.length+19*2 ^ n<=140737488355328->
 Calls prog 170 #[.pointer (some ⟨b,0,none⟩),.slice a N.length c,.slice (some ⟨g,0,none⟩) n cap,.bool i] w (Digs w0.heap.size b l i (19*2 ^ n) x w):=by
 induction n with
 |zero=>
  intro cap i l a c x N w X Z L hp ah Y ai hn hl;rw[Qln] at Y;have R:=Hi (Qb5 a c N 0 w L.row L.short (by decide));rw[Qvx L Y] at R;have aa:=Hi (Qvw w0 w b l x i hT X Z Y (by simpa using hl));clear X Z L hp;go_enter func170,ntmps170;go_wp2_with fail;go_fit R.o;rintro e w1 ⟨rfl,hw⟩;subst hw;clear R;go_wp2_with fail;go_fit aa.o;rintro e w2 ⟨m,z,rfl,j,f,d⟩;obtain⟨HO,aj,A,C⟩:=Ic z j f d;clear aa z j f d;go_wp2;go_end0;exact⟨m,by simpa using HO.o,rfl,aj.o,A.o,C.o⟩
 |succ n ih=>
  intro cap i l a c x N w X Z L hp ah Y ai hn hl;obtain⟨ap,cp,lp,ak,ab⟩:=hp n (by omega);obtain⟨ad,HB,HD,HP,D⟩:=Id (Qjm a ap c cp N lp x (pw n) w L ab (Qg3 n) (by omega)) X Z hp ih;have ae:x / pw n<pw n:=by rw[Nat.div_lt_iff_lt_mul (Qg3 n)];rw[Qev] at Y;exact Y
  have S:x % pw n<pw n:=Nat.mod_lt _ (Qg3 n);have P:∀(w':Vz) (a':Vx) (c' y:Nat) (l':Vy),U64 w' a' c' l' y->y<=x->l'.length<=N.length:=fun w' a' c' y l' h' hy=>h'.num.length_le_of_lt (by decide) (Nat.lt_of_le_of_lt hy (by have:=Qaa (B:=18446744073709551616) (by decide) L.num.small;rw[L.num.eq] at this;exact this))
  obtain⟨Q,HX⟩:=Ia P (Nat.div_add_mod x (pw n));have h2:19*2 ^ (n+1)=2*(19*2 ^ n):=by rw[Nat.pow_succ];omega
  have af:=Hi (show pw n=10 ^ (19*2 ^ n) from rfl);have n1:((n+1:Nat):Int) - 1=(n:Int):=by omega
  have n2:((n:Int)+1) - 1=(n:Int):=by omega
  have n0:(((n+1:Nat):Int) == 0)=false:=by rw[beq_eq_false_iff_ne];omega
  have M:w0.heap.size<=w.heap.size:=X.size;clear X Z L hp ab ih P;go_enter func170,ntmps170;go_wp2_with fail;go_fit ad.o;rintro e w1 ⟨⟨aq,cq,lq,ar,cr,lr,rfl,hq,hr⟩,t⟩;have hz:=hq.num.len_zero (by decide);obtain⟨ag,T,HQ,HR,U,u,E,V,F⟩:=Ih (Q.o _ _ _ _ _ hq (Nat.div_le_self _ _)) (Q.o _ _ _ _ _ hr (Nat.mod_le _ _)) hq hr t (HD.o.below t) (HP.o.below t) (Wr.below HD.o.lt t) (HB.o.trans (t.mono M));have am:=t.size;clear ad hq hr t;cases i with
  |true=>
   have G:=Hi (D.o cap true l aq cq (x / pw n) lq w1 F.o u.o HQ.o (E.o.less (by omega)) (by omega) ae (by have:=ag.o;omega) (by omega) (by omega));clear hz;go_wp2_with fail;go_fit G.o;rintro e w2 ⟨m1,v,rfl,j,f,d⟩;obtain⟨W,k,A,C⟩:=Ic v (D.o cap true (l++m1) ar cr (x % pw n) lr w2 (F.o.trans f) j (HR.o.wrote u.o d) ((E.o.wrote u.o d).less (by omega)) (by omega) S (by have:=T.o;omega) (by omega) (by rw[List.length_append];have:=v.most;omega)) f d;clear G v j f d;go_wp2_with fail;go_fit k.o;rintro e w3 ⟨m2,p,rfl,q,r,s⟩;obtain⟨H,I,J,K⟩:=Ic p q r s;clear k p q r s;go_wp2;go_end0;have z:=Qlm W.o H.o (.inl rfl);rw[<-af.o,Nat.mul_comm (x / pw n),HX.o,<-h2] at z
   exact⟨m1++m2,z,rfl,by rw[<-List.append_assoc];exact I.o,(U.o.mono M).trans (A.o.trans J.o),V.o.trans (C.o.trans K.o)⟩
  |false=>
   by_cases an:0<lq.length
   .
    have q1:((0:Int)<(lq.length:Int)):=by omega
    have HF:O (0<x / pw n):=Hi (by
     rcases Nat.eq_zero_or_pos (x / pw n) with h|h
     . have:=hz.1 h;omega
     . exact h)
    have G:=Hi (D.o cap false l aq cq (x / pw n) lq w1 F.o u.o HQ.o (E.o.less (by omega)) (by omega) ae (by have:=ag.o;omega) (by omega) (by omega));clear hz;go_wp2_with fail;go_fit G.o;rintro e w2 ⟨m1,v,rfl,j,f,d⟩;obtain⟨W,k,A,C⟩:=Ic v (D.o cap true (l++m1) ar cr (x % pw n) lr w2 (F.o.trans f) j (HR.o.wrote u.o d) ((E.o.wrote u.o d).less (by omega)) (by omega) S (by have:=T.o;omega) (by omega) (by rw[List.length_append];have:=v.most;omega)) f d;clear G v j f d;go_wp2_with fail;go_fit k.o;rintro e w3 ⟨m2,p,rfl,q,r,s⟩;obtain⟨H,I,J,K⟩:=Ic p q r s;clear k p q r s;go_wp2;go_end0;have z:=Qlm W.o H.o (.inr HF.o);rw[<-af.o,Nat.mul_comm (x / pw n),HX.o,<-h2] at z
    exact⟨m1++m2,z,rfl,by rw[<-List.append_assoc];exact I.o,(U.o.mono M).trans (A.o.trans J.o),V.o.trans (C.o.trans K.o)⟩
   .
    have q1:¬((0:Int)<(lq.length:Int)):=by omega
    have al:x % pw n=x:=by
     have h1:=HX.o;rw[hz.2 (by omega),Nat.mul_zero,Nat.zero_add] at h1;exact h1
    have k:=Hi (D.o cap false l ar cr (x % pw n) lr w1 F.o u.o HR.o (E.o.less (by omega)) (by omega) S (by have:=T.o;omega) (by omega) (by omega));clear hz;go_wp2_with fail;go_fit k.o;rintro e w3 ⟨m2,p,rfl,q,r,s⟩;obtain⟨H,I,J,K⟩:=Ic p q r s;clear k p q r s;go_wp2;go_end0;have z:=H.o;rw[al] at z;exact⟨m2,z.grow (by omega),rfl,I.o,(U.o.mono M).trans J.o,V.o.trans K.o⟩
def TextAns(x:Nat)(w:Vz)(e:Ending)(w':Vz):Prop:=(∃s:Vs,e=.returned (.string s)/\IsDec s.data.toList x/\s.size<=140737488355328)/\Below w.heap.size w w'
theorem Qvz(a:Vx)(c x:Nat)(l:Vy)(w:Vz)(S:Tab w)(h:U64 w a c l x)(hl:l.length<=274877906944):
 Calls prog 138 #[.slice a l.length c] w (TextAns x w):=by
 obtain⟨F,j⟩:=nm (w.alloc (.cells #[.pointer none,.slice none 0 0] 214));have d:Below w.heap.size w F:=by rw[<-j];exact(Below.refl _ _).alloc lZ _
 have k:F.heap[w.heap.size]?=some (.cells #[.pointer none,.slice none 0 0] 214 (0,0)):=by rw[<-j];exact heap_alloc_new w _
 have p:Bd8 w.heap.size w.heap.size [] F:=⟨.inl ⟨Nat.le_refl _,.slice none 0 0,k,World.ownsRow_nil _ _ _ _,by simp[Value.ownBlock]⟩,fun v q=>by
  rw[Lib.cell_of_heap k] at q;have:v=.slice none 0 0:=by simpa using q.symm
  subst this;intro g V
  simp[Value.ownBlock] at V⟩
 obtain⟨r,W,X,s,G,Y⟩:=Ie (Qwa a c x l F (h.below d) hl) (h.below d) p d j S;have t:=d.size;clear S h d k p j;go_enter func138,ntmps138;go_wp2_with fail;rw[G.o];go_fit r.o;rintro e w1 ⟨⟨g,n,cap,rfl,H,⟨vs,I,u,f⟩,J,T,Z,K⟩,b⟩;have y:Pw w1 g (n+1):=fun i hi=>by
  obtain⟨v,q⟩:∃v,vs[i]?=some v:=⟨vs[i]'(by omega),gE (by omega)⟩;obtain⟨a',c',l',e',L⟩:=f i v q;exact⟨a',c',l',by rw[u i v q,e'],L⟩
 obtain⟨z,M⟩:=Ia (Qvy w w.heap.size g Y.o (n+1) cap false [] a c x l w1 (s.o.trans (b.mono t)) (X.o.below b) (W.o.below b) y H T hl (by omega) (by rw[List.length_nil];omega)) (s.o.trans (b.mono t));have U:=b.size;clear r y I u f J T b;go_wp2_with fail;go_fit z.o;rintro e w2 ⟨m,N,rfl,A,B,C⟩;obtain⟨D,O,P,Q⟩:=Ic (Qvt w.heap.size w.heap.size m w2 (by have:=A.bd;rwa [List.nil_append] at this) (by have:=C.size;omega)) N.dec N.most (M.o.trans B);clear z N A B C;go_wp2_with fail;go_fit D.o;rintro e w3 ⟨rfl,E⟩;have R:=Hi (Q.o.trans E);clear D E;go_wp2;go_ret;refine⟨⟨_,rfl,O.o,?_⟩,R.o⟩;have h1:=P.o;rw[<-Qag]
 show m.length<=_
 omega
def QAns(q:Rat)(w:Vz)(e:Ending)(w':Vz):Prop:=(∃s:Vs,e=.returned (.string s)/\QText s.data.toList q)/\Below w.heap.size w w'
theorem Qcz(s t:Vs):(s++t).data.toList=s.data.toList++t.data.toList:=by simp[ByteArray.data_append]
theorem Qol(w:Vz)(d:Nat)(a:Vx)(n c:Nat):(Op.equalIn (d+1) 139 (.slice a n c) (.slice none 0 0)).run prog w=.ok a.isNone w:=by
 cases a<;>simp[Op.equalIn,run_underlying underlying139]
theorem Qom(w:Vz)(a:Vx)(n c:Nat):(Op.equal 139 (.slice a n c) (.slice none 0 0)).run prog w=.ok a.isNone w:=Qol w 9999 a n c
theorem Qon(w:Vz)(a:Vx)(n c:Nat):(binOp .neq 139 (.slice a n c) (.slice none 0 0)).run prog w=.ok (.bool a.isSome) w:=by
 cases a<;>simp[binOp,Qom]
theorem Qfm{a:Vx}{n c x K:Nat}{w:Vz}(b:Tab w)(h:NumV w a n c x)(d:x<2 ^ K)(e:K<=274877906944):Calls prog 138 #[.slice a n c] w (TextAns x w):=by
 obtain⟨l,rfl,h⟩:=h;exact Qvz a c x l w b h (Nat.le_trans (h.len_bits d) e)
theorem num_Q(neg:Bool)(a b:Vx)(n c m d K:Nat)(q:Rat)(w:Vz)(H:Tab w)(h:FracAt w neg a n c b m d q)(I:Fits q K)(J:K<=274877906944):
 Calls prog 88 #[.agg #[.bool neg,.slice a n c,.slice b m d]] w (QAns q w):=by
 have Y:=Qon;obtain⟨Q,s⟩:=nm (w.alloc (.cells #[.bool neg,.slice a n c,.slice b m d] 141));have g:Below w.heap.size w Q:=by rw[<-s];exact(Below.refl _ _).alloc lZ _
 have x:SB Q w.heap.size 141 #[.bool neg,.slice a n c,.slice b m d]:=by rw[<-s];exact SB.new w _ _
 obtain⟨y,z,A,B,R,t,L,M⟩:=Ig (Qfm (H.below g) (h.top.below g) I.1 J) (h.low.below g) (H.below g) h.neg I x g s;have N:=g.size;clear H h I g x s;go_enter func88,ntmps88;obtain⟨-,T,-⟩:=zc t.o;go_wp2_with fail;rw[M.o];go_fit y.o;rintro e w1 ⟨⟨G,rfl,C,U⟩,i⟩;obtain⟨D,j,E,F⟩:=Ic C (L.o.trans (i.mono N)) (z.o.below i) (A.o.below i);obtain⟨Z,-,g2,-⟩:=zc (t.o.below i t.o.lt);have S:=i.size;clear y C i T z A;cases neg with
 |true=>
  have k:O (IntText ((⟨#[45]⟩:ByteArray)++G).data.toList q.num):=Hi ⟨G.data.toList,D.o,by rw[if_pos (of_decide_eq_true B.o.symm),Qcz];rfl⟩;rcases E.o with ⟨rfl,rfl,rfl,f⟩|⟨f,hl⟩
  .
   go_wp2;go_ret;exact⟨⟨_,rfl,_,k.o,.inl ⟨f,rfl⟩⟩,j.o⟩
  .
   obtain⟨V,W,rfl⟩:=hl.some (by omega);have l:=Hi (Qfm F.o hl R.o.2 J);clear hl;go_wp2_with fail;go_fit l.o;rintro e w2 ⟨⟨X,rfl,p,P⟩,r⟩;obtain⟨u,v⟩:=Ia p (j.o.trans (r.mono j.o.size));clear l p r;go_wp2;go_ret;exact⟨⟨_,rfl,_,k.o,.inr ⟨by omega,_,u.o,by rw[Qcz,Qcz];rfl⟩⟩,v.o⟩
 |false=>
  have k:O (IntText G.data.toList q.num):=Hi ⟨G.data.toList,D.o,by rw[if_neg (of_decide_eq_false B.o.symm)]⟩;rcases E.o with ⟨rfl,rfl,rfl,f⟩|⟨f,hl⟩
  .
   go_wp2;go_ret;exact⟨⟨_,rfl,_,k.o,.inl ⟨f,rfl⟩⟩,j.o⟩
  .
   obtain⟨V,W,rfl⟩:=hl.some (by omega);have l:=Hi (Qfm F.o hl R.o.2 J);clear hl;go_wp2_with fail;go_fit l.o;rintro e w2 ⟨⟨X,rfl,p,P⟩,r⟩;obtain⟨u,v⟩:=Ia p (j.o.trans (r.mono j.o.size));clear l p r;go_wp2;go_ret;exact⟨⟨_,rfl,_,k.o,.inr ⟨by omega,_,u.o,by rw[Qcz,Qcz];rfl⟩⟩,v.o⟩
theorem Qoo{v:Value}{K:Nat}{q:Rat}{w:Vz}(e:Tab w)(h:FracV w v q)(f:Fits q K)(g:K<=274877906944):Calls prog 88 #[v] w (QAns q w):=by
 obtain⟨neg,a,n,c,b,m,d,rfl,h⟩:=h;exact num_Q neg a b n c m d K q w e h f g
theorem Qij(A B:Vx)(c1 c2:Nat)(l m:Vy)(w:Vz)(d:Row .u64 w A c1 l)(C:Row .u64 w B c2 m)(hl:l.length<=1099511627776)(Q:m.length<=1099511627776):
 Calls prog 188 #[.slice A l.length c1,.slice B m.length c2] w fun e w'=>e=.returned (.bool (decide (l=m)))/\Below w.heap.size w w':=by
 obtain⟨I,J⟩:=Ia d C;clear d C;by_cases a:l.length=m.length
 .
  have K:((l.length:Int) != (m.length:Int))=false:=by simp[a]
  have L:((l.length:Int) == (m.length:Int))=true:=by simp[a]
  go_enter func188,ntmps188;go_wp2;go_loopw [13] (fun n wr=>∃k:Nat,k<=l.length/\n=.int .i64 k/\l.take k=m.take k/\Below w.heap.size w wr) (fun n _=>l.length - (intOf n).toNat)
  case atStart=>exact⟨0,by omega,rfl,by simp,Below.refl _ _⟩
  case round=>
   obtain⟨k,hk,rfl,D,E⟩:=hrel;obtain⟨F,f⟩:=Ia D E;clear D E;by_cases b:k<l.length
   .
    obtain⟨b1,R,rfl,M,p⟩:=(I.o.below f.o).cell k b;obtain⟨b2,S,rfl,N,q⟩:=(J.o.below f.o).cell k (by omega);obtain⟨x,i⟩:=nm (l.getD k 0);obtain⟨y,j⟩:=nm (m.getD k 0);rw[i] at p;rw[j] at q;obtain⟨r,s⟩:=Ia i j;have G:l.take (k+1)=l.take k++ [x]:=by rw[List.take_succ_eq_append_getElem b,<-i,List.getD_eq_getElem?_getD,gE b];rfl
    have H:m.take (k+1)=m.take k++ [y]:=by rw[List.take_succ_eq_append_getElem (by omega),<-j,List.getD_eq_getElem?_getD,gE (by omega)];rfl
    obtain⟨t,u⟩:=Ia G H;clear i j G H;by_cases g:x=y
    .
     subst g;have P:((x:Int) == (x:Int))=true:=by simp
     go_wp2_with fail;go_region
     all_goals
      go_wp2;go_roundw
      case rel=>exact⟨k+1,by omega,by go_num,by rw[t.o,u.o,F.o],f.o.drew⟩
      case measure=>simp[intOf];omega
    .
     have P:((x:Int) == (y:Int))=false:=by rw[beq_eq_false_iff_ne];omega
     have T:((x:Int) != (y:Int))=true:=by rw[bne_iff_ne];omega
     have c:O (decide (l=m)=false):=Hi (decide_eq_false (fun h=>by
      have d:=r.o;rw[h,s.o] at d
      exact g d.symm))
     go_wp2_with fail;go_region
     all_goals
      go_wp2;go_ret;exact⟨by rw[c.o];rfl,f.o.drew⟩
   .
    have v:k=l.length:=by omega
    subst v;have z:O (decide (l=m)=true):=Hi (decide_eq_true (by have:=F.o;rwa [List.take_length,List.take_of_length_le (by omega)] at this));go_wp2;go_ret;exact⟨by rw[z.o];rfl,f.o⟩
 .
  have K:((l.length:Int) != (m.length:Int))=true:=by rw[bne_iff_ne];omega
  have L:((l.length:Int) == (m.length:Int))=false:=by rw[beq_eq_false_iff_ne];omega
  have c:O (decide (l=m)=false):=Hi (decide_eq_false (fun h=>a (by rw[h])));go_enter func188,ntmps188;go_wp2;go_ret;exact⟨by rw[c.o];rfl,Below.refl _ _⟩
theorem Low.row{w:Vz}{b:Vx}{m d k:Nat}(h:Low w b m d k):∃L:Vy,L.length=m/\Row .u64 w b d L/\L.length<=1099511627776/\((L= []/\k=1)∨(1<k/\Num 18446744073709551616 L k)):=by
 rcases h with ⟨rfl,rfl,rfl,rfl⟩|⟨h,l,hl,a⟩
 . exact⟨[],rfl,Row.nil _ _,by simp,.inl ⟨rfl,rfl⟩⟩
 . exact⟨l,hl,a.row,a.short,.inr ⟨h,a.num⟩⟩
theorem Qik{L M:Vy}{j k:Nat}(b:(L= []/\j=1)∨(1<j/\Num 18446744073709551616 L j))(c:(M= []/\k=1)∨(1<k/\Num 18446744073709551616 M k)):L=M↔j=k:=by
 rcases b with ⟨rfl,rfl⟩|⟨d,n1⟩<;>rcases c with ⟨rfl,rfl⟩|⟨e,a⟩
 . simp
 .
  constructor
  . rintro rfl;have:=a.eq;simp[val] at this;omega
  . intro h;omega
 .
  constructor
  . rintro rfl;have:=n1.eq;simp[val] at this;omega
  . intro h;omega
 .
  constructor
  . rintro rfl;rw[<-n1.eq,<-a.eq]
  . rintro rfl;exact n1.inj (by decide) a
theorem Qop(p q:Rat):p=q↔(decide (p.num<0)=decide (q.num<0)/\p.num.natAbs=q.num.natAbs/\p.den=q.den):=by
 constructor
 . rintro rfl;exact⟨rfl,rfl,rfl⟩
 .
  rintro⟨a,b,c⟩;refine Rat.ext ?_ c;rw[<-Qb2 p.num,<-Qb2 q.num,a,b]
theorem Qoq(x y:Bool)(A bx B b2:Vx)(lx C mx D ly E my F:Nat)(p q:Rat)(w:Vz)(P:FracAt w x A lx C bx mx D p)(Q:FracAt w y B ly E b2 my F q):
 Calls prog 158 #[.agg #[.bool x,.slice A lx C,.slice bx mx D],.agg #[.bool y,.slice B ly E,.slice b2 my F]] w fun e w'=>e=.returned (.bool (decide (p=q)))/\Below w.heap.size w w':=by
 obtain⟨R,rfl,z⟩:=P.top;obtain⟨S,rfl,G⟩:=Q.top;obtain⟨T,rfl,H,l,d⟩:=P.low.row;obtain⟨U,rfl,I,m,f⟩:=Q.low.row;have hT:decide (R=S)=decide (p.num.natAbs=q.num.natAbs):=by
  by_cases h:p.num.natAbs=q.num.natAbs
  . rw[decide_eq_true h];rw[h] at z;exact decide_eq_true (z.num.inj (by decide) G.num)
  . rw[decide_eq_false h];exact decide_eq_false (fun Y=>h (by rw[<-z.num.eq,<-G.num.eq,Y]))
 have hL:decide (T=U)=decide (p.den=q.den):=by
  by_cases h:p.den=q.den
  . rw[decide_eq_true h];exact decide_eq_true ((Qik d f).2 h)
  . rw[decide_eq_false h];exact decide_eq_false (fun Y=>h ((Qik d f).1 Y))
 have n:=Qop p q;rw[<-P.neg,<-Q.neg] at n;obtain⟨V,g⟩:=nm ((w.alloc (.cells #[.bool x,.slice A R.length C,.slice bx T.length D] 141)).alloc (.cells #[.bool y,.slice B S.length E,.slice b2 U.length F] 141));have c:Below w.heap.size w V:=by rw[<-g];exact Below.new2 w _ _
 have r:SB V (w.heap.size+1) 141 #[.bool y,.slice B S.length E,.slice b2 U.length F]:=by rw[<-g];exact SB.new2 w _ _ _ _
 have s:SB V w.heap.size 141 #[.bool x,.slice A R.length C,.slice bx T.length D]:=by rw[<-g];exact(SB.new w _ _).alloc _
 obtain⟨a,i⟩:=Ia (Qij A B C E R S V (z.row.below c) (G.row.below c) z.short G.short) (fun w1 hb=>Qij bx b2 D F T U w1 ((H.below c).below hb) ((I.below c).below hb) l m);rw[hT] at a;rw[hL] at i;obtain⟨x0,x1,-⟩:=zc s;obtain⟨y0,y1,-⟩:=zc r;obtain⟨J,K,t,u,j⟩:=Id s r c g n;have L:=c.size;clear P Q z G H l d I m f hT hL n c s r g;by_cases Z:x=y
 .
  subst Z;by_cases W:p.num.natAbs=q.num.natAbs
  .
   rw[decide_eq_true W] at a;go_enter func158,ntmps158;go_wp2_with fail;rw[u.o];go_fit a.o;rintro e w1 ⟨rfl,b⟩;have M:=Hi (i.o w1 b);obtain⟨-,-,x2,-⟩:=zc (J.o.below b J.o.lt);obtain⟨-,-,y2,-⟩:=zc (K.o.below b K.o.lt);have k:=Hi (t.o.trans (b.mono L));clear a i b;go_wp2_with fail;go_fit M.o;rintro e w2 ⟨rfl,N⟩;have aa:=Hi (k.o.trans (N.mono k.o.size));clear M N;go_wp2;go_ret;refine⟨?_,aa.o⟩;by_cases X:p.den=q.den
   . rw[decide_eq_true X,decide_eq_true (j.o.2 ⟨by trivial,W,X⟩)];rfl
   . rw[decide_eq_false X,decide_eq_false (fun h=>X (j.o.1 h).2.2)];rfl
  .
   rw[decide_eq_false W] at a;have v:O (decide (p=q)=false):=Hi (decide_eq_false (fun h=>W (j.o.1 h).2.1));go_enter func158,ntmps158;go_wp2_with fail;rw[u.o];go_fit a.o;rintro e w1 ⟨rfl,b⟩;have k:=Hi (t.o.trans (b.mono L));clear a i b;go_wp2;go_ret;exact⟨by rw[v.o];rfl,k.o⟩
 .
  have q0:(x == y)=false:=by simpa using Z
  have v:O (decide (p=q)=false):=Hi (decide_eq_false (fun h=>Z (j.o.1 h).1));clear a i;go_enter func158,ntmps158;go_wp2;go_ret;exact⟨by rw[v.o];rfl,by rw[u.o];exact t.o⟩
theorem Qor{c d:Value}{p q:Rat}{w:Vz}(a:FracV w c p)(b:FracV w d q):Calls prog 158 #[c,d] w fun e w'=>e=.returned (.bool (decide (p=q)))/\Below w.heap.size w w':=by
 obtain⟨f,g,h,i,bx,j,k,rfl,a⟩:=a;obtain⟨l,m,n,o,b2,r,s,rfl,b⟩:=b;exact Qoq f l g bx m b2 h i j k n o r s p q w a b
end Go.Proofs.YtppkmifkpjkgpaaGreatDoor
