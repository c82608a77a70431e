/- package rows: where rows lie; a row that isn't 0 at a column. -/
import Derived.Test.YtjhdfkcdigmfhaaGreatDoorC24RigE
namespace Go.Proofs.YtjhdfkcdigmfhaaGreatDoor
open Go.RowKit
set_option linter.unusedVariables false
set_option linter.unusedSimpArgs false
theorem Qej(a1 a2 a3:Option Addr)(c1 c2 c3 n m k:Nat)(w:World)(hm:m≤24)(hk:k≤20):
 Calls Tryz.prog 118 #[.agg #[.slice a1 n c1,.slice a2 m c2,.slice a3 k c3]] w fun e w'=>e=.returned (.int .i64 ((m:Int)+(k:Int)))∧Below w.heap.size w w':=by
 go_enter Tryz.func118,Tryz.ntmps118
 go_wp2
 go_ret
 exact⟨rfl,(Below.refl _ _).alloc (Nat.le_refl _) _⟩
theorem Qek(a1 a2 a3:Option Addr)(c1 c2 c3 n m k:Nat)(w:World)(hn:n≤10):
 Calls Tryz.prog 119 #[.agg #[.slice a1 n c1,.slice a2 m c2,.slice a3 k c3]] w fun e w'=>e=.returned (.int .i64 (2*(n:Int)))∧Below w.heap.size w w':=by
 go_enter Tryz.func119,Tryz.ntmps119
 go_wp2
 go_ret
 exact⟨rfl,(Below.refl _ _).alloc (Nat.le_refl _) _⟩
theorem Qcz(j:Nat)(w:World)(hj:j≤10):Calls Tryz.prog 197 #[.int .i64 j] w fun e w'=>e=.returned (.int .i64 (2*(j:Int)))∧w'=w:=by
 go_enter Tryz.func197,Tryz.ntmps197
 go_wp2
 go_ret
 exact⟨rfl,rfl⟩
theorem Qc0(j:Nat)(w:World)(hj:j≤10):Calls Tryz.prog 198 #[.int .i64 j] w fun e w'=>e=.returned (.int .i64 (2*(j:Int)+1))∧w'=w:=by
 go_enter Tryz.func198,Tryz.ntmps198
 go_wp2
 go_ret
 exact⟨rfl,rfl⟩
set_option maxRecDepth 100000 in
theorem Qp0(j:Nat)(wy:Int)(q:ByteArray)(w:World)(hj:j≤10):Calls Tryz.prog 199 #[.agg #[.int .i64 j,.int .i64 wy,.string q]] w fun e w'=>e=.returned (.int .i64 (if wy=1 then 2*(j:Int) else 2*(j:Int)+1))∧Below w.heap.size w w':=by
 have HB:=Hi ((Below.refl w.heap.size w).alloc (Nat.le_refl _) (.cells #[.int .i64 j,.int .i64 wy,.string q] 71))
 by_cases h:wy=1
 ·
  subst h
  rw[if_pos rfl]
  go_enter Tryz.func199,Tryz.ntmps199
  go_wp2_with fail
  go_fit (Qcz j _ hj)
  rintro e w1 ⟨rfl,rfl⟩
  go_wp2
  go_ret
  exact⟨rfl,HB.out⟩
 ·
  rw[if_neg h]
  have e0:(wy == 1)=false:=by rw[beq_eq_false_iff_ne];exact h
  clear h
  go_enter Tryz.func199,Tryz.ntmps199
  go_wp2_with fail
  go_fit (Qc0 j _ hj)
  rintro e w1 ⟨rfl,rfl⟩
  go_wp2
  go_ret
  exact⟨rfl,HB.out⟩
def FE.cells(t:FE):List Value:=[t.x,t.y,t.z]
structure QRow (w:World) (a:Option Addr) (cap:Nat) (ts:List FE):Prop where
 row:ARow FE.cells w a cap ts
 ts:∀t,t∈ ts→FracV w (.agg #[t.x,t.y,t.z]) t.q∧Fits t.q t.k∧0<t.k
theorem QRow.below{w w':World}{a:Option Addr}{cap:Nat}{ts:List FE}(h:QRow w a cap ts)(hb:Below w.heap.size w w'):QRow w' a cap ts:=
 ⟨h.row.below hb,fun t ht=>⟨(h.ts t ht).1.below hb,(h.ts t ht).2⟩⟩
theorem QRow.at{w:World}{a:Option Addr}{cap:Nat}{ts:List FE}(h:QRow w a cap ts){i:Nat}{e:FE}(hi:ts[i]?=some e):
 ∃b off,a=some ⟨b,off,none⟩∧b<w.heap.size∧w.cell? ⟨b,off+i*3,none⟩=some e.x∧w.cell? ⟨b,off+i*3+1,none⟩=some e.y∧w.cell? ⟨b,off+i*3+2,none⟩=some e.z:=by
 obtain⟨b,off,h1,h2,h3⟩:=h.row.at (sz:=3) (fun _=>rfl) (by decide) hi
 exact⟨b,off,h1,h2,h3 0 _ rfl,h3 1 _ rfl,h3 2 _ rfl⟩
theorem QRow.get{w:World}{a:Option Addr}{cap:Nat}{ts:List FE}(h:QRow w a cap ts){i:Nat}{e:FE}(hi:ts[i]?=some e):FracV w (.agg #[e.x,e.y,e.z]) e.q∧Fits e.q e.k∧0<e.k:=h.ts e (List.mem_of_getElem? hi)
def filledOf(ts:List FE):Nat:=ts.countP fun t=>!decide (t.q=0)
theorem Qoy{ts:List FE}{k:Nat}{e:FE}(h:ts[k]?=some e):filledOf (ts.take (k+1))=filledOf (ts.take k)+if e.q=0 then 0 else 1:=by
 unfold filledOf
 rw[List.take_add_one,h,List.countP_append]
 by_cases h0:e.q=0<;>simp[h0]
theorem Qh3(ts:List FE):filledOf ts≤ts.length:=List.countP_le_length
set_option maxRecDepth 100000 in
set_option maxHeartbeats 4000000 in
theorem Qoz(a:Option Addr)(cap:Nat)(ts:List FE)(w:World)(h:QRow w a cap ts)(hl:ts.length≤1000):
 Calls Tryz.prog 298 #[.slice a ts.length cap] w fun e w'=>e=.returned (.int .i64 (filledOf ts:Nat))∧Below w.heap.size w w':=by
 have HH:=Hi h
 clear h
 go_enter Tryz.func298,Tryz.ntmps298
 go_wp2_with fail
 go_loopw [3,8] (fun n i wr=>∃k:Nat,k≤ts.length∧i=.int .i64 k∧n=.int .i64 (filledOf (ts.take k):Nat)∧Below w.heap.size w wr) (fun _ i _=>ts.length - (intOf i).toNat)
 case atStart=>exact⟨0,by omega,rfl,rfl,Below.refl _ _⟩
 case round=>
  obtain⟨k,hk,rfl,rfl,hb⟩:=hrel
  have HB:=Hi hb
  clear hb
  by_cases hlt:k<ts.length
  ·
   obtain⟨f,hf⟩:∃f,ts[k]?=some f:=⟨ts[k],List.getElem?_eq_getElem hlt⟩
   obtain⟨fb,off,rfl,hfb,d0,d1,d2⟩:=(HH.out.below HB.out).at hf
   obtain⟨hv,_,_⟩:=(HH.out.below HB.out).get hf
   have HFK:=Hi (Qoy hf)
   have hn:filledOf (ts.take k)≤1000:=by
    have h1:=Qh3 (ts.take k)
    have h2:=List.length_take_le k ts
    omega
   obtain⟨o1,o2,o3⟩:=hv.one
   obtain⟨m,hm⟩:∃m,filledOf (ts.take k)=m:=⟨_,rfl⟩
   rw[hm] at hn HFK ⊢
   have HV:=Hi hv
   have q1:((k:Int)<(ts.length:Int)):=by omega
   obtain⟨V,hV⟩:∃V,wr.alloc (.cells #[f.x,f.y,f.z] 128)=V:=⟨_,rfl⟩
   have HBV:Hid (Below wr.heap.size wr V):=Hi (by rw[←hV];exact(Below.refl _ _).alloc (Nat.le_refl _) _)
   have HW:=Hi hV
   have s0:=Qap Tryz.prog o1
   have s1:=Qap Tryz.prog o2
   have s2:=Qap Tryz.prog o3
   clear hf hv hm hV o1 o2 o3
   go_wp2_with fail
   rw[HW.out]
   go_fit (Qbe (HV.out.below HBV.out))
   rintro e w4 ⟨rfl,hb4⟩
   have HB4:=Hi (HB.out.trans ((HBV.out.trans (hb4.mono HBV.out.size)).mono HB.out.size))
   clear hb4 d0 d1 d2 s0 s1 s2
   by_cases h0:f.q=0
   ·
    rw[decide_eq_true h0]
    rw[if_pos h0] at HFK
    clear h0
    go_wp2
    go_roundw
    case rel=>exact⟨k+1,by omega,by go_num,by rw[HFK.out];rfl,HB4.out⟩
    case measure=>simp[intOf];omega
   ·
    rw[decide_eq_false h0]
    rw[if_neg h0] at HFK
    clear h0
    go_wp2
    go_roundw
    case rel=>exact⟨k+1,by omega,by go_num,by rw[HFK.out];go_num,HB4.out⟩
    case measure=>simp[intOf];omega
  ·
   have hk':k=ts.length:=by omega
   subst hk'
   have HT:Hid (filledOf (ts.take ts.length)=filledOf ts):=Hi (by rw[List.take_length])
   rw[HT.out]
   go_wp2
   go_ret
   exact⟨rfl,HB.out⟩
structure MR where
 a:Option Addr
 cap:Nat
 ts:List FE
def MR.cells(r:MR):List Value:=[.slice r.a r.ts.length r.cap]
def MR.q(r:MR)(c:Nat):Rat:=(r.ts.map (·.q)).getD c 0
theorem MR.q_at{r:MR}{c:Nat}{e:FE}(h:r.ts[c]?=some e):r.q c=e.q:=by
 unfold MR.q
 simp[List.getD,h]
structure QMat (w:World) (a:Option Addr) (cap wide:Nat) (rs:List MR):Prop where
 row:ARow MR.cells w a cap rs
 rs:∀r,r∈ rs→QRow w r.a r.cap r.ts∧r.ts.length=wide
theorem QMat.below{w w':World}{a:Option Addr}{cap wide:Nat}{rs:List MR}(h:QMat w a cap wide rs)(hb:Below w.heap.size w w'):QMat w' a cap wide rs:=
 ⟨h.row.below hb,fun t ht=>⟨(h.rs t ht).1.below hb,(h.rs t ht).2⟩⟩
theorem QMat.at{w:World}{a:Option Addr}{cap wide:Nat}{rs:List MR}(h:QMat w a cap wide rs){i:Nat}{r:MR}(hi:rs[i]?=some r):
 ∃b off,a=some ⟨b,off,none⟩∧b<w.heap.size∧w.cell? ⟨b,off+i,none⟩=some (.slice r.a r.ts.length r.cap):=by
 obtain⟨b,off,h1,h2,h3⟩:=h.row.at (sz:=1) (fun _=>rfl) (by decide) hi
 refine⟨b,off,h1,h2,?_⟩
 have:=h3 0 _ rfl
 rw[Nat.mul_one] at this
 exact this
theorem QMat.get{w:World}{a:Option Addr}{cap wide:Nat}{rs:List MR}(h:QMat w a cap wide rs){i:Nat}{r:MR}(hi:rs[i]?=some r):QRow w r.a r.cap r.ts∧r.ts.length=wide:=h.rs r (List.mem_of_getElem? hi)
def Picks(rs:List MR)(c:Nat)(v:Int):Prop:=
 (v= -1∧∀r∈ rs,r.q c=0)∨∃j r,rs[j]?=some r∧v=(j:Nat)∧r.q c≠0
theorem Picks.skip{rs:List MR}{c k:Nat}{v:Int}{r:MR}(h:Picks (rs.take k) c v)(hr:rs[k]?=some r)(h0:r.q c=0):Picks (rs.take (k+1)) c v:=by
 rw[List.take_add_one,hr]
 rcases h with ⟨h1,h2⟩|⟨j,s,h1,h2,h3⟩
 ·
  refine .inl ⟨h1,fun x hx=>?_⟩
  rcases List.mem_append.1 hx with hx|hx
  · exact h2 x hx
  · obtain rfl:x=r:=by simpa using hx
    exact h0
 · exact .inr ⟨j,s,by rw[List.getElem?_append_left (List.getElem?_eq_some_iff.1 h1).1];exact h1,h2,h3⟩
theorem Picks.keep{rs:List MR}{c k j:Nat}{r:MR}(h:Picks (rs.take k) c (j:Nat))(hr:rs[k]?=some r):Picks (rs.take (k+1)) c (j:Nat):=by
 rw[List.take_add_one,hr]
 rcases h with ⟨h1,h2⟩|⟨i,s,h1,h2,h3⟩
 · omega
 · exact .inr ⟨i,s,by rw[List.getElem?_append_left (List.getElem?_eq_some_iff.1 h1).1];exact h1,h2,h3⟩
theorem Picks.this{rs:List MR}{c k:Nat}{r:MR}(hr:rs[k]?=some r)(h0:r.q c≠0):Picks (rs.take (k+1)) c (k:Nat):=
 .inr ⟨k,r,by rw[List.getElem?_take_of_lt (Nat.lt_succ_self k)];exact hr,rfl,h0⟩
set_option maxRecDepth 100000 in
set_option maxHeartbeats 4000000 in
theorem Qo0(a:Option Addr)(cap wide c:Nat)(rs:List MR)(w:World)(h:QMat w a cap wide rs)(hl:rs.length≤1000)(hw:wide≤1000)(hc:c<wide):
 Calls Tryz.prog 251 #[.slice a rs.length cap,.int .i64 c] w fun e w'=>(∃v,e=.returned (.int .i64 v)∧Picks rs c v)∧Below w.heap.size w w':=by
 have HH:=Hi h
 clear h
 go_enter Tryz.func251,Tryz.ntmps251
 go_wp2_with fail
 go_loopw [5,6,12] (fun u f i wr=>∃(k m:Nat) (v:Int),k≤rs.length∧i=.int .i64 k∧u=.int .i64 v∧f=.int .i64 m∧m≤1000∧Picks (rs.take k) c v∧Below w.heap.size w wr) (fun _ _ i _=>rs.length - (intOf i).toNat)
 case atStart=>exact⟨0,0,-1,by omega,rfl,rfl,rfl,by omega,.inl ⟨rfl,fun r hr=>by simp at hr⟩,Below.refl _ _⟩
 case round=>
  obtain⟨k,m,v,hk,rfl,rfl,rfl,hm,hp,hb⟩:=hrel
  have HB:=Hi hb
  have HP:=Hi hp
  clear hb hp
  by_cases hlt:k<rs.length
  ·
   obtain⟨r,hr⟩:∃r,rs[k]?=some r:=⟨rs[k],List.getElem?_eq_getElem hlt⟩
   obtain⟨fb,off,rfl,hfb,d⟩:=(HH.out.below HB.out).at hr
   obtain⟨hq,hrw⟩:=(HH.out.below HB.out).get hr
   obtain⟨e,he⟩:∃e,r.ts[c]?=some e:=⟨r.ts[c],List.getElem?_eq_getElem (by omega)⟩
   obtain⟨rb,ro,hra,hrb,d0,d1,d2⟩:=hq.at he
   obtain⟨hv,_,_⟩:=hq.get he
   have HQ:=Hi hq
   have HR:=Hi hr
   have HE:=Hi (MR.q_at he)
   have HV:=Hi hv
   have q1:((k:Int)<(rs.length:Int)):=by omega
   have q2:((c:Int)<(r.ts.length:Int)):=by omega
   rw[hra] at d
   have HRA:=Hi hra
   clear hr hq he hv hra
   go_wp2_with fail
   go_fit (Qbe HV.out)
   rintro e' w4 ⟨rfl,hb4⟩
   have HB4:=Hi (HB.out.trans (hb4.mono HB.out.size))
   have HQ4:=Hi (HQ.out.below hb4)
   clear hb4 d0 d1 d2 d
   by_cases h0:e.q=0
   ·
    rw[decide_eq_true h0]
    have HZ:Hid (r.q c=0):=Hi (HE.out.trans h0)
    clear h0
    go_wp2
    go_roundw
    case measure=>simp[intOf];omega
    case rel=>exact⟨k+1,m,v,by omega,by go_num,rfl,rfl,hm,HP.out.skip HR.out HZ.out,HB4.out⟩
   ·
    rw[decide_eq_false h0]
    have HZ:Hid (r.q c≠0):=Hi (fun hc=>h0 (HE.out.symm.trans hc))
    have hf:=Qh3 r.ts
    clear h0
    go_wp2_with fail
    have HF:=Hi (Qoz r.a r.cap r.ts w4 HQ4.out (by omega))
    rw[HRA.out,hrw] at HF
    obtain⟨g,hg⟩:∃g,filledOf r.ts=g:=⟨_,rfl⟩
    rw[hg] at HF hf
    clear hg
    go_fit HF.out
    rintro e' w5 ⟨rfl,hb5⟩
    have HB5:=Hi (HB4.out.trans (hb5.mono HB4.out.size))
    clear hb5
    have hg:g≤1000:=by omega
    by_cases hv:v<0
    ·
     clear HP
     go_wp2
     go_roundw
     case measure=>simp[intOf];omega
     case rel=>exact⟨k+1,g,k,by omega,by go_num,rfl,rfl,hg,Picks.this HR.out HZ.out,HB5.out⟩
    ·
     obtain⟨j,rfl⟩:∃j:Nat,v=j:=⟨v.toNat,by omega⟩
     clear hv
     by_cases hgm:(g:Int)<(m:Int)
     ·
      go_wp2
      go_roundw
      case measure=>simp[intOf];omega
      case rel=>exact⟨k+1,g,k,by omega,by go_num,rfl,rfl,hg,Picks.this HR.out HZ.out,HB5.out⟩
     ·
      go_wp2
      go_roundw
      case measure=>simp[intOf];omega
      case rel=>exact⟨k+1,m,j,by omega,by go_num,rfl,rfl,hm,HP.out.keep HR.out,HB5.out⟩
  ·
   have hk':k=rs.length:=by omega
   subst hk'
   have HP':Hid (Picks rs c v):=Hi (by have:=HP.out;rw[List.take_length] at this;exact this)
   go_wp2
   go_ret
   exact⟨⟨v,rfl,HP'.out⟩,HB.out⟩
end Go.Proofs.YtjhdfkcdigmfhaaGreatDoor
