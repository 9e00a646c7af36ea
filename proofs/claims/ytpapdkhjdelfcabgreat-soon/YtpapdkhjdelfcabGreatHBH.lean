import Derived.Test.YtpapdkhjdelfcabGreatHBG
import Derived.Test.YtpapdkhjdelfcabGreatHAF
set_option maxRecDepth 100000
set_option maxHeartbeats 4000000
namespace Go.Proofs.YtpapdkhjdelfcabGreat
open Go.RowKit
def frameA (a:Ans):List UInt8:=if a.1=1 then packB (answ1 a.2.1 a.2.2.1 a.2.2.2.1 a.2.2.2.2.1 (txt a.2.2.2.2.2))++sumB (crcB (packB (answ1 a.2.1 a.2.2.1 a.2.2.2.1 a.2.2.2.2.1 (txt a.2.2.2.2.2)))) else packB (answ0 a.1)++sumB (crcB (packB (answ0 a.1)))
theorem frame_is (a:Ans) (w:World) (b0:a.1≤4611686018427387904) (b1:a.2.1≤4611686018427387904) (b2:a.2.2.1≤4611686018427387904) (b3:a.2.2.2.1≤4611686018427387904) (b4:a.2.2.2.2.1≤4611686018427387904) (ht:a.2.2.2.2.2.length≤1048576):
  Calls Tryz.prog 64 #[ansA a] w (RTx w (frameA a)):=by
 obtain ⟨k,g,f,c,n,s⟩:=a;unfold ansA frameA;simp only at *;by_cases hk:k=1
 ·subst hk;rw [if_pos rfl];exact writea1_is g f c n (txt s) w b1 b2 b3 b4 (by simpa [txt,ByteArray.size] using ht)
 ·rw [if_neg hk];exact writea0_is k g f c n (txt s) w b0 (by rw [beq_eq_false_iff_ne];omega)
theorem questP_ok {l:List UInt8} {h f c m n:Nat} (hq:questP l=some (h,f,c,m,n)):h<4294967296∧f<256∧c<4294967296∧m<256∧n<65536:=by
 unfold questP at hq;cases hO:openB l with
 |none=>rw [hO] at hq;cases hq
 |some b=>
  rw [hO] at hq;have h':(questX (bytesBits b)).bind (fun y=>if endP (some y.2)=true∧y.1.1=[81] then some y.1.2 else none)=some (h,f,c,m,n):=hq;cases hX:questX (bytesBits b) with
  |none=>rw [hX] at h';cases h'
  |some y=>
   rw [hX] at h';have h2:(if endP (some y.2)=true∧y.1.1=[81] then some y.1.2 else none)=some (h,f,c,m,n):=h';split at h2
   ·injection h2 with h2
    obtain ⟨t,Y1, -,hX⟩:=then_some hX;obtain ⟨x1,Y2,p1,hX⟩:=then_some hX;obtain ⟨x2,Y3,p2,hX⟩:=then_some hX;obtain ⟨x3,Y4,p3,hX⟩:=then_some hX;obtain ⟨x4,Y5,p4,hX⟩:=then_some hX;obtain ⟨x5,Y6,p5,hX⟩:=then_some hX;unfold doneP at hX;injection hX with hX
    rw [←hX] at h2;injection h2 with e1 h2
    injection h2 with e2 h2
    injection h2 with e3 h2
    injection h2 with e4 e5
    rw [←e1,←e2,←e3,←e4,←e5];exact ⟨(numP_lt p1).1,(numP_lt p2).1,(numP_lt p3).1,(numP_lt p4).1,(numP_lt p5).1⟩
   ·cases h2
def serveB (fm g:Nat) (c:Cfg) (B:List BK) (E:List EI) (l:List UInt8):List UInt8:=match questP l with
 |some (h,fo,cg,cf,mi)=>frameA (answF fm g c B E h fo cg cf mi)
 |none=>[]
theorem cutP_len (l:List UInt8) (n:Int):(cutP l n).length≤48:=by
 unfold cutP;split
 ·simp
 ·rw [List.length_take];omega
theorem answF_ok {fm g:Nat} {c:Cfg} {B:List BK} {E:List EI} {h fo cg cf mi:Nat} (hg:g≤4294967296) (hm:mi<65536) (hfo:fo<256) (hI:∀f,(imageB f g c B E).length≤1099511627776):(answF fm g c B E h fo cg cf mi).1≤4611686018427387904∧(answF fm g c B E h fo cg cf mi).2.1≤4611686018427387904∧(answF fm g c B E h fo cg cf mi).2.2.1≤4611686018427387904∧(answF fm g c B E h fo cg cf mi).2.2.2.1≤4611686018427387904∧(answF fm g c B E h fo cg cf mi).2.2.2.2.1≤4611686018427387904∧(answF fm g c B E h fo cg cf mi).2.2.2.2.2.length≤1048576:=by
 have hcm:(fo &&& fm)<256:=Nat.lt_of_le_of_lt Nat.and_le_left hfo;unfold answF;split
 ·exact ⟨by simp,by simp,by simp,by simp,by simp,by simp⟩
 ·split
  ·exact ⟨by simp,by simp,by simp,by simp,by simp,by simp⟩
  ·have h1:fmtF cg cf (fo &&& fm) g≤256:=by unfold fmtF;split <;>(try split)<;>omega
   have h2:=hI (fmtF cg cf (fo &&& fm) g);have h3:countP (imageB (fmtF cg cf (fo &&& fm) g) g c B E).length≤4611686018427387904:=by unfold countP;omega
   refine ⟨by simp,by simp only;omega,by simp only;omega,h3,?_,?_⟩
   ·simp only;split <;>omega
   ·simp only;exact Nat.le_trans (cutP_len _ _) (by decide)
theorem serve_is (s fm g:Nat) (c:Cfg) (vP vE:Value) (B:List BK) (E:List EI) (t:ByteArray) (w:World) (hT:TabAt w s c vP vE) (hcf:c.formats=(fm:Int)) (t8:w.cell? ⟨s,8,none⟩=some (.int .i64 (g:Int))) (hP:PoolAt w vP B) (hE:EIAt w vE E) (hB:PoolOK B) (hc:c.TOK) (hok:∀e∈E,EntOK e) (hlen:E.length≤65536) (hg:g≤4294967296) (hfm:fm<256) (ht:t.size≤1099511627776):
  Calls Tryz.prog 30 #[.pointer (some ⟨s,0,none⟩),.string t] w (RTx w (serveB fm g c B E t.data.toList)):=by
 have hrq:=fun wx=>readq_is t wx ht
 rcases hq:questP t.data.toList with _|⟨h,fo,cg,cf,mi⟩
 ·rw [hq] at hrq;unfold RQuest questV questA at hrq;have HF:Hid (serveB fm g c B E t.data.toList=[]):=by show _=_;unfold serveB;rw [hq]
  rw [HF.out];clear hT hP hE hok;go_enter Tryz.func30,Tryz.ntmps30;go_wp2_with fail;refine (hrq _).mono ?_;rintro e w1 ⟨rfl,hb1⟩;have HB1:=Hid.mk hb1;clear hb1 hrq;go_wp2;go_ret;exact ⟨rfl,HB1.out.step_alloc _⟩
 ·rw [hq] at hrq;unfold RQuest questV at hrq;obtain ⟨q1,q2,q3,q4,q5⟩:=questP_ok hq;have HF:Hid (serveB fm g c B E t.data.toList=frameA (answF fm g c B E h fo cg cf mi)):=by show _=_;unfold serveB;rw [hq]
  have han:=fun wx (hx:Bel w wx)=>answer_is s fm g c vP vE B E h fo cg cf mi wx (hT.later hx) hcf (hx.cell t8) (hP.later hx) (hE.later hx) hB hc hok hlen (by omega) q2 hfm
  have hIl:∀f,(imageB f g c B E).length≤1099511627776:=fun f=>by
   have h1:=packB_body_le (f:=f) (g:=g) (E:=E) hc.2.2.2.2.2.2.2.2.2 hB hlen;have h2:∀x,(sumB x).length≤1000:=fun x=>by simp [sumB]
   have h3:=h2 (crcB (packB (bodyB f g c B E)));unfold imageB;rw [List.length_append];omega
  obtain ⟨k1,k2,k3,k4,k5,k6⟩:=answF_ok (fm:=fm) (h:=h) (cg:=cg) (cf:=cf) hg q5 q2 hIl;have hfr:=fun wx=>frame_is (answF fm g c B E h fo cg cf mi) wx k1 k2 k3 k4 k5 k6
  rw [HF.out];unfold questA at hrq han;generalize answF fm g c B E h fo cg cf mi=aa at *;generalize frameA aa=FA at *;obtain ⟨z1,z2,z3,z4,z5,z6⟩:=aa;unfold RAnsV at han;unfold ansA at hfr han;simp only at *;clear hT hP hE hok hB hc k1 k2 k3 k4 k5 k6 HF hIl hq q1 q2 q3 q4 q5;go_enter Tryz.func30,Tryz.ntmps30;go_wp2_with fail;refine (hrq _).mono ?_;rintro e w1 ⟨rfl,hb1⟩;have HB1:=Hid.mk (hb1.step_alloc (.cells #[.int .i64 (h:Int),.int .i64 (fo:Int),.int .i64 (cg:Int),.int .i64 (cf:Int),.int .i64 (mi:Int)] 91));have H2:=Hid.mk (han _ HB1.out);clear hb1 hrq han;go_wp2_with fail;refine H2.out.mono ?_;rintro e w2 ⟨rfl,hb2⟩;have HB2:=Hid.mk ((HB1.out.trans hb2).step_alloc (.cells #[.int .i64 (z1:Int),.int .i64 (z2:Int),.int .i64 (z3:Int),.int .i64 (z4:Int),.int .i64 (z5:Int),.string (txt z6)] 97));clear hb2 H2 HB1;go_wp2_with fail;refine (hfr _).mono ?_;rintro e w3 ⟨rfl,hb3⟩;have HB3:=Hid.mk (HB2.out.trans hb3);clear hb3 hfr HB2;go_wp2;go_ret;exact ⟨rfl,HB3.out⟩
end Go.Proofs.YtpapdkhjdelfcabGreat
namespace Go.Proofs.YtpapdkhjdelfcabGreat
open Go.RowKit
theorem step_append_own2 {P:Program} {ops:Array Oper} {o:Oper} {a:Act} {w:World} {K:Act→World→Prop} {Q:Exit→Act→World→Prop} {E:Prop}
  (hg:o.guard=none) (s x:Operand) (t:TypeId) (hop:o.op=Op.call {callee:=Callee.builtin Builtin.append,args:=#[s,x],argTypes:=#[t,t]})
  (base:Nat) (e:TypeId) (i:TypeInfo) (z:Value) (size bytes:Nat) (h1:P.underlying t=some (.slice e)) (h2:P.info? e=some i) (h3:i.zero=some z) (h4:i.size=size) (h5:i.bytes=bytes) (h6:z.cells.size=size) (h7:0<size)
  (v:Value) (n:Nat) (xs:List Value) (hs:a.eval s=v) (hown:w.ownsRow base e size v n xs)
  (ad:Addr) (m c:Nat) (news:List Value) (hx:a.eval x= .slice (some ad) m c) (hn:news.length=m * size) (hc:∀j u,news[j]?=some u→w.cell? (ad.add j)=some u) (h1c:∀u∈news,u.oneCell'=true)
  (b1:n+m≤maxLen) (b2:(n+m) * bytes≤140737488355328) (hbase:base≤w.heap.size)
  (hK:∀v' w',w'.ownsRow base e size v' (n+m) (xs++news)→w.grownBy w' v.ownBlock→(v'.ownBlock=v.ownBlock∨v'.ownBlock=some w.heap.size)→K (a.put o.dst v') w'):
  if Region.wanted o (yielded ops a.tmps)=true then Oper.wp P o a w K Q else E:=by
 have hw:Region.wanted o (yielded ops a.tmps)=true:=by simp [Region.wanted,hg]
 rw [if_pos hw];obtain ⟨v',w',hrun,r1,r2,r3⟩:=run_append_own2 (P:=P) w base t o.type e i z size bytes h1 h2 h3 h4 h5 h6 h7 v n xs hown ad m c news hn hc h1c b1 b2 hbase;unfold Oper.wp;simp [execOp,hop,resolve,invoke,builtin,hs,hx,hrun,Result.andThen];exact hK v' w' r1 r2 r3
theorem Tryz.infoPP:(Tryz.prog.info? 88).map (fun i=>(i.zero,i.size,i.bytes))=some (some (.pointer none),1,8):=by kernel_rfl
def KeepS (s:Nat) (w w':World):Prop:=(∀o,o≠9→w'.cell? ⟨s,o,none⟩=w.cell? ⟨s,o,none⟩)∧∀o,w'.frozen? ⟨s,o,none⟩=w.frozen? ⟨s,o,none⟩
theorem KeepS.of {s:Nat} {w w6:World} (h:w6.heap[s]?=w.heap[s]?) (u:Value):KeepS s w (w6.setCell ⟨s,9,none⟩ u):=
 ⟨fun o ho=>(set_other (Or.inr (fun e=>ho e.symm))).trans (World.cell?_of_block (a:=⟨s,o,none⟩) h),fun o=>(frozen_set _ _ _ _).trans (World.frozen?_of_block (a:=⟨s,o,none⟩) h)⟩
theorem KeepS.bel {s:Nat} {w w6 w7:World} (h:KeepS s w w6) (hs:s<w6.heap.size) (k:Bel w6 w7):KeepS s w w7:=
 ⟨fun o ho=>(World.cell?_of_block (a:=⟨s,o,none⟩) (k.block s hs)).trans (h.1 o ho),fun o=>(World.frozen?_of_block (a:=⟨s,o,none⟩) (k.block s hs)).trans (h.2 o)⟩
def RJoin (s:Nat) (vL:Value) (ps:List Nat) (fm:Nat) (w:World) (e:Ending) (w':World):Prop:=
 ∃p v',e= .returned (.tuple #[.int .i64 (ps.length:Int),.int .i64 0])∧But (s::gl vL) w w'∧w.heap.size≤p∧BoxC p 146 (plNew fm) w'∧w'.cell? ⟨s,9,none⟩=some v'∧PlRow w' v' (ps++[p])∧(∀k,v'.ownBlock=some k→k∈gl vL∨w.heap.size≤k)∧(∀k,v'.ownBlock=some k→k≠p∧k≠s)∧KeepS s w w'
theorem join_is (s fm:Nat) (vL:Value) (ps:List Nat) (w:World) (c9:w.cell? ⟨s,9,none⟩=some vL) (f9:w.frozen? ⟨s,9,none⟩=false) (hL:PlRow w vL ps) (hl:ps.length<4) (hf:1≤fm∧fm≤3) (hs:vL.ownBlock≠some s):
  Calls Tryz.prog 28 #[.pointer (some ⟨s,0,none⟩),.int .i64 (fm:Int)] w (RJoin s vL ps fm w):=by
 obtain ⟨i0,hi,hz0,hz1,hz2⟩:=info_parts Tryz.infoPP;have hfm:=fun wx=>formats_is (fm:Int) wx
 obtain ⟨ao,cap,rfl, -⟩:=hL.open;have HL:=Hid.mk hL;have HS:=Hid.mk hs;have hsl:s<w.heap.size:=World.block_lt_of_cell? w _ c9;have hdl:decide ((4:Int)≤(ps.length:Int))=false:=decide_eq_false (by omega);clear hL hs;go_enter Tryz.func28,Tryz.ntmps28;go_wp2_with fail;refine (hfm _).mono ?_;rintro e w1 ⟨x,rfl,rfl,hx⟩;have hxt:x=true:=hx.2 (by unfold Within;omega);subst hxt;clear hx hfm;go_wp2_with fail
 go_region_law (first
   | (go_simp; go_at_call 58; go_wp2_with (go_at_call 58; refine Calls.mono (plnew_is fm _) ?_; rintro e w5 ⟨rfl, hb5x, hs5, hX5⟩; have hb5 : Bel w w5 := (by first | exact hb5x | exact (Bel.step_drew (Bel.refl w)).trans hb5x); have HX5 : Hid (BoxC w.heap.size 146 (plNew fm) w5) := hX5; have HB5 := Hid.mk hb5; have k9 := hb5.cell c9; have l9 := hb5.frozen c9 f9; have hsw : w.heap.size < w5.heap.size := (by first | exact hs5 | simpa using hs5); have hsl5 : s < w5.heap.size := (by omega); have hsn5 : s ≠ w5.heap.size := (by omega); clear hb5x hX5 hb5 hs5))
   | (refine step_append_own2 rfl (.tmp 19) (.tmp 22) 67 rfl 0 88 i0 (.pointer none) 1 8 Tryz.underlying67 hi hz0 hz1 hz2 rfl (by decide) (.slice ao ps.length cap) ps.length (plcells ps) (by simp [Act.eval]) (World.ownsRow.alloc (HL.out.later HB5.out) _) ⟨w5.heap.size, 0, none⟩ 1 1 [.pointer (some ⟨w.heap.size, 0, none⟩)] (by simp [Act.eval]) rfl (one_new _ _ _ _ (by simp)) (fun u hu => by simp at hu; subst hu; rfl) (by unfold maxLen; omega) (by omega) (by omega) ?_
      intro v6 w6 hown6 hgrow6 hwh6
      obtain ⟨ao6, cap6, rfl⟩ := own_sliceW hown6
      have n9 : w6.cell? ⟨s, 9, none⟩ = some (.slice ao ps.length cap) := (World.cell?_of_block (a := ⟨s, 9, none⟩) (hgrow6.block s (by simp; omega) (fun e => HS.out e.symm))).trans (((Bel.refl w5).step_alloc _).cell k9)
      have o9 : w6.frozen? ⟨s, 9, none⟩ = false := (World.frozen?_of_block (a := ⟨s, 9, none⟩) (hgrow6.block s (by simp; omega) (fun e => HS.out e.symm))).trans (((Bel.refl w5).step_alloc _).frozen k9 l9)
      have HJ6 : Hid (w6.heap[s]? = w.heap[s]?) := (hgrow6.block s (by simp; omega) (fun e => HS.out e.symm)).trans ((HB5.out.step_alloc _).block s hsl)
      have HO6 := Hid.mk hown6
      have HG6 := Hid.mk hgrow6
      have HW6 := Hid.mk hwh6
      clear hown6 hgrow6 hwh6))
 all_goals
  have hX:Bel w (w5.alloc (.cells #[.pointer (some ⟨w.heap.size,0,none⟩)] 88)):=HB5.out.step_alloc _;have hvl:∀k,(Value.slice ao ps.length cap).ownBlock=some k→k<w.heap.size:=fun k hk=>(World.ownsRow.lt HL.out k hk).2
  have hB6:But (s::gl (.slice ao ps.length cap)) w w6:=but_row hX HG6.out;have hP6:BoxC w.heap.size 146 (plNew fm) w6:=(HX5.out.alloc _).kept (HG6.out.block w.heap.size (by simp;omega) (fun e=>by have:=hvl _ e.symm;omega));have hz6:(w5.alloc (.cells #[.pointer (some ⟨w.heap.size,0,none⟩)] 88)).heap.size=w5.heap.size+1:=by simp
  have hown:∀k,(Value.slice ao6 (ps.length+1) cap6).ownBlock=some k→((Value.slice ao ps.length cap).ownBlock=some k∧k<w.heap.size)∨k=w5.heap.size+1:=fun k hk=>by
   rcases HW6.out with e|e
   ·rw [e] at hk;exact Or.inl ⟨hk,hvl k hk⟩
   ·rw [hk] at e;injection e with e
    exact Or.inr (by first|exact e.trans hz6|(rw [e];simp))
  have hns:(Value.slice ao6 (ps.length+1) cap6).ownBlock≠some s:=fun e=>by
   rcases hown s e with ⟨h1,h2⟩|h
   ·exact HS.out h1
   ·omega
  have HB7:=Hid.mk (hB6.set (p:=⟨s,9,none⟩) (by simp) (.slice ao6 (ps.length+1) cap6));have HP7:=Hid.mk (hP6.setO (a:=⟨s,9,none⟩) (by simp only;omega) (.slice ao6 (ps.length+1) cap6));have HC7:=Hid.mk (set_same (u:= .slice ao6 (ps.length+1) cap6) n9)
  have HR7:Hid (PlRow (w6.setCell ⟨s,9,none⟩ (.slice ao6 (ps.length+1) cap6)) (.slice ao6 (ps.length+1) cap6) (ps++[w.heap.size])):=by
   show World.ownsRow _ _ _ _ _ _ _;have e:plcells (ps++[w.heap.size])=plcells ps++[.pointer (some ⟨w.heap.size,0,none⟩)]:=by simp [plcells]
   rw [e,List.length_append];exact ownsRow_setCell_other HO6.out hns _
  have HK7:Hid (∀k,(Value.slice ao6 (ps.length+1) cap6).ownBlock=some k→k∈gl (.slice ao ps.length cap)∨w.heap.size≤k):=fun k hk=>by
   rcases hown k hk with ⟨h1,h2⟩|h
   ·exact Or.inl (by unfold gl;rw [h1];simp)
   ·exact Or.inr (by omega)
  have HK8:Hid (∀k,(Value.slice ao6 (ps.length+1) cap6).ownBlock=some k→k≠w.heap.size∧k≠s):=fun k hk=>by
   rcases hown k hk with ⟨h1,h2⟩|h
   ·exact ⟨by omega,fun e=>HS.out (by rw [←e];exact h1)⟩
   ·exact ⟨by omega,by omega⟩
  have HS7:Hid (KeepS s w (w6.setCell ⟨s,9,none⟩ (.slice ao6 (ps.length+1) cap6))):=KeepS.of HJ6.out _
  have HZ7:Hid (s<(w6.setCell ⟨s,9,none⟩ (.slice ao6 (ps.length+1) cap6)).heap.size):=by
   show s<_;exact World.block_lt_of_cell? _ _ HC7.out
  clear HJ6;clear hX hB6 hP6 hown hns HO6 HG6 HW6 hz6 hvl;go_wp2;go_ret2
  first
  |exact ⟨w.heap.size,_,rfl,HB7.out,Nat.le_refl _,HP7.out,HC7.out,HR7.out,HK7.out,HK8.out,HS7.out⟩
  |exact ⟨w.heap.size,_,rfl,HB7.out.drew,Nat.le_refl _,HP7.out.bel ((Bel.refl _).step_drew),((Bel.refl _).step_drew).cell HC7.out,HR7.out.later ((Bel.refl _).step_drew),HK7.out,HK8.out,HS7.out.bel HZ7.out ((Bel.refl _).step_drew)⟩
end Go.Proofs.YtpapdkhjdelfcabGreat
namespace Go.Proofs.YtpapdkhjdelfcabGreat
open Go.RowKit
theorem join_bad (s:Nat) (f:Int) (w:World) (hf:¬(1≤f∧f≤3)):
  Calls Tryz.prog 28 #[.pointer (some ⟨s,0,none⟩),.int .i64 f] w (RHeld w (-1,1)):=by
 have hfm:=fun wx=>formats_is f wx
 go_enter Tryz.func28,Tryz.ntmps28;go_wp2_with fail;refine (hfm _).mono ?_;rintro e w1 ⟨x,rfl,rfl,hx⟩
 have hxt:x=false:=by
  cases x
  ·rfl
  ·exact absurd (hx.1 rfl) hf
 subst hxt;clear hx hfm hf;go_wp2;go_ret2;exact ⟨rfl,by (repeat (first|exact Bel.refl _|assumption|refine Bel.step_alloc ?_ _|refine Bel.step_drew ?_|refine Bel.step_drewN ?_ _|refine Bel.step_set ?_ (by simp <;>omega) _|refine Bel.trans ?_ (by assumption)))⟩
theorem join_full (s:Nat) (f:Int) (vL:Value) (ps:List Nat) (w:World) (c9:w.cell? ⟨s,9,none⟩=some vL) (hL:PlRow w vL ps) (hl:4≤ps.length) (hf:1≤f∧f≤3):
  Calls Tryz.prog 28 #[.pointer (some ⟨s,0,none⟩),.int .i64 f] w (RHeld w (-1,6)):=by
 have hfm:=fun wx=>formats_is f wx
 obtain ⟨ao,cap,rfl, -⟩:=hL.open;have hdl:decide ((4:Int)≤(ps.length:Int))=true:=decide_eq_true (by omega);clear hL;go_enter Tryz.func28,Tryz.ntmps28;go_wp2_with fail;refine (hfm _).mono ?_;rintro e w1 ⟨x,rfl,rfl,hx⟩;have hxt:x=true:=hx.2 hf;subst hxt;clear hx hfm hf;go_wp2;go_ret2;exact ⟨rfl,by (repeat (first|exact Bel.refl _|assumption|refine Bel.step_alloc ?_ _|refine Bel.step_drew ?_|refine Bel.step_drewN ?_ _|refine Bel.step_set ?_ (by simp <;>omega) _|refine Bel.trans ?_ (by assumption)))⟩
end Go.Proofs.YtpapdkhjdelfcabGreat
namespace Go.Proofs.YtpapdkhjdelfcabGreat
open Go.RowKit
theorem give_len:∀(n:Nat) (s r:List Int),(giveF n s r).length=s.length
 |0,s,r=>by simp [giveF]
 |n+1,s,r=>by
  rw [giveF];split
  ·rfl
  ·rw [give_len n];simp
theorem turn_in {W:List (Int×Int)} {S:List Int} {i m:Nat} (hi:i<m) (h:∀x∈S, -1≤x∧x≤(m:Int)):∀x∈turnF W S i, -1≤x∧x≤(m:Int):=by
 intro x hx;unfold turnF at hx;split at hx
 ·rcases List.mem_or_eq_of_mem_set hx with hx|hx
  ·exact h x hx
  ·subst hx;omega
 ·exact h x hx
theorem round_in {W:List (Int×Int)} {sh:List Int} {r m:Nat} {S:List Int} (h:∀x∈S, -1≤x∧x≤(m:Int)):∀n,n≤m→∀x∈roundTo W sh r S n, -1≤x∧x≤(m:Int)
 |0,_=>by simpa [roundTo] using h
 |n+1,hn=>by
  rw [roundTo];split
  ·exact round_in h n (by omega)
  ·exact turn_in (by omega) (round_in h n (by omega))
theorem fill_in {W:List (Int×Int)} {sh:List Int} {S:List Int} (h:∀x∈S, -1≤x∧x≤(sh.length:Int)):∀r,∀x∈fillTo W sh S r, -1≤x∧x≤(sh.length:Int)
 |0=>by simpa [fillTo] using h
 |r+1=>by
  rw [fillTo];exact round_in (fill_in h r) sh.length (Nat.le_refl _)
theorem win_in {key:ByteArray} {s i:Nat} {id:ByteArray} {m:Int×Int} {M:Nat} (hi:i≤M) (h: -1≤m.1∧m.1≤(M:Int)):∀k, -1≤(winTo key s i id m k).1∧(winTo key s i id m k).1≤(M:Int)
 |0=>h
 |k+1=>by
  rw [winTo];have:=win_in (key:=key) (s:=s) (id:=id) hi h k;split
  ·exact ⟨by show -1≤(i:Int);omega,by show (i:Int)≤_;omega⟩
  ·exact this
theorem winner_in {key:ByteArray} {s:Nat} {B:List BK}:∀n,n≤B.length→ -1≤(winnerTo key s B n).1∧(winnerTo key s B n).1≤(B.length:Int)
 |0,_=>by simp [winnerTo]
 |n+1,hn=>by
  rw [winnerTo];have:=winner_in (key:=key) (s:=s) (B:=B) n (by omega);split
  ·exact win_in (by omega) this _
  ·exact this
theorem pts_in {key:ByteArray} {letter:UInt8} {each:Int} {B:List BK}:∀n,n≤B.length→∀e∈ptsTo key letter each B n,(0≤e.1∧e.1<18446744073709551616)∧ -1≤e.2∧e.2≤(B.length:Int)
 |0,_=>by simp [ptsTo]
 |n+1,hn=>by
  intro e he;rw [ptsTo] at he;split at he
  ·rename_i b hb;rcases List.mem_append.1 he with he|he
   ·exact pts_in n (by omega) e he
   ·unfold ptsOf at he;obtain ⟨k, -,he⟩:=List.mem_map.1 he;have h2:=hsh_range key letter [k] b.1;generalize hsh key letter [k] b.1=hv at *;subst he;exact ⟨h2,by show -1≤(n:Int);omega,by show (n:Int)≤_;omega⟩
  ·exact pts_in n (by omega) e he
theorem ins_in {e x:EI} {l:List EI} (h:x∈insE e l):x=e∨x∈l:=by
 induction l with
 |nil=>simpa [insE] using h
 |cons y l ih=>
  rw [insE] at h;split at h
  ·rcases List.mem_cons.1 h with h|h
   ·exact Or.inl h
   ·exact Or.inr h
  ·rcases List.mem_cons.1 h with h|h
   ·exact Or.inr (by simp [h])
   ·rcases ih h with h|h
    ·exact Or.inl h
    ·exact Or.inr (List.mem_cons_of_mem _ h)
theorem sort_in {L:List EI}:∀n,∀x∈sortTo L n,x∈L
 |0=>by simp [sortTo]
 |n+1=>by
  intro x hx;rw [sortTo] at hx;split at hx
  ·rename_i e he;rcases ins_in hx with hx|hx
   ·rw [hx];exact List.mem_of_getElem? he
   ·exact sort_in n x hx
  ·exact sort_in n x hx
theorem points_in {key:ByteArray} {letter:UInt8} {each:Int} {B:List BK}:∀e∈pointsF key letter each B,(0≤e.1∧e.1<18446744073709551616)∧ -1≤e.2∧e.2≤(B.length:Int):=fun e he=>pts_in B.length (Nat.le_refl _) e (sort_in _ e he)
theorem shares_len (M:Int) (B:List BK):(sharesF M B).length≤B.length:=by
 unfold sharesF;split
 ·simp
 ·rw [give_len];simp [lowF]
theorem mkF_in (c:Cfg) (B:List BK):∀e∈mkF c B,(0≤e.1∧e.1<18446744073709551616)∧ -1≤e.2∧e.2≤(B.length:Int):=by
 intro e he;rw [mkF] at he;split at he
 ·cases he
 split at he
 ·obtain ⟨o,ho,rfl⟩:=List.mem_map.1 he;have h1:=shares_len c.slots B;have h2:=fill_in (W:=B.map (wayOf c)) (sh:=sharesF c.slots B) (S:=List.replicate c.slots.toNat (-1)) (fun x hx=>by have:=List.eq_of_mem_replicate hx;omega) c.slots.toNat o ho;exact ⟨⟨by simp,by simp⟩,by simp only;omega,by simp only;omega⟩
 split at he
 ·exact points_in e he
 split at he
 ·obtain ⟨s,hs,rfl⟩:=List.mem_map.1 he;have:=winner_in (key:=c.key) (s:=s) (B:=B) B.length (Nat.le_refl _);exact ⟨⟨by simp,by simp⟩,this⟩
 split at he
 ·exact points_in e he
 ·cases he
theorem mkF_ok (c:Cfg) {B:List BK} (hB:PoolOK B):∀e∈mkF c B,EntOK e:=fun e he=>by
 have h:=mkF_in c B e he;have:=hB.1;exact ⟨h.1.1,h.1.2,by omega,by omega⟩
end Go.Proofs.YtpapdkhjdelfcabGreat
namespace Go.Proofs.YtpapdkhjdelfcabGreat
open Go.RowKit
def Ris (T:List TP):Prop:=T.Pairwise fun a b=>a.1<b.1
theorem layI_hi {T:List TP} {n:Nat}:∀m,m≤T.length→∀j (hj:j<T.length),layI T n m≤j→j<m→n≤T[j].1
 |0,_,j,hj,h1,h2=>by omega
 |m+1,hm,j,hj,h1,h2=>by
  rw [layI] at h1;have hml:m<T.length:=by omega
  rw [List.getElem?_eq_getElem hml] at h1;simp only at h1;split at h1
  ·rename_i hle;by_cases hjm:j=m
   ·subst hjm;exact hle
   ·exact layI_hi m (by omega) j hj h1 (by omega)
  ·omega
theorem layI_lo {T:List TP} {n:Nat}:∀m,m≤T.length→∀k (hk:k<T.length),layI T n m=k+1→T[k].1<n
 |0,_,k,hk,h=>by simp [layI] at h
 |m+1,hm,k,hk,h=>by
  rw [layI] at h;have hml:m<T.length:=by omega
  rw [List.getElem?_eq_getElem hml] at h;simp only at h;split at h
  ·exact layI_lo m (by omega) k hk h
  ·rename_i hle;have:k=m:=by omega
   subst this;omega
theorem Ris.take_lt {T:List TP} (h:Ris T) {i n:Nat} (hi:i≤T.length) (hlo:∀k (hk:k<T.length),i=k+1→T[k].1<n):∀x∈T.take i,x.1<n:=fun x hx=>by
 obtain ⟨j,hj,rfl⟩:=List.getElem_of_mem hx;rw [List.length_take] at hj;rw [List.getElem_take];obtain ⟨k,rfl⟩:∃k,i=k+1:=⟨i - 1,by omega⟩;have h1:=hlo k (by omega) rfl;by_cases hjk:j=k
 ·subst hjk;exact h1
 ·have:=List.pairwise_iff_getElem.1 h j k (by omega) (by omega) (by omega);omega
theorem Ris.lay {T:List TP} (h:Ris T) (p:TP):Ris (layF T p):=by
 have hle:=layI_le T p.1 T.length;have hhi:=layI_hi (T:=T) (n:=p.1) T.length (Nat.le_refl _);have hlo:=layI_lo (T:=T) (n:=p.1) T.length (Nat.le_refl _);unfold layF;generalize layI T p.1 T.length=i at *;split
 ·rename_i he
  have hi:i<T.length:=by
   rcases Nat.lt_or_ge i T.length with h|h
   ·exact h
   ·rw [List.getElem?_eq_none h] at he;cases he
  have hpi:T[i].1=p.1:=by simpa [List.getElem?_eq_getElem hi] using he
  refine List.pairwise_iff_getElem.2 (fun a b ha hb hab=>?_);rw [List.length_set] at ha hb;have hT:=List.pairwise_iff_getElem.1 h a b ha hb hab;rw [List.getElem_set,List.getElem_set];split
  ·rename_i e;subst e;split
   ·omega
   ·omega
  ·split
   ·rename_i e;subst e;omega
   ·exact hT
 ·rename_i he;have ht:=h.take_lt hle (fun k hk e=>hlo k hk e)
  have hd:∀x∈T.drop i,p.1<x.1:=fun x hx=>by
   obtain ⟨j,hj,rfl⟩:=List.getElem_of_mem hx;rw [List.length_drop] at hj;rw [List.getElem_drop];have hi:i<T.length:=by omega
   have h1:=hhi i hi (Nat.le_refl _) hi;have h2:T[i].1≠p.1:=fun e=>he (by simp [List.getElem?_eq_getElem hi,e])
   by_cases hj0:j=0
   ·subst hj0;have e:T[i+0]=T[i]:=rfl;rw [e];omega
   ·have:=List.pairwise_iff_getElem.1 h i (i+j) hi (by omega) (by omega);omega
  refine List.pairwise_append.2 ⟨List.Pairwise.sublist (List.take_sublist _ _) h,List.pairwise_cons.2 ⟨hd,List.Pairwise.sublist (List.drop_sublist _ _) h⟩,fun a ha b hb=>?_⟩;rcases List.mem_cons.1 hb with hb|hb
  ·rw [hb];exact ht a ha
  ·have:=ht a ha;have:=hd b hb;omega
theorem Ris.ge {T:List TP} (h:Ris T):∀j (hj:j<T.length),j≤T[j].1
 |0,_=>by omega
 |j+1,hj=>by
  have h1:=Ris.ge h j (by omega);have h2:=List.pairwise_iff_getElem.1 h j (j+1) (by omega) hj (by omega);omega
theorem Ris.len {T:List TP} {cp:Nat} (h:Ris T) (hb:∀x∈T,x.1<cp):T.length≤cp:=by
 rcases Nat.eq_zero_or_pos T.length with h0|h0
 ·omega
 ·have h1:=h.ge (T.length - 1) (by omega);have h2:=hb _ (List.getElem_mem (by omega:T.length - 1<T.length));omega
end Go.Proofs.YtpapdkhjdelfcabGreat
namespace Go.Proofs.YtpapdkhjdelfcabGreat
open Go.RowKit
structure Pln where
 fm:Nat
 g:Nat
 c:Cfg
 B:List BK
 E:List EI
 cg:Nat
 cf:Nat
 cp:Nat
 T:List TP
 nf:Bool
structure Pln.OK (p:Pln):Prop where
 fm:1≤p.fm∧p.fm≤3
 g:p.g≤1073741824
 held:p.g≠0→∃f,ImgOK f p.g p.c p.B p.E
 len:p.E.length≤255
 cg:p.cg<4294967296
 cf:p.cf<256
 cp:p.cp<65536
 ris:Ris p.T
 T:∀x∈p.T,x.1<p.cp∧x.2.length≤48
theorem Pln.OK.tlen {p:Pln} (h:p.OK):p.T.length≤65535:=by
 have:=h.ris.len (fun x hx=>(h.T x hx).1);have:=h.cp;omega
theorem Pln.OK.tok {p:Pln} (h:p.OK):p.g≠0→p.c.TOK:=fun hg=>by
 obtain ⟨f,hf⟩:=h.held hg;exact hf.tok
def PlAt (M:List Nat) (q:Nat) (p:Pln) (R:List Nat) (w:World):Prop:=q∈M∧(∀k∈R,k∈M)∧∃vP vE vT,BoxC q 146 (plC p.fm p.g p.c vP vE p.cg p.cf p.cp vT p.nf) w∧PoolAt (mask M w) vP p.B∧EIAt (mask M w) vE p.E∧ThAt w vT p.T∧gl vT=R
theorem ThAt.but {M:List Nat} {w w':World} {v:Value} {T:List TP} (h:ThAt w v T) (k:But M w w') (hm:∀g∈gl v,g∉M):ThAt w' v T:=by
 refine ⟨h.1,?_⟩;rcases h.2 with h1|⟨g,cap,cur,h1,h2,h3,h4⟩
 ·exact Or.inl h1
 ·refine Or.inr ⟨g,cap,cur,h1,h2,?_,h4⟩;have hg:g∈gl v:=by rw [h1];simp [gl,Value.ownBlock]
  have hlt:g<w.heap.size:=by
   rcases Nat.lt_or_ge g w.heap.size with h|h
   ·exact h
   ·rw [Array.getElem?_eq_none h] at h3;cases h3
  exact (k.block g hlt (hm g hg)).trans h3
theorem PlAt.but {M M':List Nat} {q:Nat} {p:Pln} {R:List Nat} {w w':World} (h:PlAt M q p R w) (k:But M' w w') (hq:q∉M') (hR:∀j∈R,j∉M') (hs:∀j∈M',j∈M∨w.heap.size≤j):PlAt M q p R w':=by
 obtain ⟨h1,h2,vP,vE,vT,hX,hP,hE,hT,hg⟩:=h;have hb:Bel (mask M w) (mask M w'):=k.mono hs;exact ⟨h1,h2,vP,vE,vT,hX.but k hq,hP.later hb,hE.later hb,hT.but k (fun g hg'=>hR g (by rw [←hg];exact hg')),hg⟩
theorem PlAt.later {M:List Nat} {q:Nat} {p:Pln} {R:List Nat} {w w':World} (h:PlAt M q p R w) (k:Bel w w'):PlAt M q p R w':=h.but (M':=[]) (But.of_bel k) (by simp) (by simp) (by simp)
theorem PlAt.lt {M:List Nat} {q:Nat} {p:Pln} {R:List Nat} {w:World} (h:PlAt M q p R w):q<w.heap.size:=by
 obtain ⟨h1,h2,vP,vE,vT,hX,_⟩:=h;exact hX.lt
theorem PlAt.grow {M:List Nat} {q:Nat} {p:Pln} {R:List Nat} {w:World} (h:PlAt M q p R w) (N:List Nat) (hN:∀k∈N,w.heap.size≤k):PlAt (N++M) q p R w:=by
 obtain ⟨h1,h2,vP,vE,vT,hX,hP,hE,hT,hg⟩:=h;rw [←mask_grow N M w hN] at hP hE;exact ⟨List.mem_append_right _ h1,fun k hk=>List.mem_append_right _ (h2 k hk),vP,vE,vT,hX,hP,hE,hT,hg⟩
theorem own_masked {base:Nat} {M:List Nat} {w:World} {v:Value} {B:List BK} (h:OwnB base w v B) (hM:∀k∈M,k<base):PoolAt (mask M w) v B:=by
 rcases OwnB.pool h with h1|⟨g,cap,hv,hn,hg,hc⟩
 ·exact Or.inl h1
 ·refine Or.inr ⟨g,cap,hv,hn,by rw [mask_size];exact hg,fun j u hu=>mask_cell.2 ⟨hc j u hu,fun hm=>?_⟩⟩;have h2:=(World.ownsRow.lt h g (by rw [hv];rfl)).1;have:=hM g hm;omega
theorem own_maskedE {base:Nat} {M:List Nat} {w:World} {v:Value} {E:List EI} (h:OwnE base w v E) (hM:∀k∈M,k<base):EIAt (mask M w) v E:=by
 rcases OwnE.ents h with h1|⟨g,cap,hv,hn,hg,hc⟩
 ·exact Or.inl h1
 ·refine Or.inr ⟨g,cap,hv,hn,by rw [mask_size];exact hg,fun j u hu=>mask_cell.2 ⟨hc j u hu,fun hm=>?_⟩⟩;have h2:=(World.ownsRow.lt h g (by rw [hv];rfl)).1;have:=hM g hm;omega
def plnNew (fm:Nat):Pln:=⟨fm,0,cfg0,[],[],0,0,0,[],false⟩
theorem plnNew_ok {fm:Nat} (h:1≤fm∧fm≤3):(plnNew fm).OK:=⟨h,by simp [plnNew],fun h=>absurd rfl h,by simp [plnNew],by simp [plnNew],by simp [plnNew],by simp [plnNew],List.Pairwise.nil,fun x hx=>by cases hx⟩
theorem PlAt.ofNew {M:List Nat} {q fm:Nat} {w:World} (h:BoxC q 146 (plNew fm) w) (hq:q∈M):PlAt M q (plnNew fm) [] w:=
 ⟨hq,fun k hk=>(by cases hk),.slice none 0 0,.slice none 0 0,.slice none 0 0,h,Or.inl ⟨rfl,rfl,rfl⟩,Or.inl ⟨rfl,rfl,rfl⟩,World.ownsRow_nil _ _ _ _,rfl⟩
end Go.Proofs.YtpapdkhjdelfcabGreat
namespace Go.Proofs.YtpapdkhjdelfcabGreat
open Go.RowKit
def Pln.clear (p:Pln):Pln:={p with cg:=0,cf:=0,cp:=0,T:=[],nf:=false}
def decUse (fm g cg cf cp:Nat) (T:List TP) (a:Ans):Decidable (useP fm g cg cf cp T a):=inferInstanceAs (Decidable (wantB fm g cg a=true∧a.2.2.1=(com1 cg cf cp T a).2.1∧a.2.2.2.1=(com1 cg cf cp T a).2.2.1))
def takeG (p:Pln) (a:Ans):Pln:=if a.1≠1 then {p with nf:=a.1==2} else
 haveI:=decUse p.fm p.g p.cg p.cf p.cp p.T a;if useP p.fm p.g p.cg p.cf p.cp p.T a then
  if (newT p.cg p.cf p.cp p.T a).length=(com1 p.cg p.cf p.cp p.T a).2.2.1 then
   match imageP (thB (newT p.cg p.cf p.cp p.T a)) with
   |some (f,g2,c2,B2,E2)=>if f=(com1 p.cg p.cf p.cp p.T a).2.1∧g2=(com1 p.cg p.cf p.cp p.T a).1 then {p.clear with g:=g2,c:=c2,B:=B2,E:=E2} else p.clear
   |none=>p.clear
  else {p with cg:=(com1 p.cg p.cf p.cp p.T a).1,cf:=(com1 p.cg p.cf p.cp p.T a).2.1,cp:=(com1 p.cg p.cf p.cp p.T a).2.2.1,T:=newT p.cg p.cf p.cp p.T a,nf:=false}
 else p
structure AnsR (a:Ans):Prop where
 ok:ansOK a
 g:a.2.1<4294967296
 f:a.2.2.1<256
 c:a.2.2.2.1<65536
 n:a.2.2.2.2.1<65536
 b:a.2.2.2.2.2.length≤48
theorem AnsR.of {l:List UInt8} {a:Ans} (h:answP l=some a):AnsR a:=by
 obtain ⟨h1,h2,h3,h4,h5,h6⟩:=answP_ok h;exact ⟨h1,h2,h3,h4,h5,h6⟩
theorem Pln.OK.clear {p:Pln} (h:p.OK):p.clear.OK:=⟨h.fm,h.g,h.held,h.len,by simp [Pln.clear],by simp [Pln.clear],by simp [Pln.clear],List.Pairwise.nil,fun x hx=>by cases hx⟩
theorem com1_ok {p:Pln} (h:p.OK) {a:Ans} (ha:AnsR a):(com1 p.cg p.cf p.cp p.T a).1<4294967296∧(com1 p.cg p.cf p.cp p.T a).2.1<256∧(com1 p.cg p.cf p.cp p.T a).2.2.1<65536∧Ris (com1 p.cg p.cf p.cp p.T a).2.2.2∧∀x∈(com1 p.cg p.cf p.cp p.T a).2.2.2,x.1<(com1 p.cg p.cf p.cp p.T a).2.2.1∧x.2.length≤48:=by
 unfold com1;split
 ·exact ⟨ha.g,ha.f,ha.c,List.Pairwise.nil,fun x hx=>by cases hx⟩
 ·exact ⟨h.cg,h.cf,h.cp,h.ris,h.T⟩
theorem newT_ok {p:Pln} (h:p.OK) {a:Ans} (ha:AnsR a) (hu:useP p.fm p.g p.cg p.cf p.cp p.T a):Ris (newT p.cg p.cf p.cp p.T a)∧∀x∈newT p.cg p.cf p.cp p.T a,x.1<(com1 p.cg p.cf p.cp p.T a).2.2.1∧x.2.length≤48:=by
 obtain ⟨k1,k2,k3,k4,k5⟩:=com1_ok h ha;refine ⟨k4.lay _,fun x hx=>?_⟩;rcases layF_mem hx with hx|hx
 ·rw [hx];refine ⟨?_,ha.b⟩;have h1:=hu.1;have h2:=hu.2.2;rw [←h2];unfold wantB at h1;simp only [Bool.and_eq_true,decide_eq_true_eq] at h1;exact h1.1.2
 ·exact k5 x hx
theorem takeG_ok {p:Pln} (h:p.OK) {a:Ans} (ha:AnsR a):(takeG p a).OK:=by
 unfold takeG;split
 ·exact ⟨h.fm,h.g,h.held,h.len,h.cg,h.cf,h.cp,h.ris,h.T⟩
 ·split
  ·rename_i hu;obtain ⟨k1,k2,k3,k4,k5⟩:=com1_ok h ha;obtain ⟨n1,n2⟩:=newT_ok h ha hu;split
   ·split
    ·rename_i f g2 c2 B2 E2 hi;split
     ·have ok:=imageP_ok hi;have hc:=h.clear;exact ⟨hc.fm,ok.right.1.2,fun _=>⟨f,ok⟩,ok.len,hc.cg,hc.cf,hc.cp,hc.ris,hc.T⟩
     ·exact h.clear
    ·exact h.clear
   ·exact ⟨h.fm,h.g,h.held,h.len,k1,k2,k3,n1,n2⟩
  ·exact h
theorem PlAt.rows {M:List Nat} {q:Nat} {R:List Nat} {w w':World} {vP vE:Value} {B:List BK} {E:List EI} (hq:q∈M) (hR:∀k∈R,k∈M) (hP:PoolAt (mask M w) vP B) (hE:EIAt (mask M w) vE E) (k:But (q::R) w w') (N:List Nat) (hN:∀k∈N,w.heap.size≤k):PoolAt (mask (N++M) w') vP B∧EIAt (mask (N++M) w') vE E:=by
 rw [←mask_grow N M w hN] at hP hE
 have hb : Bel (mask (N ++ M) w) (mask (N ++ M) w') := k.mono (fun j hj => Or.inl (List.mem_append_right _ (by
   rcases List.mem_cons.1 hj with e | e
   · rw [e]; exact hq
   · exact hR j e)))
 exact ⟨hP.later hb,hE.later hb⟩
end Go.Proofs.YtpapdkhjdelfcabGreat
