import Derived.Test.YtpapdkhjdelfcabGreatLAG
import Derived.Test.YtpapdkhjdelfcabGreatLAI
import Derived.Deep.QuietTactic
import Derived.BigQuiet
namespace Go.Proofs.YtpapdkhjdelfcabGreat
open Go.RowKit
set_option maxRecDepth 100000
set_option maxHeartbeats 4000000
variable {vL:Value}
theorem MT (N M:List Nat) (w:World) (h:∀k∈N,w.heap.size≤k):Ay (N++M) w=Ay M w:=by
 unfold Ay;congr 1;apply Array.ext
 ·simp
 ·intro i h1 h2;have hi:i<w.heap.size:=by simpa using h1
  have:i∉N:=fun hn=>by have:=h i hn;omega
  simp [this]
theorem Nu {M:List Nat} {base:Nat} {w:World} {e:TypeId} {s:Nat} {v:Value} {n:Nat} {xs:List Value} (h:w.ownsRow base e s v n xs) (hM:∀k∈M,k<base):Ap (Ay M w) v n xs:=by
 rcases Ap.of_owns h with h1|⟨g,cap,hv,hn,hg,hc⟩
 ·exact Or.inl h1
 ·have hg2:=(h.lt g (by rw [hv];rfl)).1;exact Or.inr ⟨g,cap,hv,hn,by rw [Eo];exact hg,fun j u hu=>Tr hM (by simp only;omega) (hc j u hu)⟩
theorem Ap.unmask {M:List Nat} {w:World} {v:Value} {n:Nat} {xs:List Value} (h:Ap (Ay M w) v n xs):Ap w v n xs:=by
 rcases h with h1|⟨g,cap,hv,hn,hg,hc⟩
 ·exact Or.inl h1
 ·exact Or.inr ⟨g,cap,hv,hn,by rw [Eo] at hg;exact hg,fun j u hu=>(Bn.1 (hc j u hu)).1⟩
theorem Am.unmask {M:List Nat} {w:World} {v:Value} {B:List BK} (h:Am (Ay M w) v B):Am w v B:=Ap.unmask h
theorem AR.unmask {M:List Nat} {w:World} {v:Value} {B:List EI} (h:AR (Ay M w) v B):AR w v B:=Ap.unmask h
def Iu (q:Nat) (w:World):Prop:=w.frozen? ⟨q,0,none⟩=false∧w.frozen? ⟨q,1,none⟩=false∧w.frozen? ⟨q,2,none⟩=false∧w.frozen? ⟨q,3,none⟩=false∧w.frozen? ⟨q,4,none⟩=false∧w.frozen? ⟨q,5,none⟩=false∧w.frozen? ⟨q,6,none⟩=false∧w.frozen? ⟨q,7,none⟩=false∧w.frozen? ⟨q,8,none⟩=false
def JA (vL:Value) (q:Nat) (w:World):Prop:=Iu q w∧w.cell? ⟨q,9,none⟩=some vL∧w.frozen? ⟨q,9,none⟩=false
def Bt (vL:Value) (M:List Nat) (q:Nat) (c:Ac) (B:List BK) (g:Int) (w:World):Prop:=q∈M∧∃vP vE,Cx w q c vP vE∧w.cell? ⟨q,8,none⟩=some (.int .i64 g)∧JA vL q w∧Am (Ay M w) vP B∧AR (Ay M w) vE (An c B)
theorem Iu.but {M':List Nat} {q:Nat} {w w':World} (h:Iu q w) (k:Ab M' w w') (hq:q∉M') (hlt:q<w.heap.size):Iu q w':=by
 obtain ⟨h0,h1,h2,h3,h4,h5,h6,h7,h8⟩:=h;have hf:∀o,w'.frozen? ⟨q,o,none⟩=w.frozen? ⟨q,o,none⟩:=fun o=>World.frozen?_of_block (w:=w) (k.block q hlt hq)
 exact ⟨(hf 0).trans h0,(hf 1).trans h1,(hf 2).trans h2,(hf 3).trans h3,(hf 4).trans h4,(hf 5).trans h5,(hf 6).trans h6,(hf 7).trans h7,(hf 8).trans h8⟩
theorem JA.but {M':List Nat} {q:Nat} {w w':World} (h:JA vL q w) (k:Ab M' w w') (hq:q∉M') (hlt:q<w.heap.size):JA vL q w':=
 ⟨h.1.but k hq hlt,k.cell h.2.1 hq,(World.frozen?_of_block (w:=w) (k.block q hlt hq)).trans h.2.2⟩
theorem Cx.but {M':List Nat} {q:Nat} {c:Ac} {vP vE:Value} {w w':World} (h:Cx w q c vP vE) (k:Ab M' w w') (hq:q∉M'):Cx w' q c vP vE:=by
 obtain ⟨⟨h0,h1,h2,h3,h4,h5⟩,h6,h7⟩:=h;exact ⟨⟨k.cell h0 hq,k.cell h1 hq,k.cell h2 hq,k.cell h3 hq,k.cell h4 hq,k.cell h5 hq⟩,k.cell h6 hq,k.cell h7 hq⟩
theorem Bt.lt {M:List Nat} {q:Nat} {c:Ac} {B:List BK} {g:Int} {w:World} (h:Bt vL M q c B g w):q<w.heap.size:=by
 obtain ⟨_,_,_,_,h8,_⟩:=h;exact jF h8
theorem Bt.but {M M':List Nat} {q:Nat} {c:Ac} {B:List BK} {g:Int} {w w':World} (h:Bt vL M q c B g w) (k:Ab M' w w') (hq:q∉M') (hs:∀j∈M',j∈M∨w.heap.size≤j):Bt vL M q c B g w':=by
 have hlt:=h.lt;obtain ⟨hm,vP,vE,hT,h8,hF,hP,hE⟩:=h;have hb:Aa (Ay M w) (Ay M w'):=k.mono hs;exact ⟨hm,vP,vE,hT.but k hq,k.cell h8 hq,hF.but k hq hlt,hP.later hb,hE.later hb⟩
theorem Bt.later {M:List Nat} {q:Nat} {c:Ac} {B:List BK} {g:Int} {w w':World} (h:Bt vL M q c B g w) (k:Aa w w'):Bt vL M q c B g w':=h.but (M':=[]) (Ab.of_bel k) (by simp) (by simp)
theorem Bt.grow {M:List Nat} {q:Nat} {c:Ac} {B:List BK} {g:Int} {w:World} (h:Bt vL M q c B g w) (N:List Nat) (hN:∀k∈N,w.heap.size≤k):Bt vL (N++M) q c B g w:=by
 obtain ⟨hm,vP,vE,hT,h8,hF,hP,hE⟩:=h;rw [←MT N M w hN] at hP hE;exact ⟨jU _ hm,vP,vE,hT,h8,hF,hP,hE⟩
def P8 (vL:Value) (M:List Nat) (q:Nat) (c:Ac) (B:List BK) (g:Int) (w:World) (e:Ending) (w':World):Prop:=e= .returned (.tuple #[])∧Ab [q] w w'∧Bt vL M q c B g w'
def Fh (vL:Value) (M:List Nat) (q:Nat) (c:Ac) (B:List BK) (g:Int) (err:Int) (w:World) (e:Ending) (w':World):Prop:=e= .returned (.int .i64 err)∧Ab [q] w w'∧Bt vL M q c B g w'
theorem TK {w:World} {q:Nat} {u0 u1 u2 u3 u4 u5 u6 u7 u8:Value} (v0 v1 v2 v3 v4 v5 v6 v7 v8:Value) (h0:w.cell? ⟨q,0,none⟩=some u0) (h1:w.cell? ⟨q,1,none⟩=some u1) (h2:w.cell? ⟨q,2,none⟩=some u2) (h3:w.cell? ⟨q,3,none⟩=some u3) (h4:w.cell? ⟨q,4,none⟩=some u4) (h5:w.cell? ⟨q,5,none⟩=some u5) (h6:w.cell? ⟨q,6,none⟩=some u6) (h7:w.cell? ⟨q,7,none⟩=some u7) (h8:w.cell? ⟨q,8,none⟩=some u8):
  (((((((((w.setCell ⟨q,0,none⟩ v0).setCell ⟨q,1,none⟩ v1).setCell ⟨q,2,none⟩ v2).setCell ⟨q,3,none⟩ v3).setCell ⟨q,4,none⟩ v4).setCell ⟨q,5,none⟩ v5).setCell ⟨q,6,none⟩ v6).setCell ⟨q,7,none⟩ v7).setCell ⟨q,8,none⟩ v8).cell? ⟨q,0,none⟩=some v0∧(((((((((w.setCell ⟨q,0,none⟩ v0).setCell ⟨q,1,none⟩ v1).setCell ⟨q,2,none⟩ v2).setCell ⟨q,3,none⟩ v3).setCell ⟨q,4,none⟩ v4).setCell ⟨q,5,none⟩ v5).setCell ⟨q,6,none⟩ v6).setCell ⟨q,7,none⟩ v7).setCell ⟨q,8,none⟩ v8).cell? ⟨q,1,none⟩=some v1∧(((((((((w.setCell ⟨q,0,none⟩ v0).setCell ⟨q,1,none⟩ v1).setCell ⟨q,2,none⟩ v2).setCell ⟨q,3,none⟩ v3).setCell ⟨q,4,none⟩ v4).setCell ⟨q,5,none⟩ v5).setCell ⟨q,6,none⟩ v6).setCell ⟨q,7,none⟩ v7).setCell ⟨q,8,none⟩ v8).cell? ⟨q,2,none⟩=some v2∧(((((((((w.setCell ⟨q,0,none⟩ v0).setCell ⟨q,1,none⟩ v1).setCell ⟨q,2,none⟩ v2).setCell ⟨q,3,none⟩ v3).setCell ⟨q,4,none⟩ v4).setCell ⟨q,5,none⟩ v5).setCell ⟨q,6,none⟩ v6).setCell ⟨q,7,none⟩ v7).setCell ⟨q,8,none⟩ v8).cell? ⟨q,3,none⟩=some v3∧(((((((((w.setCell ⟨q,0,none⟩ v0).setCell ⟨q,1,none⟩ v1).setCell ⟨q,2,none⟩ v2).setCell ⟨q,3,none⟩ v3).setCell ⟨q,4,none⟩ v4).setCell ⟨q,5,none⟩ v5).setCell ⟨q,6,none⟩ v6).setCell ⟨q,7,none⟩ v7).setCell ⟨q,8,none⟩ v8).cell? ⟨q,4,none⟩=some v4∧(((((((((w.setCell ⟨q,0,none⟩ v0).setCell ⟨q,1,none⟩ v1).setCell ⟨q,2,none⟩ v2).setCell ⟨q,3,none⟩ v3).setCell ⟨q,4,none⟩ v4).setCell ⟨q,5,none⟩ v5).setCell ⟨q,6,none⟩ v6).setCell ⟨q,7,none⟩ v7).setCell ⟨q,8,none⟩ v8).cell? ⟨q,5,none⟩=some v5∧(((((((((w.setCell ⟨q,0,none⟩ v0).setCell ⟨q,1,none⟩ v1).setCell ⟨q,2,none⟩ v2).setCell ⟨q,3,none⟩ v3).setCell ⟨q,4,none⟩ v4).setCell ⟨q,5,none⟩ v5).setCell ⟨q,6,none⟩ v6).setCell ⟨q,7,none⟩ v7).setCell ⟨q,8,none⟩ v8).cell? ⟨q,6,none⟩=some v6∧(((((((((w.setCell ⟨q,0,none⟩ v0).setCell ⟨q,1,none⟩ v1).setCell ⟨q,2,none⟩ v2).setCell ⟨q,3,none⟩ v3).setCell ⟨q,4,none⟩ v4).setCell ⟨q,5,none⟩ v5).setCell ⟨q,6,none⟩ v6).setCell ⟨q,7,none⟩ v7).setCell ⟨q,8,none⟩ v8).cell? ⟨q,7,none⟩=some v7∧(((((((((w.setCell ⟨q,0,none⟩ v0).setCell ⟨q,1,none⟩ v1).setCell ⟨q,2,none⟩ v2).setCell ⟨q,3,none⟩ v3).setCell ⟨q,4,none⟩ v4).setCell ⟨q,5,none⟩ v5).setCell ⟨q,6,none⟩ v6).setCell ⟨q,7,none⟩ v7).setCell ⟨q,8,none⟩ v8).cell? ⟨q,8,none⟩=some v8:=by
 exact ⟨by rw [Ad (by simp),Ad (by simp),Ad (by simp),Ad (by simp),Ad (by simp),Ad (by simp),Ad (by simp),Ad (by simp)];exact Bc (v:=u0) (by exact h0),by rw [Ad (by simp),Ad (by simp),Ad (by simp),Ad (by simp),Ad (by simp),Ad (by simp),Ad (by simp)];exact Bc (v:=u1) (by rw [Ad (by simp)];exact h1),by rw [Ad (by simp),Ad (by simp),Ad (by simp),Ad (by simp),Ad (by simp),Ad (by simp)];exact Bc (v:=u2) (by rw [Ad (by simp),Ad (by simp)];exact h2),by rw [Ad (by simp),Ad (by simp),Ad (by simp),Ad (by simp),Ad (by simp)];exact Bc (v:=u3) (by rw [Ad (by simp),Ad (by simp),Ad (by simp)];exact h3),by rw [Ad (by simp),Ad (by simp),Ad (by simp),Ad (by simp)];exact Bc (v:=u4) (by rw [Ad (by simp),Ad (by simp),Ad (by simp),Ad (by simp)];exact h4),by rw [Ad (by simp),Ad (by simp),Ad (by simp)];exact Bc (v:=u5) (by rw [Ad (by simp),Ad (by simp),Ad (by simp),Ad (by simp),Ad (by simp)];exact h5),by rw [Ad (by simp),Ad (by simp)];exact Bc (v:=u6) (by rw [Ad (by simp),Ad (by simp),Ad (by simp),Ad (by simp),Ad (by simp),Ad (by simp)];exact h6),by rw [Ad (by simp)];exact Bc (v:=u7) (by rw [Ad (by simp),Ad (by simp),Ad (by simp),Ad (by simp),Ad (by simp),Ad (by simp),Ad (by simp)];exact h7),by exact Bc (v:=u8) (by rw [Ad (by simp),Ad (by simp),Ad (by simp),Ad (by simp),Ad (by simp),Ad (by simp),Ad (by simp),Ad (by simp)];exact h8)⟩
theorem Zb {w:World} {q:Nat} (v0 v1 v2 v3 v4 v5 v6 v7 v8:Value) (h:Iu q w):Iu q (((((((((w.setCell ⟨q,0,none⟩ v0).setCell ⟨q,1,none⟩ v1).setCell ⟨q,2,none⟩ v2).setCell ⟨q,3,none⟩ v3).setCell ⟨q,4,none⟩ v4).setCell ⟨q,5,none⟩ v5).setCell ⟨q,6,none⟩ v6).setCell ⟨q,7,none⟩ v7).setCell ⟨q,8,none⟩ v8):=by
 obtain ⟨h0,h1,h2,h3,h4,h5,h6,h7,h8⟩:=h;exact ⟨by rw [Ag,Ag,Ag,Ag,Ag,Ag,Ag,Ag,Ag];exact h0,by rw [Ag,Ag,Ag,Ag,Ag,Ag,Ag,Ag,Ag];exact h1,by rw [Ag,Ag,Ag,Ag,Ag,Ag,Ag,Ag,Ag];exact h2,by rw [Ag,Ag,Ag,Ag,Ag,Ag,Ag,Ag,Ag];exact h3,by rw [Ag,Ag,Ag,Ag,Ag,Ag,Ag,Ag,Ag];exact h4,by rw [Ag,Ag,Ag,Ag,Ag,Ag,Ag,Ag,Ag];exact h5,by rw [Ag,Ag,Ag,Ag,Ag,Ag,Ag,Ag,Ag];exact h6,by rw [Ag,Ag,Ag,Ag,Ag,Ag,Ag,Ag,Ag];exact h7,by rw [Ag,Ag,Ag,Ag,Ag,Ag,Ag,Ag,Ag];exact h8⟩
theorem Md (M:List Nat) (q:Nat) (c:Ac) (B B':List BK) (g:Int) (v:Value) (w:World) (hS:Bt vL M q c B g w) (hM:∀k∈M,k<w.heap.size) (hc:c.OK) (hP:Am w v B') (hB:AL B') (hg0:0≤g) (hg1:g≤4611686018427387904):
  Calls Tryz.prog 42 #[.pointer (some ⟨q,0,none⟩),v] w (P8 vL M q c B' (g+1) w):=by
 have hmk:=UT c B' v w hP hB hc;obtain ⟨hm,vP0,vE0,⟨⟨h0,h1,h2,h3,h4,h5⟩,h6,h7⟩,h8,⟨⟨f0,f1,f2,f3,f4,f5,f6,f7,f8⟩,h9,f9⟩, -, -⟩:=hS;have hq:q<w.heap.size:=jF h8;unfold P8 Bt;obtain ⟨E,hE⟩:∃E,E=An c B':=⟨_,rfl⟩;unfold MC at hmk;rw [←hE] at hmk ⊢;clear hE hc;unfold Cx;obtain ⟨alg,slots,points,probes,key,formats⟩:=c;simp only [Ac.cells,DW] at *;go_enter Tryz.func42,Tryz.ntmps42;go_wp2_with fail;refine hmk.mono ?_;rintro e w1 ⟨vP,vE,rfl,hb1,hOP,hOE⟩;obtain ⟨aP,capP,rfl⟩:=CP hOP;obtain ⟨aE,capE,rfl⟩:=CP hOE;have hPm:Am (Ay M w1) _ B':=Nu hOP hM;have hEm:AR (Ay M w1) _ E:=Nu hOE hM;clear hOP hOE hmk;have HP:=jp hPm;have HE:=jp hEm;clear hPm hEm;have k0:=hb1.cell h0;have k1:=hb1.cell h1;have k2:=hb1.cell h2;have k3:=hb1.cell h3;have k4:=hb1.cell h4;have k5:=hb1.cell h5;have k6:=hb1.cell h6;have k7:=hb1.cell h7;have k8:=hb1.cell h8;have k9:=hb1.cell h9;have e0:=hb1.frozen h0 f0;have e1:=hb1.frozen h1 f1;have e2:=hb1.frozen h2 f2;have e3:=hb1.frozen h3 f3;have e4:=hb1.frozen h4 f4;have e5:=hb1.frozen h5 f5;have e6:=hb1.frozen h6 f6;have e7:=hb1.frozen h7 f7;have e8:=hb1.frozen h8 f8;have e9:=hb1.frozen h9 f9;clear h0 h1 h2 h3 h4 h5 h6 h7 h8 h9 f0 f1 f2 f3 f4 f5 f6 f7 f8 f9;go_wp2;go_end0;obtain ⟨y0,y1,y2,y3,y4,y5,y6,y7,y8⟩:=TK (.int .i64 alg) (.int .i64 slots) (.int .i64 points) (.int .i64 probes) (.string key) (.int .i64 formats) (.slice aP B'.length capP) (.slice aE E.length capE) (.int .i64 (g+1)) k0 k1 k2 k3 k4 k5 k6 k7 k8;have yf:=Zb (w:=w1) (q:=q) (.int .i64 alg) (.int .i64 slots) (.int .i64 points) (.int .i64 probes) (.string key) (.int .i64 formats) (.slice aP B'.length capP) (.slice aE E.length capE) (.int .i64 (g+1)) ⟨e0,e1,e2,e3,e4,e5,e6,e7,e8⟩;have hbt:Ab [q] w1 _:=((((((((((Ab.refl [q] w1).set (p:=⟨q,0,none⟩) (by simp) (.int .i64 alg)).set (p:=⟨q,1,none⟩) (by simp) (.int .i64 slots)).set (p:=⟨q,2,none⟩) (by simp) (.int .i64 points)).set (p:=⟨q,3,none⟩) (by simp) (.int .i64 probes)).set (p:=⟨q,4,none⟩) (by simp) (.string key)).set (p:=⟨q,5,none⟩) (by simp) (.int .i64 formats)).set (p:=⟨q,6,none⟩) (by simp) (.slice aP B'.length capP)).set (p:=⟨q,7,none⟩) (by simp) (.slice aE E.length capE)).set (p:=⟨q,8,none⟩) (by simp) (.int .i64 (g+1)));have hbM:=hbt.mono (M':=M) (fun k hk=>Or.inl (by simp at hk;subst hk;exact hm));exact ⟨rfl,(Ab.of_bel hb1).trans hbt,hm,_,_,⟨⟨y0,y1,y2,y3,y4,y5⟩,y6,y7⟩,y8,⟨yf,by rw [Ad (by simp),Ad (by simp),Ad (by simp),Ad (by simp),Ad (by simp),Ad (by simp),Ad (by simp),Ad (by simp),Ad (by simp)];exact k9,by rw [Ag,Ag,Ag,Ag,Ag,Ag,Ag,Ag,Ag];exact e9⟩,HP.out.later hbM,HE.out.later hbM⟩
variable {vL:Value}
theorem LF (id:ByteArray) (w:World):Calls Tryz.prog 38 #[.string id] w fun e w'=>e= .returned (.bool (decide (1≤id.size∧id.size≤8)))∧w=w':=by
 by_cases h:1≤(id.size:Int)∧(id.size:Int)≤8
 ·have hd:decide (1≤id.size∧id.size≤8)=true:=jL (by omega);rw [hd];go_enter Tryz.func38,Tryz.ntmps38;go_wp2_with fail;refine (De _ _ _ _ h.1 h.2).mono ?_;rintro e w' ⟨rfl,rfl⟩;go_wp2;go_ret;exact ⟨rfl,rfl⟩
 ·have hd:decide (1≤id.size∧id.size≤8)=false:=jK (by omega);rw [hd];go_enter Tryz.func38,Tryz.ntmps38;go_wp2_with fail;refine (G5 _ _ _ _ h).mono ?_;rintro e w' ⟨rfl,rfl⟩;go_wp2;go_ret;exact ⟨rfl,rfl⟩
theorem Mn (x:Int) (w:World):Calls Tryz.prog 39 #[.int .i64 x] w fun e w'=>e= .returned (.bool (decide (0≤x∧x≤6)))∧w=w':=by
 by_cases h:0≤x∧x≤6
 ·have hd:decide (0≤x∧x≤6)=true:=jL h;rw [hd];go_enter Tryz.func39,Tryz.ntmps39;go_wp2_with fail;refine (De _ _ _ _ h.1 h.2).mono ?_;rintro e w' ⟨rfl,rfl⟩;go_wp2;go_ret;exact ⟨rfl,rfl⟩
 ·have hd:decide (0≤x∧x≤6)=false:=jK h;rw [hd];go_enter Tryz.func39,Tryz.ntmps39;go_wp2_with fail;refine (G5 _ _ _ _ h).mono ?_;rintro e w' ⟨rfl,rfl⟩;go_wp2;go_ret;exact ⟨rfl,rfl⟩
theorem Fh.same {M:List Nat} {q:Nat} {c:Ac} {B:List BK} {g err:Int} {w w':World} (hS:Bt vL M q c B g w) (hb:Aa w w'):Fh vL M q c B g err w (.returned (.int .i64 err)) w':=⟨rfl,Ab.of_bel hb,hS.later hb⟩
theorem KV (M:List Nat) (q:Nat) (c:Ac) (B:List BK) (g:Int) (id:ByteArray) (n:Int) (w:World) (hS:Bt vL M q c B g w) (hM:∀k∈M,k<w.heap.size) (hc:c.OK) (hB:AH B) (hg0:0≤g) (hg1:g≤4611686018427387904):
  Calls Tryz.prog 24 #[.pointer (some ⟨q,0,none⟩),.string id,.int .i64 n] w (Fh vL M q c (Dj B id n) (if Cw B id n=0 then g+1 else g) (Cw B id n) w):=by
 have hGood:=hB.add id n;have h8:=hB.1.1;have hS':=hS;obtain ⟨hm,vP,vE,⟨⟨h0,h1,h2,h3,h4,h5⟩,h6,h7⟩,hg,hF,hPm,hEm⟩:=hS';have hP:=hPm.unmask;have hpl:=J8 B vP id w hP (by omega);by_cases hn:id.size<1∨8<id.size
 ·have he:Cw B id n=2:=by unfold Cw;rw [if_pos hn]
  unfold Dj;rw [he];simp only [show ((2:Int)=0)=False from by simp,if_false];have hnm:=LF id w;rw [show decide (1≤id.size∧id.size≤8)=false from jK (by omega)] at hnm;go_enter Tryz.func24,Tryz.ntmps24;go_wp2_with fail;refine hnm.mono ?_;rintro e w' ⟨rfl,rfl⟩;go_wp2;go_ret;exact Fh.same hS (jD _)
 have hnm:=LF id w;rw [show decide (1≤id.size∧id.size≤8)=true from jL (by omega)] at hnm;have hwt:=Mn n w;by_cases hw:n<0∨6<n
 ·have he:Cw B id n=5:=by unfold Cw;rw [if_neg hn,if_pos hw]
  unfold Dj;rw [he];simp only [show ((5:Int)=0)=False from by simp,if_false];rw [show decide (0≤n∧n≤6)=false from jK (by omega)] at hwt;go_enter Tryz.func24,Tryz.ntmps24;go_wp2_with fail;refine hnm.mono ?_;rintro e w' ⟨rfl,rfl⟩;go_wp2_with fail;refine hwt.mono ?_;rintro e w' ⟨rfl,rfl⟩;go_wp2;go_ret;exact Fh.same hS (jD _)
 rw [show decide (0≤n∧n≤6)=true from jL (by omega)] at hwt;unfold J9 Dr at hpl;by_cases ht:Bq id B<B.length
 ·have he:Cw B id n=3:=by unfold Cw;rw [if_neg hn,if_neg hw,if_pos ht]
  unfold Dj;rw [he];simp only [show ((3:Int)=0)=False from by simp,if_false];rw [if_pos ht] at hpl;have HS:=jp hS;clear hS hGood hB hPm hEm hP hF;generalize Bq id B=p at *;go_enter Tryz.func24,Tryz.ntmps24;go_wp2_with fail;refine hnm.mono ?_;rintro e w' ⟨rfl,rfl⟩;go_wp2_with fail;refine hwt.mono ?_;rintro e w' ⟨rfl,rfl⟩;go_wp2_with fail;refine hpl.mono ?_;rintro e w1 ⟨rfl,hb1⟩;go_wp2;go_ret;exact Fh.same HS.out hb1
 rw [if_neg ht] at hpl;obtain ⟨aP,capP,rfl, -⟩:=hP.open;by_cases hl:8≤B.length
 ·have he:Cw B id n=6:=by unfold Cw;rw [if_neg hn,if_neg hw,if_neg ht,if_pos hl]
  unfold Dj;rw [he];simp only [show ((6:Int)=0)=False from by simp,if_false];have HS:=jp hS;clear hS hGood hB hPm hEm hP hF;have hd:decide ((B.length:Int)≥8)=true:=jL (by omega);go_enter Tryz.func24,Tryz.ntmps24;go_wp2_with fail;refine hnm.mono ?_;rintro e w' ⟨rfl,rfl⟩;go_wp2_with fail;refine hwt.mono ?_;rintro e w' ⟨rfl,rfl⟩;go_wp2_with fail;refine hpl.mono ?_;rintro e w1 ⟨rfl,hb1⟩;have k6:=hb1.cell h6;go_wp2;go_ret;exact Fh.same HS.out hb1
 have he:Cw B id n=0:=by unfold Cw;rw [if_neg hn,if_neg hw,if_neg ht,if_neg hl]
 have hin:Dj B id n=Bg (id,n) B:=by unfold Dj;rw [if_pos he]
 rw [hin] at hGood ⊢;rw [he];simp only [if_true];have hd:decide ((B.length:Int)≥8)=false:=jK (by omega);have HS:=jp hS;have HP:=jp hP;have HG:=jp hGood;clear hS hGood hB hPm hEm hP hF he hin;generalize hB':Bg (id,n) B=B' at *;go_enter Tryz.func24,Tryz.ntmps24;go_wp2_with fail;refine hnm.mono ?_;rintro e w' ⟨rfl,rfl⟩;go_wp2_with fail;refine hwt.mono ?_;rintro e w' ⟨rfl,rfl⟩;go_wp2_with fail;refine hpl.mono ?_;rintro e w1 ⟨rfl,hb1⟩;have k6:=hb1.cell h6;have hwi:=Wz B (.slice aP B.length capP) (id,n) w1 (HP.out.later hb1) (by omega);rw [hB'] at hwi;go_wp2_with fail;refine hwi.mono ?_;rintro e w2 ⟨v2,rfl,hb2,hO2⟩;have hb12:=hb1.trans hb2;have hpu:=Md M q c B B' g v2 w2 (HS.out.later hb12) (fun k hk=>jN (hM k hk) hb12.size) hc hO2.pool HG.out.1 hg0 hg1;clear hwi hO2;go_wp2_with fail;refine hpu.mono ?_;rintro e w3 ⟨rfl,hbt,hS3⟩;go_wp2;go_ret;exact ⟨rfl,(Ab.of_bel hb12).trans hbt,hS3⟩
theorem SG (M:List Nat) (q:Nat) (c:Ac) (B:List BK) (g:Int) (id:ByteArray) (w:World) (hS:Bt vL M q c B g w) (hM:∀k∈M,k<w.heap.size) (hc:c.OK) (hB:AH B) (hg0:0≤g) (hg1:g≤4611686018427387904):
  Calls Tryz.prog 95 #[.pointer (some ⟨q,0,none⟩),.string id] w (Fh vL M q c (EQ B id) (if Ej B id=0 then g+1 else g) (Ej B id) w):=by
 have hGood:=hB.rem id;have h8:=hB.1.1;have hS':=hS;obtain ⟨hm,vP,vE,⟨⟨h0,h1,h2,h3,h4,h5⟩,h6,h7⟩,hg,hF,hPm,hEm⟩:=hS';have hP:=hPm.unmask;have hpl:=J8 B vP id w hP (by omega);unfold J9 Dr at hpl;by_cases ht:Bq id B<B.length
 rotate_left
 ·have he:Ej B id=4:=by unfold Ej;rw [if_neg ht]
  unfold EQ;rw [he];simp only [show ((4:Int)=0)=False from by simp,if_false];rw [if_neg ht] at hpl;have HS:=jp hS;clear hS hGood hB hPm hEm hP hF;go_enter Tryz.func95,Tryz.ntmps95;go_wp2_with fail;refine hpl.mono ?_;rintro e w1 ⟨rfl,hb1⟩;go_wp2;go_ret;exact Fh.same HS.out hb1
 have he:Ej B id=0:=by unfold Ej;rw [if_pos ht]
 have hin:EQ B id=B.eraseIdx (Bq id B):=by unfold EQ;rw [if_pos he]
 rw [hin] at hGood ⊢;rw [he];simp only [if_true];rw [if_pos ht] at hpl;have HS:=jp hS;have HP:=jp hP;have HG:=jp hGood;clear hS hGood hB hPm hEm hP hF he hin;generalize Bq id B=p at *;generalize hB':B.eraseIdx p=B' at *;go_enter Tryz.func95,Tryz.ntmps95;go_wp2_with fail;refine hpl.mono ?_;rintro e w1 ⟨rfl,hb1⟩;have k6:=hb1.cell h6;have hwi:=Yt B vP p w1 (HP.out.later hb1) (by omega) ht;rw [hB'] at hwi;go_wp2_with fail;refine hwi.mono ?_;rintro e w2 ⟨v2,rfl,hb2,hO2⟩;have hb12:=hb1.trans hb2;have hpu:=Md M q c B B' g v2 w2 (HS.out.later hb12) (fun k hk=>jN (hM k hk) hb12.size) hc hO2.pool HG.out.1 hg0 hg1;clear hwi hO2;go_wp2_with fail;refine hpu.mono ?_;rintro e w3 ⟨rfl,hbt,hS3⟩;go_wp2;go_ret;exact ⟨rfl,(Ab.of_bel hb12).trans hbt,hS3⟩
theorem Qt (M:List Nat) (q:Nat) (c:Ac) (B:List BK) (g:Int) (id:ByteArray) (n:Int) (w:World) (hS:Bt vL M q c B g w) (hM:∀k∈M,k<w.heap.size) (hc:c.OK) (hB:AH B) (hg0:0≤g) (hg1:g≤4611686018427387904):
  Calls Tryz.prog 96 #[.pointer (some ⟨q,0,none⟩),.string id,.int .i64 n] w (Fh vL M q c (Er B id n) (if Dy B id n=0 then g+1 else g) (Dy B id n) w):=by
 have hGood:=hB.set id n;have h8:=hB.1.1;have hS':=hS;obtain ⟨hm,vP,vE,⟨⟨h0,h1,h2,h3,h4,h5⟩,h6,h7⟩,hg,hF,hPm,hEm⟩:=hS';have hP:=hPm.unmask;have hpl:=J8 B vP id w hP (by omega);unfold J9 Dr at hpl;have hwt:=Mn n w;by_cases hw:n<0∨6<n
 ·have he:Dy B id n=5:=by unfold Dy;rw [if_pos hw]
  unfold Er;rw [he];simp only [show ((5:Int)=0)=False from by simp,if_false];rw [show decide (0≤n∧n≤6)=false from jK (by omega)] at hwt;go_enter Tryz.func96,Tryz.ntmps96;go_wp2_with fail;refine hwt.mono ?_;rintro e w' ⟨rfl,rfl⟩;go_wp2;go_ret;exact Fh.same hS (jD _)
 rw [show decide (0≤n∧n≤6)=true from jL (by omega)] at hwt;by_cases ht:Bq id B<B.length
 rotate_left
 ·have he:Dy B id n=4:=by unfold Dy;rw [if_neg hw,if_neg ht]
  unfold Er;rw [he];simp only [show ((4:Int)=0)=False from by simp,if_false];rw [if_neg ht] at hpl;have HS:=jp hS;clear hS hGood hB hPm hEm hP hF;go_enter Tryz.func96,Tryz.ntmps96;go_wp2_with fail;refine hwt.mono ?_;rintro e w' ⟨rfl,rfl⟩;go_wp2_with fail;refine hpl.mono ?_;rintro e w1 ⟨rfl,hb1⟩;go_wp2;go_ret;exact Fh.same HS.out hb1
 have he:Dy B id n=0:=by unfold Dy;rw [if_neg hw,if_pos ht]
 have hin:Er B id n=B.set (Bq id B) (B[Bq id B].1,n):=by unfold Er;rw [if_pos he,Ho ht]
 rw [hin] at hGood ⊢;rw [he];simp only [if_true];rw [if_pos ht] at hpl;have HS:=jp hS;have HP:=jp hP;have HG:=jp hGood;clear hS hGood hB hPm hEm hP hF he hin;generalize Bq id B=p at *;generalize hB':B.set p (B[p].1,n)=B' at *;go_enter Tryz.func96,Tryz.ntmps96;go_wp2_with fail;refine hwt.mono ?_;rintro e w' ⟨rfl,rfl⟩;go_wp2_with fail;refine hpl.mono ?_;rintro e w1 ⟨rfl,hb1⟩;have k6:=hb1.cell h6;have hwi:=RC B vP p n w1 (HP.out.later hb1) (by omega) ht;rw [hB'] at hwi;go_wp2_with fail;refine hwi.mono ?_;rintro e w2 ⟨v2,rfl,hb2,hO2⟩;have hb12:=hb1.trans hb2;have hpu:=Md M q c B B' g v2 w2 (HS.out.later hb12) (fun k hk=>jN (hM k hk) hb12.size) hc hO2.pool HG.out.1 hg0 hg1;clear hwi hO2;go_wp2_with fail;refine hpu.mono ?_;rintro e w3 ⟨rfl,hbt,hS3⟩;go_wp2;go_ret;exact ⟨rfl,(Ab.of_bel hb12).trans hbt,hS3⟩
theorem YQ (M:List Nat) (q:Nat) (c:Ac) (B:List BK) (g:Int) (w:World) (hS:Bt vL M q c B g w):
  Calls Tryz.prog 101 #[.pointer (some ⟨q,0,none⟩)] w fun e w'=>e= .returned (.int .i64 g)∧w=w':=by
 obtain ⟨-,vP,vE, -,hg, -⟩:=hS;go_enter Tryz.func101,Tryz.ntmps101;go_wp2;go_ret;exact ⟨rfl,rfl⟩
theorem PP (M:List Nat) (q:Nat) (c:Ac) (B:List BK) (g:Int) (w:World) (hS:Bt vL M q c B g w) (hE:(An c B).length≤65536):
  Calls Tryz.prog 25 #[.pointer (some ⟨q,0,none⟩)] w (Lx w (CM B (An c B))):=by
 obtain ⟨-,vP,vE,hT,hg, -,hPm,hEm⟩:=hS;have hn:=XG q c vP vE B (An c B) w hT hPm.unmask hEm.unmask hE;generalize CM B (An c B)=NL at *;clear hT hPm hEm;go_enter Tryz.func25,Tryz.ntmps25;go_wp2_with fail;refine hn.mono ?_;rintro e w1 ⟨v,rfl,hb,hO,hnil⟩;go_wp2;go_ret;exact ⟨_,rfl,hb,hO,hnil⟩
def IT (c:Ac) (B:List BK) (g:Int) (k:ByteArray):ByteArray×Int:=if g=0 then (ByteArray.empty,7) else Ee c B k
theorem U1 (M:List Nat) (q:Nat) (c:Ac) (B:List BK) (g:Int) (k:ByteArray) (w:World) (hS:Bt vL M q c B g w) (hE:(An c B).length≤65536) (hc:c.OK) (hk:k.size≤4611686018427386000):
  Calls Tryz.prog 103 #[.pointer (some ⟨q,0,none⟩),.string k] w (EH w (IT c B g k)):=by
 obtain ⟨-,vP,vE,hT,hg, -,hPm,hEm⟩:=hS;have hn:=XF q c vP vE B (An c B) k w hT hPm.unmask hEm.unmask hE hc hk;rw [←Q8] at hn;unfold IT;generalize Ee c B k=X at *;obtain ⟨x1,x2⟩:=X;clear hT hPm hEm;by_cases hz:g=0
 ·subst hz;rw [if_pos rfl];go_enter Tryz.func103,Tryz.ntmps103;go_wp2;go_ret2;exact ⟨rfl,jD _⟩
 ·have hzb:(g==0)=false:=by rw [jI];exact hz
  rw [if_neg hz];go_enter Tryz.func103,Tryz.ntmps103;go_wp2_with fail;refine hn.mono ?_;rintro e w1 ⟨rfl,hb⟩;go_wp2;go_ret2;exact ⟨rfl,hb⟩
theorem QB {B:List BK} {k:Nat} (hk:k<B.length) (h8:B.length≤8) (h:AH (B.take k)) (h1:1≤B[k].1.size∧B[k].1.size≤8) (h2:0≤B[k].2∧B[k].2≤6) (h3:∀j,(hj:j+1=k)→AO (B[j]'(by omega)).1 B[k].1=true):AH (B.take (k+1)):=by
 rw [jQ hk];refine ⟨⟨by simp;omega,fun b hb=>?_⟩,?_⟩
 ·rcases jT.1 hb with hb|hb
  ·exact h.1.2 b hb
  ·obtain rfl:=jP.1 hb;exact ⟨h1.1,h1.2,h2.1,h2.2⟩
 ·refine List.pairwise_append.2 ⟨h.2,List.pairwise_singleton _ _,fun a ha b hb=>?_⟩;obtain rfl:=jP.1 hb;obtain ⟨i,hi,rfl⟩:=List.getElem_of_mem ha;rw [jk] at hi;obtain ⟨j,rfl⟩:∃j,k=j+1:=⟨k - 1,by omega⟩;have hl:=h3 j rfl;by_cases hij:i=j
  ·subst hij;simpa using hl
  ·have:=List.pairwise_iff_getElem.1 h.2 i j (by rw [jk];omega) (by rw [jk];omega) (by omega);simp only [List.getElem_take] at this ⊢;exact Pm this hl
theorem Rv {B:List BK} {j:Nat} (hk:j+1<B.length) (h:AH B):AO B[j].1 B[j+1].1=true:=List.pairwise_iff_getElem.1 h.2 j (j+1) (by omega) hk (by omega)
def Hv (P:Prop) (w:World) (e:Ending) (w':World):Prop:=∃x,e= .returned (.bool x)∧Aa w w'∧(x=true↔P)
theorem NT (B:List BK) (v:Value) (w:World) (hP:Am w v B) (hB:B.length≤1000):
  Calls Tryz.prog 223 #[v] w (Hv (AH B) w):=by
 obtain ⟨ao,cap,rfl,hc⟩:=hP.open;by_cases h8:8<B.length
 ·have hno:Hid (¬AH B):=fun h=>by have:=h.1.1;omega
  clear hc;go_enter Tryz.func223,Tryz.ntmps223;go_wp2;go_ret;exact ⟨false,rfl,by solve_by_elim [jA,jB,jC,jD,jE],⟨fun h=>(by cases h),fun h=>absurd h hno.out⟩⟩
 ·replace h8:B.length≤8:=by omega
  go_enter Tryz.func223,Tryz.ntmps223;go_wp2;go_loopg [10] B.length (fun r n wr=>Aa w wr∧∃k:Nat,r=B.length - k∧k≤B.length∧n= .int .i64 k∧AH (B.take k))
  case atStart=>exact ⟨jD _,0,by omega,by omega,rfl,by simpa using AH.nil⟩
  case round=>
   obtain ⟨hb,k,hr,hk,rfl,hg⟩:=hrel;have HG:=jp hg;clear hg;by_cases hlt:k<B.length
   ·obtain ⟨g,rfl,c0,c1⟩:=hc k hlt;have c0':=hb.cell c0;have c1':=hb.cell c1;have hnm:=fun wx=>LF B[k].1 wx
    have hwt:=fun wx=>Mn B[k].2 wx
    have HST:=jp (fun h1 h2 h3=>QB hlt h8 HG.out h1 h2 h3)
    have HN1:Hid (AH B→(1≤B[k].1.size∧B[k].1.size≤8)∧(0≤B[k].2∧B[k].2≤6)):=fun h=>by
     have:=h.1.2 _ (jJ hlt);exact ⟨⟨this.1,this.2.1⟩,this.2.2⟩
    by_cases hname:1≤B[k].1.size∧B[k].1.size≤8
    rotate_left
    ·have hno:Hid (¬AH B):=fun h=>hname (HN1.out h).1
     simp only [hname,decide_false] at hnm;clear hc c0 c1 hwt HST HN1 hname HG;generalize B[k].1=idk at *;generalize B[k].2=wk at *;go_wp2_with fail;refine (hnm _).mono ?_;rintro e w2 ⟨rfl,rfl⟩;go_wp2;go_ret;exact ⟨false,rfl,by solve_by_elim [jA,jB,jC,jD,jE],⟨fun h=>(by cases h),fun h=>absurd h hno.out⟩⟩
    simp only [hname,and_self,decide_true] at hnm;by_cases hweight:0≤B[k].2∧B[k].2≤6
    rotate_left
    ·have hno:Hid (¬AH B):=fun h=>hweight (HN1.out h).2
     simp only [hweight,decide_false] at hwt;clear hc c0 c1 HST HN1 hname HG hweight;generalize B[k].1=idk at *;generalize B[k].2=wk at *;go_wp2_with fail;refine (hnm _).mono ?_;rintro e w2 ⟨rfl,rfl⟩;go_wp2_with fail;refine (hwt _).mono ?_;rintro e w2 ⟨rfl,rfl⟩;go_wp2;go_ret;exact ⟨false,rfl,by solve_by_elim [jA,jB,jC,jD,jE],⟨fun h=>(by cases h),fun h=>absurd h hno.out⟩⟩
    simp only [hweight,and_self,decide_true] at hwt;replace HST:=jp (HST.out hname hweight);clear HN1 hname hweight HG;cases k with
    |zero=>
     have HS2:Hid (AH (B.take (0+1))):=HST.out (fun j hj=>by omega);clear hc c0 c1 HST;generalize B[0].1=idk at *;generalize B[0].2=wk at *;go_wp2_with fail;refine (hnm _).mono ?_;rintro e w2 ⟨rfl,rfl⟩;go_wp2_with fail;refine (hwt _).mono ?_;rintro e w2 ⟨rfl,rfl⟩;go_wp2_with fail;go_quiet (fail);go_wp2_with fail;go_roundg (B.length - (0+1))
     case measure=>omega
     case rel=>exact ⟨by solve_by_elim [jA,jB,jC,jD,jE],0+1,rfl,by omega,by go_num,HS2.out⟩
    |succ j=>
     obtain ⟨g',hgg,d0,d1⟩:=hc j (by omega);cases hgg;have d0':=hb.cell d0
     have HS2 : Hid (AO B[j].1 B[j + 1].1 = true → AH (B.take (j + 1 + 1))) := fun h => HST.out (fun i hi => by
       obtain rfl : i = j := by omega
       exact h)
     have hwj:IntKind.i64.wrap (j:Int)=(j:Int):=by rw [IntKind.wrap_i64];omega
     have hjl:j<B.length:=by omega
     have hglt:g<wr.heap.size:=jF d0';have hgne:g≠wr.heap.size:=by omega
     have HN2:Hid (AH B→AO B[j].1 B[j+1].1=true):=fun h=>Rv hlt h
     unfold AO at HS2 HN2;obtain ⟨x,hx⟩:∃x,Op.bytesLess B[j].1.toList B[j+1].1.toList=x:=⟨_,rfl⟩;rw [hx] at HS2 HN2;clear hc c0 c1 HST d0 d1;generalize B[j+1].1=idk at *;generalize B[j+1].2=wk at *;generalize B[j].1=idj at *;go_wp2_with fail;refine (hnm _).mono ?_;rintro e w2 ⟨rfl,rfl⟩;go_wp2_with fail;refine (hwt _).mono ?_;rintro e w2 ⟨rfl,rfl⟩;go_wp2_with fail;cases x
     ·go_quiet (fail);go_wp2;go_ret;exact ⟨false,rfl,by solve_by_elim [jA,jB,jC,jD,jE],⟨fun h=>(by cases h),fun h=>absurd (HN2.out h) (by simp)⟩⟩
     ·go_quiet (fail);go_wp2_with fail;go_roundg (B.length - (j+1+1))
      case measure=>omega
      case rel=>exact ⟨by solve_by_elim [jA,jB,jC,jD,jE],j+1+1,rfl,by omega,by go_num,by first|exact HS2.out rfl|exact HS2.out trivial⟩
   ·have HE:Hid (AH B):=by have:=HG.out;rw [jR (by omega)] at this;exact this
    clear hc HG;go_wp2;go_ret;exact ⟨true,rfl,by solve_by_elim [jA,jB,jC,jD,jE],⟨fun _=>HE.out,fun _=>rfl⟩⟩
theorem MM (w:World) (o:Obj):(w.alloc o).heap[w.heap.size]?=some o:=by unfold World.alloc;exact Array.getElem?_push_size
def Ae (b:Nat) (ty:TypeId) (cs:Array Value) (w:World):Prop:=w.heap[b]?=some (.cells cs ty (0,0))
theorem Ae.new (w:World) (ty:TypeId) (cs:Array Value):Ae w.heap.size ty cs (w.alloc (.cells cs ty)):=MM w _
theorem Ae.lt {b:Nat} {ty:TypeId} {cs:Array Value} {w:World} (h:Ae b ty cs w):b<w.heap.size:=by
 rcases Nat.lt_or_ge b w.heap.size with k|k
 ·exact k
 ·rw [Ae,Array.getElem?_eq_none k] at h;cases h
theorem Ae.kept {b:Nat} {ty:TypeId} {cs:Array Value} {w w':World} (h:Ae b ty cs w) (hb:w'.heap[b]?=w.heap[b]?):Ae b ty cs w':=hb.trans h
theorem Ae.bel {b:Nat} {ty:TypeId} {cs:Array Value} {w w':World} (h:Ae b ty cs w) (k:Aa w w'):Ae b ty cs w':=h.kept (k.block b h.lt)
theorem Ae.but {b:Nat} {ty:TypeId} {cs:Array Value} {w w':World} {M:List Nat} (h:Ae b ty cs w) (k:Ab M w w') (hm:b∉M):Ae b ty cs w':=h.kept (k.block b h.lt hm)
theorem Ae.cell {b:Nat} {ty:TypeId} {cs:Array Value} {w:World} (h:Ae b ty cs w) (j:Nat) {u:Value} (hj:cs[j]?=some u):w.cell? ⟨b,j,none⟩=some u:=by
 unfold Ae at h;simp [World.cell?,h,hj]
theorem Ae.free {b:Nat} {ty:TypeId} {cs:Array Value} {w:World} (h:Ae b ty cs w) (j:Nat):w.frozen? ⟨b,j,none⟩=false:=by
 unfold Ae at h;simp [World.frozen?,h]
theorem Ae.set {b:Nat} {ty:TypeId} {cs:Array Value} {w:World} (h:Ae b ty cs w) (j:Nat) (u:Value) {cs':Array Value} (hc:cs.setIfInBounds j u=cs'):Ae b ty cs' (w.setCell ⟨b,j,none⟩ u):=by
 unfold Ae at h ⊢;subst hc;have hb:b<w.heap.size:=Ae.lt h;simp only [World.setCell,Array.getElem?_modify,h];simp
theorem Ae.setO {b:Nat} {ty:TypeId} {cs:Array Value} {w:World} (h:Ae b ty cs w) {a:Addr} (ha:a.block≠b) (u:Value):Ae b ty cs (w.setCell a u):=by
 refine h.kept ?_;simp only [World.setCell,Array.getElem?_modify,if_neg ha]
theorem Ae.alloc {b:Nat} {ty:TypeId} {cs:Array Value} {w:World} (h:Ae b ty cs w) (o:Obj):Ae b ty cs (w.alloc o):=h.bel ((jD w).step_alloc o)
variable {K:Nat→Option Obj}
theorem Bb.box {W0:World} {p:Nat} {L:List Bool} {w:World} (h:Bb K W0 p L w) (o:Obj) (ho:∀cur,o≠ .cells cur 5 (0,0)):∃K1,K1 w.heap.size=some o∧(∀k o',K k=some o'→K1 k=some o')∧Bb K1 W0 p L (w.alloc o):=by
 have hp:=h.lt;refine ⟨fun j=>if j=w.heap.size then some o else K j,by simp,fun k o' hk=>?_,(h.later ((jD w).step_alloc o)).keep (MM w o) (by omega) ho⟩
 have hne:k≠w.heap.size:=fun e=>by
  have:=h.block hk;rw [e,Array.getElem?_eq_none (jH _)] at this;cases this
 simp [hne,hk]
theorem Bb.cell {W0:World} {p:Nat} {L:List Bool} {w w2:World} {o:Obj} (h:Bb K W0 p L w2) (hk:K w.heap.size=some o) {j:Nat} {u:Value} (hc:(w.alloc o).cell? ⟨w.heap.size,j,none⟩=some u):w2.cell? ⟨w.heap.size,j,none⟩=some u:=
 (World.cell?_of_block (a:=⟨w.heap.size,j,none⟩) ((h.block hk).trans (MM w o).symm)).trans hc
def Gk (b:BK):List Bool:=Ax b.1.size (8 * 1)++Az b.1.data.toList++Ax b.2.toNat (8 * 1)
def Gd (B:List BK):List Bool:=Ax B.length (8 * 1)++B.flatMap Gk
theorem SD {b:BK} (h:b.1.size≤8):(Gk b).length≤80:=by
 have:b.1.data.toList.length=b.1.size:=by rw [Array.length_toList];rfl
 simp [Gk,Bd,Bk];have h2:b.1.data.size=b.1.size:=rfl;omega
theorem Pk {B:List BK} (h:∀b∈B,b.1.size≤8):(B.flatMap Gk).length≤80 * B.length:=by
 induction B with
 |nil=>simp
 |cons b B ih=>
  have h1:=SD (h b (by simp));have h2:=ih (fun x hx=>h x (by simp [hx]));simp only [List.flatMap_cons,jO,List.length_cons];omega
theorem KI {B:List BK} (h:AL B):(Gd B).length≤648:=by
 have:=Pk (fun b hb=>(h.2 b hb).2.1);have h8:=h.1;simp only [Gd,jO,Bd];omega
theorem Qc (W0:World) (p:Nat) (L:List Bool) (B:List BK) (v:Value) (w:World) (h:Bb K W0 p L w) (hP:Am W0 v B) (hB:AL B) (hL:L.length≤1073741824):
  Calls Tryz.prog 213 #[.pointer (some ⟨p,0,none⟩),v] w (Ha K W0 p (L++Gd B)):=by
 obtain ⟨h8,hall⟩:=hB;obtain ⟨ao,cap,rfl,hc⟩:=hP.open;have H0:=jp (Cb W0 p L B.length 1 w h (by omega) (by omega) (by omega));have HLb:=jp (fun k=>jX (Pk (B:=B.take k) (fun b hb=>(hall b (List.mem_of_mem_take hb)).2.1)) (by have:=List.length_take_le' k B;omega:80 * (B.take k).length≤640));clear h hP;go_enter Tryz.func213,Tryz.ntmps213;go_wp2_with fail;refine H0.out.mono ?_;rintro e w1 ⟨rfl,hI1⟩;have HI1:=jp hI1;clear hI1 H0;go_wp2_with fail;go_loopg [12] B.length (fun r n wr=>∃k:Nat,r=B.length - k∧k≤B.length∧n= .int .i64 k∧Bb K W0 p ((L++Ax B.length (8 * 1))++(B.take k).flatMap Gk) wr)
 case atStart=>exact ⟨0,by omega,by omega,rfl,by simpa using HI1.out⟩
 case round=>
  obtain ⟨k,hr,hk,rfl,hI⟩:=hrel;have HI:=jp hI;clear hI;by_cases hlt:k<B.length
  ·obtain ⟨g,rfl,c0,c1⟩:=hc k hlt;have hBel:=HI.out.1;have c0':=hBel.cell c0;have c1':=hBel.cell c1;obtain ⟨hn1,hn2,hw1,hw2⟩:=hall _ (jJ hlt);obtain ⟨LL,hLL⟩:∃LL,LL=((L++Ax B.length (8 * 1))++(B.take k).flatMap Gk):=⟨_,rfl⟩
   have HS:Hid ((L++Ax B.length (8 * 1))++(B.take (k+1)).flatMap Gk=((LL++Ax B[k].1.size (8 * 1))++Az B[k].1.data.toList)++Ax B[k].2.toNat (8 * 1)):=by
    show _=_;rw [hLL,jQ hlt,List.flatMap_append];simp [Gk]
   have hll:LL.length≤1073742720:=by
    have:=HLb.out k;rw [hLL];simp only [jO,Bd];omega
   rw [←hLL] at HI;clear hLL;generalize B[k].1=idk at *;generalize B[k].2=wk at *;obtain ⟨m,rfl⟩:∃m:Nat,wk=(m:Int):=⟨wk.toNat,by omega⟩;obtain ⟨K1,hk1,hk2,hI'⟩:=HI.out.box (.cells #[.string idk,.int .i64 (m:Int)] 75) (fun cur e=>by injection e with _ e;revert e;decide);have H1:=jp (Cb W0 p LL idk.size 1 _ hI' (by omega) (by omega) (by omega));have HK1:=jp hk1;have HK2:=jp hk2;clear hc c0 c1 hBel HLb HI1 hall hI' hk1 hk2 HI;go_wp2_with fail;refine H1.out.mono ?_;rintro e w2 ⟨rfl,hI2⟩;have H2:=jp (Gh W0 p (LL++Ax idk.size (8 * 1)) idk w2 hI2 (by simp only [jO,Bd];omega));have a0:=hI2.cell HK1.out (j:=0) (u:= .string idk) (by simp);clear hI2 H1;go_wp2_with fail;refine H2.out.mono ?_;rintro e w3 ⟨rfl,hI3⟩;have H3:=jp (Cb W0 p _ m 1 w3 hI3 (by simp only [jO,Bd,Bk,Array.length_toList];have:idk.data.size=idk.size:=rfl;omega) (by omega) (by omega));have b1:=hI3.cell HK1.out (j:=1) (u:= .int .i64 (m:Int)) (by simp);clear hI3 H2 a0;go_wp2_with fail;refine H3.out.mono ?_;rintro e w4 ⟨rfl,hI4⟩;have HI4:=jp (hI4.drop HK2.out);clear hI4 H3 b1;go_wp2_with fail;go_roundg (B.length - (k+1))
   case measure=>omega
   case rel=>
    refine ⟨k+1,rfl,by omega,by go_num,?_⟩;rw [HS.out];exact HI4.out
  ·have HE:Hid ((L++Ax B.length (8 * 1))++(B.take k).flatMap Gk=L++Gd B):=by
    show _=_;rw [jR (by omega),Gd,List.append_assoc]
   clear hc HLb HI1
   go_wp2
   go_end0
   refine ⟨rfl,?_⟩
   rw [←HE.out]
   exact HI.out
end Go.Proofs.YtpapdkhjdelfcabGreat
