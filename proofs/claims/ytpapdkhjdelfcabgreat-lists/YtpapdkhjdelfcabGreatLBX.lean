import Derived.Test.YtpapdkhjdelfcabGreatLBW
namespace Go.Proofs.YtpapdkhjdelfcabGreat
open Go.RowKit
set_option maxRecDepth 100000
set_option maxHeartbeats 4000000
theorem Au.At.open {M:List Nat} {x:Au} {w:World} (h:x.At M w):BX w x.p x.speaks x.has x.gen x.format x.got x.no∧(0≤x.speaks∧x.speaks≤3)∧Aj x.gen∧Aj x.format∧Di w x.got x.ng∧x.ng≤65535∧(∃hg,Do w x.has hg)∧∀g,x.got.ownBlock=some g→g≠x.p:=by
 obtain ⟨h1,h2,h3,h4,h5,h6,⟨hg,h7⟩,h8⟩:=h;exact ⟨h1,h2,h3,h4,h5,h6,⟨hg,h7.unmask⟩,h8⟩
theorem Wu (w:World) (a:Addr) (v:Value) (o:Obj) (h:a.block<w.heap.size):(w.setCell a v).alloc o=(w.alloc o).setCell a v:=by
 unfold World.setCell World.alloc;simp only;congr 1;apply Array.ext
 ·simp
 ·intro i h1 h2;simp only [Array.getElem_push,Array.getElem_modify,Array.size_modify];by_cases hi:i<w.heap.size
  ·simp [hi]
  ·have:a.block≠i:=by omega
   simp [hi,this]
def QA (W0:Aw) (s p:Nat) (z:Au) (e:Ending) (w':World):Prop:=e= .returned (.tuple #[])∧∃x',Ao W0 s x' w'∧x'.p=p∧z.At x'.M w'
theorem Q3 (W0:Aw) (s:Nat) (x:WG) (k:Nat) (hk:k<x.prs.length) (A B C:Int) (S:ByteArray) (w:World) (h:Ao W0 s x w) (_hs:s≤69999):
  Calls Tryz.prog 55 #[.pointer (some ⟨x.p,0,none⟩),.pointer (some ⟨(x.prs[k]).a,0,none⟩),AB 12 A B C S] w (Cc W0 x.p (s+1)):=by
 have hat:=h.pair_at k hk;have hend:Hid (∀wx (b:Bool),Aa w wx→Cc W0 x.p (s+1) (.returned (.bool b)) wx):=fun wx b hb=>⟨b,rfl,x,(h.later hb).up (by omega),rfl⟩
 have hsvc:=fun wx (b:Aa w wx)=>Tu B (hat.2.1.later b)
 have hput:=fun (t:ByteArray) (ht:t.size≤16777216) wx (b:Aa w wx)=>LH W0 s x k hk t wx (h.later b) (by omega) (by omega)
 have hpoM:w.heap.size∉x.M:=fun e=>by have:=(h.2.2.2.2.1 _ e).2;omega
 generalize x.M=M0 at *;generalize x.prs[k]=y at *;generalize x.p=p at *;have c0:=hat.1.1 0 _ rfl;have c9:=hat.1.1 9 _ rfl;have hrow:=hat.2.2.2.2.2.2.2.1;have hps:=hat.2.2.2.2.2.2.2.2.2;have hlen:=hat.2.2.2.2.2.2.2.2.1;have hal:=jF c0;simp only at hal;obtain ⟨ao,cap,hv⟩:=CP hrow;clear h hat;by_cases hin:0≤B∧B<y.ps.length
 ·obtain ⟨m,rfl⟩:=jM hin.1;have hml:m<y.ps.length:=by omega
  obtain ⟨g,cap',hv', -,hgl,hc⟩:=Fo hrow (by omega);rw [hv] at hv';simp only [Value.slice.injEq,true_and] at hv';obtain ⟨rfl,rfl⟩:=hv';have cm:w.cell? ⟨g,m,none⟩=some (.pointer (some ⟨(y.ps[m]).p,0,none⟩)):=(hc m hml).trans (by simp [hml]);have hpl:=hps _ (jJ hml);have hmb:decide ((m:Int)<(y.ps.length:Int))=true:=jL (by omega);rw [hv] at c9
  have hpz := fun t ht wx (b : Aa w wx) => (hput t ht wx b).mono (fun e w' hr => (show QA W0 (s + 1) p (y.ps[m]) e w' from by
    obtain ⟨h1, ⟨x', h2, h3, h4⟩, -⟩ := hr
    exact ⟨h1, x', h2, h3, h4.2.2.2.2.2.2.2.2.2 _ (jJ hml)⟩))
  clear hput;clear hc hps;clear hrow;generalize y.ps[m]=z at *;generalize y.ps.length=n at *;obtain ⟨hz,hsp,hze,hzf,hzg,hzn,⟨hg,hzh⟩,hzb⟩:=hpl.open;clear hz hsp hze hzf hzg hzn hzh hzb;clear hpl;unfold AB;go_enter Tryz.func55,Tryz.ntmps55;go_wp2_with fail;obtain ⟨wo,hwo,hbo,o0,o1,o2,o3,o4⟩:=BV w (.int .i64 12) (.int .i64 A) (.int .i64 (m:Int)) (.int .i64 C) (.string S) 32;rw [hwo];clear hwo;have k0:=hbo.cell c0;have k9:=hbo.cell c9;have km:=hbo.cell cm;have hgo:g<wo.heap.size:=jF km;have hao:y.a<wo.heap.size:=jF k0;have hpo:w.heap.size<wo.heap.size:=jF o0;generalize w.heap.size=po at o0 o1 o2 o3 o4 hpoM hpo ⊢;go_quiet (fail);go_wp2_with fail;go_quiet (fail);go_wp2_with fail;go_region_held3 (fun w'=>Aa wo w'∧w'.cell? ⟨y.a,0,none⟩=some (.pointer (some ⟨y.q,0,none⟩))∧w'.cell? ⟨po,2,none⟩=some (.int .i64 (m:Int))) ((exact ⟨by solve_by_elim [jA,jB,jC,jD,jE],Aa.cell (a:=wo) (by solve_by_elim [jA,jB,jC,jD,jE]) k0,Aa.cell (a:=wo) (by solve_by_elim [jA,jB,jC,jD,jE]) o2⟩)) ((go_at_call 29;refine (hsvc _ (by solve_by_elim [jA,jB,jC,jD,jE])).mono ?_;rintro e w1 ⟨t1,n1,rfl,hw1,ht1⟩;have hb1:Aa wo w1:=(by (repeat (first|exact jD _|assumption|refine jA ?_|refine jB ?_|refine jC ?_|refine Aa.step_set ?_ (by simp <;>omega) _|refine jE ?_ (by assumption))));clear hw1));have hbw1:=hbo.trans hb1;clear hb1 hbo k0 k9 km o0 o1 o2 o3 o4;go_wp2_with fail;refine (hpz t1 ht1 _ (by solve_by_elim [jA,jB,jC,jD,jE])).mono ?_;rintro e w2 ⟨rfl,x2,h2,hp2,hz2⟩;obtain ⟨hz,hsp,hze,hzf,hzg,hzn,⟨hg,hzh⟩,hzb⟩:=hz2.open;have has:=Vq z.p z.speaks z.has hg z.gen z.format z.got z.ng z.no w2 hz hzh ⟨by omega,by omega⟩ hze hzf hzg hzn;have H2:Hid (∀wx (b:Bool),Aa w2 wx→Cc W0 p (s+1) (.returned (.bool b)) wx):=fun wx b hb=>⟨b,rfl,x2,h2.later hb,hp2⟩
  clear hpz h2 hz2 hz hzh hzg;go_wp2_with fail;refine has.mono ?_;rintro e w3 ⟨q,rfl,hb3, -⟩;clear has;go_wp2
  all_goals
   go_ret;exact H2.out _ _ (by solve_by_elim [jA,jB,jC,jD,jE])
 ·have hnone:∀b,decide (0≤B)=b→(b=true→decide (B<(y.ps.length:Int))=false):=fun b h1 h2=>by
   rw [h2] at h1;have:=of_decide_eq_true h1;exact jK (fun h3=>hin ⟨this,h3⟩)
  rw [hv] at c9
  clear hrow hps hput
  generalize y.ps.length=n at *
  unfold AB
  go_enter Tryz.func55,Tryz.ntmps55
  go_wp2_with fail
  obtain ⟨wo,hwo,hbo,o0,o1,o2,o3,o4⟩:=BV w (.int .i64 12) (.int .i64 A) (.int .i64 B) (.int .i64 C) (.string S) 32
  rw [hwo]
  clear hwo
  have k0:=hbo.cell c0
  have k9:=hbo.cell c9
  have hao:y.a<wo.heap.size:=jF k0
  have hpo:w.heap.size<wo.heap.size:=jF o0
  generalize w.heap.size=po at o0 o1 o2 o3 o4 hpoM hpo ⊢
  have h01:decide (0≤B)=false∨(decide (0≤B)=true∧decide (B<(n:Int))=false):=by
   cases h0:decide (0≤B)
   ·exact Or.inl rfl
   ·exact Or.inr ⟨rfl,hnone _ h0 rfl⟩
  clear hnone hin
  rcases h01 with h0|⟨h0,h1⟩
  all_goals
   go_quiet (fail)
   go_wp2_with fail
   go_region_held3 (fun w'=>Aa wo w'∧w'.cell? ⟨y.a,0,none⟩=some (.pointer (some ⟨y.q,0,none⟩))∧w'.cell? ⟨po,2,none⟩=some (.int .i64 B)) ((exact ⟨by solve_by_elim [jA,jB,jC,jD,jE],Aa.cell (a:=wo) (by solve_by_elim [jA,jB,jC,jD,jE]) k0,Aa.cell (a:=wo) (by solve_by_elim [jA,jB,jC,jD,jE]) o2⟩)) ((go_at_call 29;refine (hsvc _ (by solve_by_elim [jA,jB,jC,jD,jE])).mono ?_;rintro e w1 ⟨t1,n1,rfl,hw1,ht1⟩;have hb1:Aa wo w1:=(by (repeat (first|exact jD _|assumption|refine jA ?_|refine jB ?_|refine jC ?_|refine Aa.step_set ?_ (by simp <;>omega) _|refine jE ?_ (by assumption))));clear hw1))
   go_wp2
   all_goals
    go_ret
    exact hend.out _ _ (hbo.trans (by solve_by_elim [jA,jB,jC,jD,jE]))
theorem Wp (W0:Aw) (s:Nat) (x:WG) (k:Nat) (hk:k<x.prs.length) (A B C:Int) (S:ByteArray) (w:World) (h:Ao W0 s x w) (_hs:s≤69999) (hC:Aj C):
  Calls Tryz.prog 55 #[.pointer (some ⟨x.p,0,none⟩),.pointer (some ⟨(x.prs[k]).a,0,none⟩),AB 14 A B C S] w (Cc W0 x.p (s+1)):=by
 have hat:=h.pair_at k hk;have hend:Hid (∀wx (b:Bool),Aa w wx→Cc W0 x.p (s+1) (.returned (.bool b)) wx):=fun wx b hb=>⟨b,rfl,x,(h.later hb).up (by omega),rfl⟩
 have hD:=h.dpre k hk _hs;have hev:=h.even k hk;have hsvn:=fun (hin:¬(0≤B∧B<(x.prs[k]).pp.length)) (t:ByteArray) wx (b:Aa w wx)=>VS B t (hat.2.1.later b) hin
 have hrp:Hid (∀wx (b:Bool),El W0.heap.size x.M x.prs[k] w wx→Cc W0 x.p (s+1) (.returned (.bool b)) wx):=fun wx b hr=>by
  obtain ⟨x',h',hp⟩:=h.rpr k hk hr;exact ⟨b,rfl,x',h',hp⟩
 have hwat:=fun wx (b:Aa w wx)=>FI W0 s x C wx (h.later b) (by omega) hC
 have hpoM:w.heap.size∉x.M:=fun e=>by have:=(h.2.2.2.2.1 _ e).2;omega
 generalize x.M=M0 at *;generalize x.prs[k]=y at *;generalize x.p=p at *;have c0:=hat.1.1 0 _ rfl;have c9:=hat.1.1 9 _ rfl;have hrow:=hat.2.2.2.2.2.2.2.1;have hps:=hat.2.2.2.2.2.2.2.2.2;have hlen:=hat.2.2.2.2.2.2.2.2.1;have hal:=jF c0;simp only at hal;obtain ⟨ao,cap,hv⟩:=CP hrow;clear h hat;by_cases hin:0≤B∧B<y.ps.length
 ·obtain ⟨m,rfl⟩:=jM hin.1;have hml:m<y.ps.length:=by omega
  obtain ⟨g,cap',hv', -,hgl,hc⟩:=Fo hrow (by omega);rw [hv] at hv';simp only [Value.slice.injEq,true_and] at hv';obtain ⟨rfl,rfl⟩:=hv';have cm:w.cell? ⟨g,m,none⟩=some (.pointer (some ⟨(y.ps[m]).p,0,none⟩)):=(hc m hml).trans (by simp [hml]);have hpl:=hps _ (jJ hml);have hmb:decide ((m:Int)<(y.ps.length:Int))=true:=jL (by omega);rw [hv] at c9;have HD:=jp hD;have HEV:=jp hev;have hrv:=fun (t:ByteArray) (ht:t.size≤1099511627776) wx (b:Aa w wx)=>HD.out.receive (show m<y.pp.length by have:y.pp.length=y.ps.length:=hev;omega) t ht wx b
  clear hD hev hsvn hrow;clear hc hps;clear hpl;unfold AB;go_enter Tryz.func55,Tryz.ntmps55;go_wp2_with fail;obtain ⟨wo,hwo,hbo,o0,o1,o2,o3,o4⟩:=BV w (.int .i64 14) (.int .i64 A) (.int .i64 (m:Int)) (.int .i64 C) (.string S) 32;rw [hwo];clear hwo;have k0:=hbo.cell c0;have k9:=hbo.cell c9;have km:=hbo.cell cm;have hgo:g<wo.heap.size:=jF km;have hao:y.a<wo.heap.size:=jF k0;have hpo:w.heap.size<wo.heap.size:=jF o0;generalize w.heap.size=po at o0 o1 o2 o3 o4 hpoM hpo ⊢;go_quiet (fail);go_wp2_with fail;go_quiet (fail);go_wp2_with fail;refine (hwat _ (hbo.trans (by solve_by_elim [jA,jB,jC,jD,jE]))).mono ?_;rintro e w3 ⟨f,rfl,hb3,hsf⟩;have hbo3:Aa wo w3:=by (repeat (first|exact jD _|assumption|refine jA ?_|refine jB ?_|refine jC ?_|refine Aa.step_set ?_ (by simp <;>omega) _|refine jE ?_ (by assumption)))
  have j0:=hbo3.cell k0;have j2:=hbo3.cell o2;have hbw3:=hbo.trans hbo3;clear hwat hb3 hbo hbo3 k0 k9 km o0 o1 o2 o3 o4;go_wp2_with fail;go_region_held3 (fun w'=>w'.cell? ⟨y.a,0,none⟩=some (.pointer (some ⟨y.q,0,none⟩))∧w'.cell? ⟨po,2,none⟩=some (.int .i64 (m:Int))) ((first|exact ⟨l0,l2⟩|exact ⟨Aa.cell (a:=w3) (by solve_by_elim [jA,jB,jC,jD,jE]) j0,Aa.cell (a:=w3) (by solve_by_elim [jA,jB,jC,jD,jE]) j2⟩)) ((go_at_call 31;refine (hrv f hsf _ (by solve_by_elim [jA,jB,jC,jD,jE])).mono ?_;rintro e w1 ⟨rfl,hlk1,pp',hq1,hpp1⟩;have l2:=hlk1 ⟨po,2,none⟩ _ hpoM (Aa.cell (a:=w3) (by solve_by_elim [jA,jB,jC,jD,jE]) j2);obtain ⟨M1,hat1⟩:=hq1.at;have l0:w1.cell? ⟨y.a,0,none⟩=some (.pointer (some ⟨y.q,0,none⟩)):=hat1.1.1 0 _ rfl));have hz1:=(show (y.ps[m]).At M1 w1 from hat1.2.2.2.2.2.2.2.2.2 _ (jJ hml))
  have HC:Hid (∀wx e w',Aa w1 wx→Jy wx (y.ps[m]).p (y.ps[m]).speaks (y.ps[m]).has (y.ps[m]).got e w'→El W0.heap.size M0 y w w'):=fun wx e w' b hr=>by
   refine HD.out.thenE hq1 rfl (fun M' hD'=>?_);obtain ⟨z',hz'⟩:=hD'.comes hml b hr;refine ⟨_,hz',?_⟩;show pp'.length=(y.ps.set m z').length;rw [List.length_set,hpp1];exact HEV.out
  clear hat1 hq1 hpp1 HD HEV hrv j0 j2 hbw3 l0 l2 hlk1;generalize y.ps[m]=z at *;obtain ⟨hz,hsp,hze,hzf,hzg,hzn,⟨hg,hzh⟩,hzb⟩:=hz1.open;have hcm1:=fun wx (b:Aa w1 wx)=>Yz z.p z.speaks z.has hg z.gen z.format z.got z.ng z.no f wx (hz.later b) (hzh.later b) hze hzf (hzg.later b) hzn hzb hsf
  clear hz1 hz hsp hze hzf hzg hzn hzh hzb;go_wp2_with fail;refine (hcm1 _ (by solve_by_elim [jA,jB,jC,jD,jE])).mono ?_;intro e w4 hr;have HR:=jp (fun b=>hrp.out w4 b (HC.out _ e w4 (by solve_by_elim [jA,jB,jC,jD,jE]) hr));obtain ⟨rfl, -⟩:=hr;clear hcm1 HC hrp;go_wp2
  all_goals
   go_ret;exact HR.out _
 ·have hnone:∀b,decide (0≤B)=b→(b=true→decide (B<(y.ps.length:Int))=false):=fun b h1 h2=>by
   rw [h2] at h1;have:=of_decide_eq_true h1;exact jK (fun h3=>hin ⟨this,h3⟩)
  rw [hv] at c9
  have hsvn:=hsvn (by have:y.pp.length=y.ps.length:=hev;omega)
  clear hrow hps hD hev hrp
  generalize y.ps.length=n at *
  unfold AB
  go_enter Tryz.func55,Tryz.ntmps55
  go_wp2_with fail
  obtain ⟨wo,hwo,hbo,o0,o1,o2,o3,o4⟩:=BV w (.int .i64 14) (.int .i64 A) (.int .i64 B) (.int .i64 C) (.string S) 32
  rw [hwo]
  clear hwo
  have k0:=hbo.cell c0
  have k9:=hbo.cell c9
  have hao:y.a<wo.heap.size:=jF k0
  have hpo:w.heap.size<wo.heap.size:=jF o0
  generalize w.heap.size=po at o0 o1 o2 o3 o4 hpoM hpo ⊢
  have h01:decide (0≤B)=false∨(decide (0≤B)=true∧decide (B<(n:Int))=false):=by
   cases h0:decide (0≤B)
   ·exact Or.inl rfl
   ·exact Or.inr ⟨rfl,hnone _ h0 rfl⟩
  clear hnone hin
  rcases h01 with h0|⟨h0,h1⟩
  all_goals
   go_quiet (fail)
   go_wp2_with fail
   refine (hwat _ (hbo.trans (by solve_by_elim [jA,jB,jC,jD,jE]))).mono ?_
   rintro e w3 ⟨f,rfl,hb3,hsf⟩
   have hbo3:Aa wo w3:=by solve_by_elim [jA,jB,jC,jD,jE]
   have j0:=hbo3.cell k0
   have j2:=hbo3.cell o2
   have hbw3:=hbo.trans hbo3
   clear hwat hb3
   go_wp2_with fail
   go_region_held3 (fun w'=>Aa w3 w'∧w'.cell? ⟨y.a,0,none⟩=some (.pointer (some ⟨y.q,0,none⟩))∧w'.cell? ⟨po,2,none⟩=some (.int .i64 B)) ((exact ⟨by solve_by_elim [jA,jB,jC,jD,jE],Aa.cell (a:=w3) (by solve_by_elim [jA,jB,jC,jD,jE]) j0,Aa.cell (a:=w3) (by solve_by_elim [jA,jB,jC,jD,jE]) j2⟩)) ((go_at_call 31;refine (hsvn f _ (by solve_by_elim [jA,jB,jC,jD,jE])).mono ?_;rintro e w1 ⟨rfl,hw1⟩;have hb1:Aa w3 w1:=(by solve_by_elim [jA,jB,jC,jD,jE]);clear hw1))
   go_wp2
   all_goals
    go_ret
    exact hend.out _ _ (hbw3.trans (by solve_by_elim [jA,jB,jC,jD,jE]))
theorem Xz (W0:Aw) (s:Nat) (x:WG) (k:Nat) (hk:k<x.prs.length) (A B C:Int) (S:ByteArray) (w:World) (h:Ao W0 s x w) (_hs:s≤69999):
  Calls Tryz.prog 55 #[.pointer (some ⟨x.p,0,none⟩),.pointer (some ⟨(x.prs[k]).a,0,none⟩),AB 15 A B C S] w (Cc W0 x.p (s+1)):=by
 have hat:=h.pair_at k hk;have hend:Hid (∀wx (b:Bool),Aa w wx→Cc W0 x.p (s+1) (.returned (.bool b)) wx):=fun wx b hb=>⟨b,rfl,x,(h.later hb).up (by omega),rfl⟩
 have hD:=h.dpre k hk _hs;have hev:=h.even k hk;have hsvn:=fun (hin:¬(0≤B∧B<(x.prs[k]).pp.length)) wx (b:Aa w wx)=>YO B (hat.2.1.later b) hin
 have hrp:Hid (∀wx (b:Bool),El W0.heap.size x.M x.prs[k] w wx→Cc W0 x.p (s+1) (.returned (.bool b)) wx):=fun wx b hr=>by
  obtain ⟨x',h',hp⟩:=h.rpr k hk hr;exact ⟨b,rfl,x',h',hp⟩
 have hpoM:w.heap.size∉x.M:=fun e=>by have:=(h.2.2.2.2.1 _ e).2;omega
 generalize x.M=M0 at *;generalize x.prs[k]=y at *;generalize x.p=p at *;have c0:=hat.1.1 0 _ rfl;have c9:=hat.1.1 9 _ rfl;have hrow:=hat.2.2.2.2.2.2.2.1;have hps:=hat.2.2.2.2.2.2.2.2.2;have hlen:=hat.2.2.2.2.2.2.2.2.1;have hal:=jF c0;simp only at hal;obtain ⟨ao,cap,hv⟩:=CP hrow;clear h hat;by_cases hin:0≤B∧B<y.ps.length
 ·obtain ⟨m,rfl⟩:=jM hin.1;have hml:m<y.ps.length:=by omega
  obtain ⟨g,cap',hv', -,hgl,hc⟩:=Fo hrow (by omega);rw [hv] at hv';simp only [Value.slice.injEq,true_and] at hv';obtain ⟨rfl,rfl⟩:=hv';have cm:w.cell? ⟨g,m,none⟩=some (.pointer (some ⟨(y.ps[m]).p,0,none⟩)):=(hc m hml).trans (by simp [hml]);have hpl:=hps _ (jJ hml);have hmb:decide ((m:Int)<(y.ps.length:Int))=true:=jL (by omega);rw [hv] at c9;have HD:=jp hD;have HEV:=jp hev;have hrv:=fun wx (b:Aa w wx)=>HD.out.restartP (show m<y.pp.length by have:y.pp.length=y.ps.length:=hev;omega) wx b
  clear hD hev hsvn hrow;clear hc hps;clear hpl;unfold AB;go_enter Tryz.func55,Tryz.ntmps55;go_wp2_with fail;obtain ⟨wo,hwo,hbo,o0,o1,o2,o3,o4⟩:=BV w (.int .i64 15) (.int .i64 A) (.int .i64 (m:Int)) (.int .i64 C) (.string S) 32;rw [hwo];clear hwo;have k0:=hbo.cell c0;have k9:=hbo.cell c9;have km:=hbo.cell cm;have hgo:g<wo.heap.size:=jF km;have hao:y.a<wo.heap.size:=jF k0;have hpo:w.heap.size<wo.heap.size:=jF o0;generalize w.heap.size=po at o0 o1 o2 o3 o4 hpoM hpo ⊢;go_quiet (fail);go_wp2_with fail;go_quiet (fail);go_wp2_with fail;go_region_held3 (fun w'=>w'.cell? ⟨y.a,0,none⟩=some (.pointer (some ⟨y.q,0,none⟩))∧w'.cell? ⟨po,2,none⟩=some (.int .i64 (m:Int))) ((first|exact ⟨l0,l2⟩|exact ⟨Aa.cell (a:=wo) (by solve_by_elim [jA,jB,jC,jD,jE]) k0,Aa.cell (a:=wo) (by solve_by_elim [jA,jB,jC,jD,jE]) o2⟩)) ((go_at_call 78;refine (hrv _ (by solve_by_elim [jA,jB,jC,jD,jE])).mono ?_;rintro e w1 ⟨rfl,hlk1,pp',hq1,hpp1⟩;have l2:=hlk1 ⟨po,2,none⟩ _ hpoM (Aa.cell (a:=wo) (by solve_by_elim [jA,jB,jC,jD,jE]) o2);obtain ⟨M1,hat1⟩:=hq1.at;have l0:w1.cell? ⟨y.a,0,none⟩=some (.pointer (some ⟨y.q,0,none⟩)):=hat1.1.1 0 _ rfl));have j9:w1.cell? ⟨y.a,9,none⟩=some y.vp:=hat1.1.1 9 _ rfl;have hrow1:w1.ownsRow W0.heap.size 134 1 y.vp y.ps.length (y.ps.map fun z=>Value.pointer (some ⟨z.p,0,none⟩)):=hat1.2.2.2.2.2.2.2.1;have hz1:=(show (y.ps[m]).At M1 w1 from hat1.2.2.2.2.2.2.2.2.2 _ (jJ hml));obtain ⟨g1,cap1,hv1, -, -,hc1⟩:=Fo hrow1 (by omega);rw [hv] at hv1;simp only [Value.slice.injEq,true_and,Option.some.injEq,Addr.mk.injEq,and_true] at hv1;obtain ⟨rfl,rfl⟩:=hv1;have jm:w1.cell? ⟨g,m,none⟩=some (.pointer (some ⟨(y.ps[m]).p,0,none⟩)):=(hc1 m hml).trans (by simp [hml]);have jf:=World.ownsRow.frozenAt (hv ▸ hrow1) m;have z0:=hz1.1.1.1;have hsp:=hz1.2.1;rw [hv] at j9;have hpa1:po<w1.heap.size:=jF l2;have hya1:y.a<w1.heap.size:=jF j9;have hga1:g<w1.heap.size:=jF jm;have hza1:(y.ps[m]).p<w1.heap.size:=jF z0
  have HW:Hid (El W0.heap.size M0 y w ((w1.setCell ⟨g,m,none⟩ (.pointer (some ⟨w1.heap.size,0,none⟩))).alloc (.cells #[.int .i64 (y.ps[m]).speaks,.pointer none,.int .i64 0,.int .i64 0,.slice none 0 0,.bool false] 136))):=by
   show El _ _ _ _ _;rw [Wu _ _ _ _ hga1];have hpn:BX (w1.alloc (.cells #[.int .i64 (y.ps[m]).speaks,.pointer none,.int .i64 0,.int .i64 0,.slice none 0 0,.bool false] 136)) w1.heap.size (y.ps[m]).speaks (.pointer none) 0 0 (.slice none 0 0) false:=⟨⟨by simp,by simp,by simp,by simp,by simp,by simp⟩,fun j=>by simp⟩;refine ⟨_,HD.out.then hq1 rfl (fun M' hD'=>hD'.restart (pz:=w1.heap.size) (f:=(y.ps[m]).speaks) (Aa.step_alloc (jD _) _) (jH _) (by simp) hpn hsp hml hv),?_⟩;show pp'.length=(y.ps.set m _).length;rw [List.length_set,hpp1];exact HEV.out
  clear hat1 hq1 hpp1 HD HEV hrv hrow1 hc1 hz1 hlk1 hbo k0 k9 km o0 o1 o2 o3 o4 c0 c9 cm;generalize y.ps[m]=z at *;generalize y.ps.length=n at *;go_wp2_with fail;go_region
  all_goals
   have HF:=jp (fun b=>hrp.out _ b (HW.out.later (jB (jD _))));clear HW hrp;go_wp2
   all_goals
    go_ret
    first|exact HF.out _|exact hrp.out _ _ (HW.out.later (by solve_by_elim [jA,jB,jC,jD,jE]))
 ·have hnone:∀b,decide (0≤B)=b→(b=true→decide (B<(y.ps.length:Int))=false):=fun b h1 h2=>by
   rw [h2] at h1;have:=of_decide_eq_true h1;exact jK (fun h3=>hin ⟨this,h3⟩)
  rw [hv] at c9
  have hsvn:=hsvn (by have:y.pp.length=y.ps.length:=hev;omega)
  clear hrow hps hD hev hrp
  generalize y.ps.length=n at *
  unfold AB
  go_enter Tryz.func55,Tryz.ntmps55
  go_wp2_with fail
  obtain ⟨wo,hwo,hbo,o0,o1,o2,o3,o4⟩:=BV w (.int .i64 15) (.int .i64 A) (.int .i64 B) (.int .i64 C) (.string S) 32
  rw [hwo]
  clear hwo
  have k0:=hbo.cell c0
  have k9:=hbo.cell c9
  have hao:y.a<wo.heap.size:=jF k0
  have hpo:w.heap.size<wo.heap.size:=jF o0
  generalize w.heap.size=po at o0 o1 o2 o3 o4 hpoM hpo ⊢
  have h01:decide (0≤B)=false∨(decide (0≤B)=true∧decide (B<(n:Int))=false):=by
   cases h0:decide (0≤B)
   ·exact Or.inl rfl
   ·exact Or.inr ⟨rfl,hnone _ h0 rfl⟩
  clear hnone hin
  rcases h01 with h0|⟨h0,h1⟩
  all_goals
   go_quiet (fail)
   go_wp2_with fail
   go_region_held3 (fun w'=>Aa wo w'∧w'.cell? ⟨y.a,0,none⟩=some (.pointer (some ⟨y.q,0,none⟩))∧w'.cell? ⟨po,2,none⟩=some (.int .i64 B)) ((exact ⟨by solve_by_elim [jA,jB,jC,jD,jE],Aa.cell (a:=wo) (by solve_by_elim [jA,jB,jC,jD,jE]) k0,Aa.cell (a:=wo) (by solve_by_elim [jA,jB,jC,jD,jE]) o2⟩)) ((go_at_call 78;refine (hsvn _ (by solve_by_elim [jA,jB,jC,jD,jE])).mono ?_;rintro e w1 ⟨rfl,hw1⟩;have hb1:Aa wo w1:=(by (repeat (first|exact jD _|assumption|refine jA ?_|refine jB ?_|refine jC ?_|refine Aa.step_set ?_ (by simp <;>omega) _|refine jE ?_ (by assumption))));clear hw1))
   go_wp2
   all_goals
    go_ret
    exact hend.out _ _ (hbo.trans (by solve_by_elim [jA,jB,jC,jD,jE]))
theorem WA (W0:Aw) (s:Nat) (x:WG) (k:Nat) (hk:k<x.prs.length) (A B C:Int) (S:ByteArray) (w:World) (h:Ao W0 s x w) (_hs:s≤69999):
  Calls Tryz.prog 55 #[.pointer (some ⟨x.p,0,none⟩),.pointer (some ⟨(x.prs[k]).a,0,none⟩),AB 16 A B C S] w (Cc W0 x.p (s+1)):=by
 have hat:=h.pair_at k hk;have hend:Hid (∀wx (b:Bool),Aa w wx→Cc W0 x.p (s+1) (.returned (.bool b)) wx):=fun wx b hb=>⟨b,rfl,x,(h.later hb).up (by omega),rfl⟩
 have hsvc:=fun wx (b:Aa w wx)=>RW B (hat.2.1.later b)
 have hpoM:w.heap.size∉x.M:=fun e=>by have:=(h.2.2.2.2.1 _ e).2;omega
 generalize x.M=M0 at *;generalize x.prs[k]=y at *;generalize x.p=p at *;have c0:=hat.1.1 0 _ rfl;have c9:=hat.1.1 9 _ rfl;have hrow:=hat.2.2.2.2.2.2.2.1;have hps:=hat.2.2.2.2.2.2.2.2.2;have hlen:=hat.2.2.2.2.2.2.2.2.1;have hal:=jF c0;simp only at hal;obtain ⟨ao,cap,hv⟩:=CP hrow;clear h hat;by_cases hin:0≤B∧B<y.ps.length
 ·obtain ⟨m,rfl⟩:=jM hin.1;have hml:m<y.ps.length:=by omega
  obtain ⟨g,cap',hv', -,hgl,hc⟩:=Fo hrow (by omega);rw [hv] at hv';simp only [Value.slice.injEq,true_and] at hv';obtain ⟨rfl,rfl⟩:=hv';have cm:w.cell? ⟨g,m,none⟩=some (.pointer (some ⟨(y.ps[m]).p,0,none⟩)):=(hc m hml).trans (by simp [hml]);have hpl:=hps _ (jJ hml);have hmb:decide ((m:Int)<(y.ps.length:Int))=true:=jL (by omega);rw [hv] at c9;clear hc hps;clear hrow;generalize y.ps[m]=z at *;generalize y.ps.length=n at *;obtain ⟨hz,hsp,hze,hzf,hzg,hzn,⟨hg,hzh⟩,hzb⟩:=hpl.open;have hgen:=fun wx (b:Aa w wx)=>LC z.p z.speaks z.has hg z.gen z.format z.got z.no wx (hz.later b) (hzh.later b)
  have z5c:=hz.1.2.2.2.2.2;clear hzh;clear hpl;unfold AB;go_enter Tryz.func55,Tryz.ntmps55;go_wp2_with fail;obtain ⟨wo,hwo,hbo,o0,o1,o2,o3,o4⟩:=BV w (.int .i64 16) (.int .i64 A) (.int .i64 (m:Int)) (.int .i64 C) (.string S) 32;rw [hwo];clear hwo;have k0:=hbo.cell c0;have k9:=hbo.cell c9;have km:=hbo.cell cm;have hgo:g<wo.heap.size:=jF km;have hao:y.a<wo.heap.size:=jF k0;have hpo:w.heap.size<wo.heap.size:=jF o0;generalize w.heap.size=po at o0 o1 o2 o3 o4 hpoM hpo ⊢;go_quiet (fail);go_wp2_with fail;go_quiet (fail);go_wp2_with fail;go_region_held3 (fun w'=>Aa wo w'∧w'.cell? ⟨y.a,0,none⟩=some (.pointer (some ⟨y.q,0,none⟩))∧w'.cell? ⟨po,2,none⟩=some (.int .i64 (m:Int))) ((exact ⟨by solve_by_elim [jA,jB,jC,jD,jE],Aa.cell (a:=wo) (by solve_by_elim [jA,jB,jC,jD,jE]) k0,Aa.cell (a:=wo) (by solve_by_elim [jA,jB,jC,jD,jE]) o2⟩)) ((go_at_call 32;refine (hsvc _ (by solve_by_elim [jA,jB,jC,jD,jE])).mono ?_;rintro e w1 ⟨g1,n1,rfl,hw1⟩;have hb1:Aa wo w1:=(by (repeat (first|exact jD _|assumption|refine jA ?_|refine jB ?_|refine jC ?_|refine Aa.step_set ?_ (by simp <;>omega) _|refine jE ?_ (by assumption))));clear hw1));have hbw1:=hbo.trans hb1;have z5:=hbw1.cell z5c;clear hb1 hbo k0 k9 km o0 o1 o2 o3 o4;go_wp2_with fail;refine (hgen _ (by solve_by_elim [jA,jB,jC,jD,jE])).mono ?_;rintro e w2 ⟨rfl,rfl⟩;clear hgen;cases hno:z.no
  all_goals
   rw [hno] at z5;go_wp2
   all_goals
    go_ret;exact hend.out _ _ (by solve_by_elim [jA,jB,jC,jD,jE])
 ·have hnone:∀b,decide (0≤B)=b→(b=true→decide (B<(y.ps.length:Int))=false):=fun b h1 h2=>by
   rw [h2] at h1;have:=of_decide_eq_true h1;exact jK (fun h3=>hin ⟨this,h3⟩)
  rw [hv] at c9
  clear hrow hps
  generalize y.ps.length=n at *
  unfold AB
  go_enter Tryz.func55,Tryz.ntmps55
  go_wp2_with fail
  obtain ⟨wo,hwo,hbo,o0,o1,o2,o3,o4⟩:=BV w (.int .i64 16) (.int .i64 A) (.int .i64 B) (.int .i64 C) (.string S) 32
  rw [hwo]
  clear hwo
  have k0:=hbo.cell c0
  have k9:=hbo.cell c9
  have hao:y.a<wo.heap.size:=jF k0
  have hpo:w.heap.size<wo.heap.size:=jF o0
  generalize w.heap.size=po at o0 o1 o2 o3 o4 hpoM hpo ⊢
  have h01:decide (0≤B)=false∨(decide (0≤B)=true∧decide (B<(n:Int))=false):=by
   cases h0:decide (0≤B)
   ·exact Or.inl rfl
   ·exact Or.inr ⟨rfl,hnone _ h0 rfl⟩
  clear hnone hin
  rcases h01 with h0|⟨h0,h1⟩
  all_goals
   go_quiet (fail)
   go_wp2_with fail
   go_region_held3 (fun w'=>Aa wo w'∧w'.cell? ⟨y.a,0,none⟩=some (.pointer (some ⟨y.q,0,none⟩))∧w'.cell? ⟨po,2,none⟩=some (.int .i64 B)) ((exact ⟨by solve_by_elim [jA,jB,jC,jD,jE],Aa.cell (a:=wo) (by solve_by_elim [jA,jB,jC,jD,jE]) k0,Aa.cell (a:=wo) (by solve_by_elim [jA,jB,jC,jD,jE]) o2⟩)) ((go_at_call 32;refine (hsvc _ (by solve_by_elim [jA,jB,jC,jD,jE])).mono ?_;rintro e w1 ⟨g1,n1,rfl,hw1⟩;have hb1:Aa wo w1:=(by (repeat (first|exact jD _|assumption|refine jA ?_|refine jB ?_|refine jC ?_|refine Aa.step_set ?_ (by simp <;>omega) _|refine jE ?_ (by assumption))));clear hw1))
   go_wp2
   all_goals
    go_ret
    exact hend.out _ _ (hbo.trans (by solve_by_elim [jA,jB,jC,jD,jE]))
theorem Sz (W0:Aw) (s:Nat) (x:WG) (k:Nat) (hk:k<x.prs.length) (A B C:Int) (S:ByteArray) (w:World) (h:Ao W0 s x w) (_hs:s≤69999) (hS:S.size≤65536):
  Calls Tryz.prog 55 #[.pointer (some ⟨x.p,0,none⟩),.pointer (some ⟨(x.prs[k]).a,0,none⟩),AB 17 A B C S] w (Cc W0 x.p (s+1)):=by
 have hat:=h.pair_at k hk;have hend:Hid (∀wx (b:Bool),Aa w wx→Cc W0 x.p (s+1) (.returned (.bool b)) wx):=fun wx b hb=>⟨b,rfl,x,(h.later hb).up (by omega),rfl⟩
 have hsvc:=fun wx (b:Aa w wx)=>XR B S (hat.2.1.later b) (by omega)
 have hpoM:w.heap.size∉x.M:=fun e=>by have:=(h.2.2.2.2.1 _ e).2;omega
 generalize x.M=M0 at *;generalize x.prs[k]=y at *;generalize x.p=p at *;have c0:=hat.1.1 0 _ rfl;have c9:=hat.1.1 9 _ rfl;have hrow:=hat.2.2.2.2.2.2.2.1;have hps:=hat.2.2.2.2.2.2.2.2.2;have hlen:=hat.2.2.2.2.2.2.2.2.1;have hal:=jF c0;simp only at hal;obtain ⟨ao,cap,hv⟩:=CP hrow;clear h hat;by_cases hin:0≤B∧B<y.ps.length
 ·obtain ⟨m,rfl⟩:=jM hin.1;have hml:m<y.ps.length:=by omega
  obtain ⟨g,cap',hv', -,hgl,hc⟩:=Fo hrow (by omega);rw [hv] at hv';simp only [Value.slice.injEq,true_and] at hv';obtain ⟨rfl,rfl⟩:=hv';have cm:w.cell? ⟨g,m,none⟩=some (.pointer (some ⟨(y.ps[m]).p,0,none⟩)):=(hc m hml).trans (by simp [hml]);have hpl:=hps _ (jJ hml);have hmb:decide ((m:Int)<(y.ps.length:Int))=true:=jL (by omega);rw [hv] at c9;clear hc hps;clear hrow;generalize y.ps[m]=z at *;generalize y.ps.length=n at *;obtain ⟨hz,hsp,hze,hzf,hzg,hzn,⟨hg,hzh⟩,hzb⟩:=hpl.open;clear hpl;unfold AB;go_enter Tryz.func55,Tryz.ntmps55;go_wp2_with fail;obtain ⟨wo,hwo,hbo,o0,o1,o2,o3,o4⟩:=BV w (.int .i64 17) (.int .i64 A) (.int .i64 (m:Int)) (.int .i64 C) (.string S) 32;rw [hwo];clear hwo;have k0:=hbo.cell c0;have k9:=hbo.cell c9;have km:=hbo.cell cm;have hgo:g<wo.heap.size:=jF km;have hao:y.a<wo.heap.size:=jF k0;have hpo:w.heap.size<wo.heap.size:=jF o0;generalize w.heap.size=po at o0 o1 o2 o3 o4 hpoM hpo ⊢;go_quiet (fail);go_wp2_with fail;go_quiet (fail);go_wp2_with fail;go_region_held3 (fun w'=>Aa wo w'∧w'.cell? ⟨y.a,0,none⟩=some (.pointer (some ⟨y.q,0,none⟩))∧w'.cell? ⟨po,2,none⟩=some (.int .i64 (m:Int))∧w'.cell? ⟨po,4,none⟩=some (.string S)) ((exact ⟨by solve_by_elim [jA,jB,jC,jD,jE],Aa.cell (a:=wo) (by solve_by_elim [jA,jB,jC,jD,jE]) k0,Aa.cell (a:=wo) (by solve_by_elim [jA,jB,jC,jD,jE]) o2,Aa.cell (a:=wo) (by solve_by_elim [jA,jB,jC,jD,jE]) o4⟩)) ((go_at_call 33;refine (hsvc _ (by solve_by_elim [jA,jB,jC,jD,jE])).mono ?_;rintro e w1 ⟨t1,n1,rfl,hw1⟩;have hb1:Aa wo w1:=(by (repeat (first|exact jD _|assumption|refine jA ?_|refine jB ?_|refine jC ?_|refine Aa.step_set ?_ (by simp <;>omega) _|refine jE ?_ (by assumption))));clear hw1));have hbw1:=hbo.trans hb1;have z1:=hbw1.cell hz.1.2.1;have m4:=hb1.cell o4;have hzh1:=hzh.later hbw1;clear hbo k0 k9 km o0 o1 o2 o3 o4 hz hzh hb1;rcases hzh1 with ⟨hh, -⟩|⟨q,c',B',E',hh,hst,hok,hW⟩
  ·rw [hh] at z1;go_wp2
   all_goals
    go_ret;exact hend.out _ _ (by solve_by_elim [jA,jB,jC,jD,jE])
  ·rw [hh] at z1;have hch:=fun wx (b:Aa w1 wx)=>Ys q c' hg B' E' S wx (hst.later b) hok hW (by omega)
   clear hst hok hW;go_wp2_with fail;go_region_held3 (fun w'=>Aa w1 w'∧w'.cell? ⟨z.p,1,none⟩=some (.pointer (some ⟨q,0,none⟩))∧w'.cell? ⟨po,4,none⟩=some (.string S)) ((exact ⟨by solve_by_elim [jA,jB,jC,jD,jE],Aa.cell (a:=w1) (by solve_by_elim [jA,jB,jC,jD,jE]) z1,Aa.cell (a:=w1) (by solve_by_elim [jA,jB,jC,jD,jE]) m4⟩)) ((go_at_call 104;refine (hch _ (by solve_by_elim [jA,jB,jC,jD,jE])).mono ?_;rintro e w3 ⟨id,er,rfl,hb3⟩));have hb13:Aa w1 w3:=by solve_by_elim [jA,jB,jC,jD,jE]
   have hbw3:=hbw1.trans hb13;clear hch m4 hb3 hb13;go_wp2
   all_goals
    go_ret;exact hend.out _ _ (by solve_by_elim [jA,jB,jC,jD,jE])
 ·have hnone:∀b,decide (0≤B)=b→(b=true→decide (B<(y.ps.length:Int))=false):=fun b h1 h2=>by
   rw [h2] at h1;have:=of_decide_eq_true h1;exact jK (fun h3=>hin ⟨this,h3⟩)
  rw [hv] at c9
  clear hrow hps
  generalize y.ps.length=n at *
  unfold AB
  go_enter Tryz.func55,Tryz.ntmps55
  go_wp2_with fail
  obtain ⟨wo,hwo,hbo,o0,o1,o2,o3,o4⟩:=BV w (.int .i64 17) (.int .i64 A) (.int .i64 B) (.int .i64 C) (.string S) 32
  rw [hwo]
  clear hwo
  have k0:=hbo.cell c0
  have k9:=hbo.cell c9
  have hao:y.a<wo.heap.size:=jF k0
  have hpo:w.heap.size<wo.heap.size:=jF o0
  generalize w.heap.size=po at o0 o1 o2 o3 o4 hpoM hpo ⊢
  have h01:decide (0≤B)=false∨(decide (0≤B)=true∧decide (B<(n:Int))=false):=by
   cases h0:decide (0≤B)
   ·exact Or.inl rfl
   ·exact Or.inr ⟨rfl,hnone _ h0 rfl⟩
  clear hnone hin
  rcases h01 with h0|⟨h0,h1⟩
  all_goals
   go_quiet (fail)
   go_wp2_with fail
   go_region_held3 (fun w'=>Aa wo w'∧w'.cell? ⟨y.a,0,none⟩=some (.pointer (some ⟨y.q,0,none⟩))∧w'.cell? ⟨po,2,none⟩=some (.int .i64 B)∧w'.cell? ⟨po,4,none⟩=some (.string S)) ((exact ⟨by solve_by_elim [jA,jB,jC,jD,jE],Aa.cell (a:=wo) (by solve_by_elim [jA,jB,jC,jD,jE]) k0,Aa.cell (a:=wo) (by solve_by_elim [jA,jB,jC,jD,jE]) o2,Aa.cell (a:=wo) (by solve_by_elim [jA,jB,jC,jD,jE]) o4⟩)) ((go_at_call 33;refine (hsvc _ (by solve_by_elim [jA,jB,jC,jD,jE])).mono ?_;rintro e w1 ⟨t1,n1,rfl,hw1⟩;have hb1:Aa wo w1:=(by (repeat (first|exact jD _|assumption|refine jA ?_|refine jB ?_|refine jC ?_|refine Aa.step_set ?_ (by simp <;>omega) _|refine jE ?_ (by assumption))));clear hw1))
   go_wp2
   all_goals
    go_ret
    exact hend.out _ _ (hbo.trans (by solve_by_elim [jA,jB,jC,jD,jE]))
end Go.Proofs.YtpapdkhjdelfcabGreat
