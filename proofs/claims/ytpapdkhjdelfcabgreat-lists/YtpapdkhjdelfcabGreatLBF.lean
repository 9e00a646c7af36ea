import Derived.Test.YtpapdkhjdelfcabGreatLBB
import Derived.Test.YtpapdkhjdelfcabGreatLBE
namespace Go.Proofs.YtpapdkhjdelfcabGreat
open Go.RowKit
set_option maxRecDepth 100000
set_option maxHeartbeats 4000000
def Di (w:World) (v:Value) (n:Nat):Prop:=(v= .slice none 0 0∧n=0)∨∃g cap,v= .slice (some ⟨g,0,none⟩) n cap∧g<w.heap.size∧∀j,j<n→∃s:ByteArray,w.cell? ⟨g,j,none⟩=some (.string s)∧w.frozen? ⟨g,j,none⟩=false∧s.size≤48
theorem Di.later {a w:World} {v:Value} {n:Nat} (h:Di a v n) (k:Aa a w):Di w v n:=by
 rcases h with h|⟨g,cap,hv,hg,hc⟩
 ·exact Or.inl h
 ·refine Or.inr ⟨g,cap,hv,jN hg k.size,fun j hj=>?_⟩;obtain ⟨s,h1,h2,h3⟩:=hc j hj;exact ⟨s,k.cell h1,k.frozen h1 h2,h3⟩
def BX (w:World) (p:Nat) (speaks:Int) (has:Value) (gen format:Int) (got:Value) (no:Bool):Prop:=
 (w.cell? ⟨p,0,none⟩=some (.int .i64 speaks)∧w.cell? ⟨p,1,none⟩=some has∧w.cell? ⟨p,2,none⟩=some (.int .i64 gen)∧w.cell? ⟨p,3,none⟩=some (.int .i64 format)∧w.cell? ⟨p,4,none⟩=some got∧w.cell? ⟨p,5,none⟩=some (.bool no))∧
 ∀j,w.frozen? ⟨p,j,none⟩=false
theorem BX.later {a w:World} {p:Nat} {speaks:Int} {has:Value} {gen format:Int} {got:Value} {no:Bool} (h:BX a p speaks has gen format got no) (k:Aa a w):BX w p speaks has gen format got no:=by
 obtain ⟨⟨h0,h1,h2,h3,h4,h5⟩,hf⟩:=h;refine ⟨⟨k.cell h0,k.cell h1,k.cell h2,k.cell h3,k.cell h4,k.cell h5⟩,fun j=>?_⟩;rw [k.below.frozen (p:=⟨p,j,none⟩) (World.block_lt_of_cell? a ⟨p,0,none⟩ h0)];exact hf j
def Do (w:World) (v:Value) (gen:Int):Prop:=(v= .pointer none∧gen=0)∨∃(q:Nat) (c:Ac) (B:List BK) (E:List EN),v= .pointer (some ⟨q,0,none⟩)∧Bz w q c gen B E∧Dh c gen B E∧∀x∈E,Af x.2.1∧Af x.2.2
theorem Do.later {a w:World} {v:Value} {gen:Int} (h:Do a v gen) (k:Aa a w):Do w v gen:=by
 rcases h with h|⟨q,c,B,E,hv,hs,ho⟩
 ·exact Or.inl h
 ·exact Or.inr ⟨q,c,B,E,hv,hs.later k,ho⟩
theorem Do.i64 {w:World} {v:Value} {gen:Int} (h:Do w v gen):Aj gen:=by
 rcases h with ⟨_,rfl⟩|⟨q,c,B,E,hv,hs,ho,_⟩
 ·exact ⟨by decide,by decide⟩
 ·exact ho.2.1
theorem LC (p:Nat) (speaks:Int) (has:Value) (hg gen format:Int) (got:Value) (no:Bool) (w:World) (h:BX w p speaks has gen format got no) (hh:Do w has hg):
  Calls Tryz.prog 110 #[.pointer (some ⟨p,0,none⟩)] w fun e w'=>e= .returned (.int .i64 hg)∧w=w':=by
 obtain ⟨⟨h0,h1,h2,h3,h4,h5⟩,hf⟩:=h;rcases hh with ⟨rfl,rfl⟩|⟨q,c,B,E,rfl,⟨vB,vE,_,c6,_⟩,_⟩
 ·go_enter Tryz.func110,Tryz.ntmps110;go_wp2;go_ret;exact ⟨rfl,rfl⟩
 ·go_enter Tryz.func110,Tryz.ntmps110;go_wp2;go_ret;exact ⟨rfl,rfl⟩
theorem Of:GP ⟨#[52,49,52,49,50]⟩:=IH [52,49,52,49,50] (by decide)
theorem Aj.five {a b c d e:Int} (ha:Aj a) (hb:Aj b) (hc:Aj c) (hd:Aj d) (he:Aj e):∀t,Aj ([a,b,c,d,e].getD t 0):=by
 intro t
 match t with
 |0=>exact ha
 |1=>exact hb
 |2=>exact hc
 |3=>exact hd
 |4=>exact he
 |_+5=>exact (show Aj 0 from ⟨by decide,by decide⟩)
theorem Vq (p:Nat) (speaks:Int) (has:Value) (hg gen format:Int) (got:Value) (ng:Nat) (no:Bool) (w:World) (h:BX w p speaks has gen format got no) (hh:Do w has hg) (hs:Aj speaks) (hge:Aj gen) (hfo:Aj format) (hgot:Di w got ng) (hng:ng≤65535):
  Calls Tryz.prog 108 #[.pointer (some ⟨p,0,none⟩)] w (En w Kz):=by
 have h0':=h;obtain ⟨⟨h0,h1,h2,h3,h4,h5⟩,hf⟩:=h
 obtain ⟨ao,cap,rfl,hc⟩:∃ao cap,got= .slice ao ng cap∧∀j,j<ng→∃g s,ao=some ⟨g,0,none⟩∧w.cell? ⟨g,j,none⟩=some (.string s):=by
  rcases hgot with ⟨rfl,rfl⟩|⟨g,cap,rfl,_,hc⟩
  ·exact ⟨_,_,rfl,fun j hj=>by omega⟩
  ·exact ⟨_,_,rfl,fun j hj=>by obtain ⟨s,h1,_⟩:=hc j hj;exact ⟨g,s,rfl,h1⟩⟩
 go_enter Tryz.func108,Tryz.ntmps108;go_wp2;go_loopg [3,4] ng (fun r k i wr=>w=wr∧∃(m:Nat) (j:Nat),m≤65535∧j≤ng∧r=j∧k= .int .i64 m∧i= .int .i64 ((j:Int) - 1))
 case atStart=>exact ⟨rfl,ng,ng,hng,by omega,rfl,rfl,rfl⟩
 case round=>
  obtain ⟨rfl,m,j,hm,hj,hr,rfl,rfl⟩:=hrel;by_cases hlt:0<j
  ·obtain ⟨i,rfl⟩:∃i,j=i+1:=⟨j - 1,by omega⟩;obtain ⟨g,s,rfl,hcell⟩:=hc i (by omega);have he:(((i+1:Nat):Int) - 1)=(i:Int):=by omega
   rw [he];clear he hc;cases hse:s.toList.isEmpty
   all_goals
    go_wp2_with fail;go_roundg i
    case measure=>omega
    case rel=>first|exact ⟨rfl,m,i,hm,by omega,rfl,rfl,rfl⟩|exact ⟨rfl,i,i,by omega,by omega,rfl,rfl,rfl⟩
  ·have:j=0:=by omega
   subst this;go_wp2_with fail;refine (LC p speaks has hg gen format _ no _ h0' hh).mono ?_;rintro e w2 ⟨rfl,rfl⟩;have hgi:=hh.i64;by_cases hgen:0<gen
   ·go_upto_region 11 with fail
    go_cut [7] (fun v7 wc=>∃z:ByteArray,v7= .string z∧z.size≤45∧Aa w wc)
    case first=>
     go_region_held3 (fun w'=>Aa w w'∧w'.cell? ⟨p,0,none⟩=some (.int .i64 speaks)∧w'.cell? ⟨p,2,none⟩=some (.int .i64 gen)) ((refine Jj ?_ h0 h2;(repeat (first|exact jD _|assumption|refine jA ?_|refine jB ?_|refine jC ?_|refine Aa.step_set ?_ (by simp <;>omega) _|refine jE ?_ (by assumption))))) ((go_at_call 107;refine (FS _ 5 _ _ [hg,speaks,gen,format,m] _ rfl (by decide) Of (by intro t ht;match t,ht with|0,_=>simp|1,_=>simp|2,_=>simp|3,_=>simp|4,_=>simp) (Aj.five hgi hs hge hfo ⟨by omega,by omega⟩)).mono ?_;rintro e w4 ⟨z,rfl,hb4,hz⟩))
     all_goals
      go_wp2_with fail;go_meet
      case rel=>exact ⟨z,rfl,by omega,by (repeat (first|exact jD _|assumption|refine jA ?_|refine jB ?_|refine jC ?_|refine Aa.step_set ?_ (by simp <;>omega) _|refine jE ?_ (by assumption)))⟩
    case rest=>
     obtain ⟨z,rfl,hz,hb⟩:=hcut;go_wp2_with fail;refine (D3 _ _ (by rw [jY,show (({data:=#[81]}:ByteArray)).size=1 from rfl];omega)).mono ?_;rintro e w5 ⟨t,rfl,hb5, -⟩;go_wp2;go_ret;exact ⟨_,rfl,by solve_by_elim [jA,jB,jC,jD,jE],trivial⟩
   ·go_upto_region 11 with fail
    go_cut [7] (fun v7 wc=>∃z:ByteArray,v7= .string z∧z.size≤45∧Aa w wc)
    case first=>
     go_region_held3 (fun w'=>Aa w w'∧w'.cell? ⟨p,0,none⟩=some (.int .i64 speaks)∧w'.cell? ⟨p,2,none⟩=some (.int .i64 gen)) ((refine Jj ?_ h0 h2;(repeat (first|exact jD _|assumption|refine jA ?_|refine jB ?_|refine jC ?_|refine Aa.step_set ?_ (by simp <;>omega) _|refine jE ?_ (by assumption))))) ((go_at_call 107;refine (FS _ 5 _ _ [hg,speaks,gen,0,m] _ rfl (by decide) Of (by intro t ht;match t,ht with|0,_=>simp|1,_=>simp|2,_=>simp|3,_=>simp|4,_=>simp) (Aj.five hgi hs hge ⟨by decide,by decide⟩ ⟨by omega,by omega⟩)).mono ?_;rintro e w4 ⟨z,rfl,hb4,hz⟩))
     all_goals
      go_wp2_with fail;go_meet
      case rel=>exact ⟨z,rfl,by omega,by (repeat (first|exact jD _|assumption|refine jA ?_|refine jB ?_|refine jC ?_|refine Aa.step_set ?_ (by simp <;>omega) _|refine jE ?_ (by assumption)))⟩
    case rest=>
     obtain ⟨z,rfl,hz,hb⟩:=hcut;go_wp2_with fail;refine (D3 _ _ (by rw [jY,show (({data:=#[81]}:ByteArray)).size=1 from rfl];omega)).mono ?_;rintro e w5 ⟨t,rfl,hb5, -⟩;go_wp2;go_ret;exact ⟨_,rfl,by solve_by_elim [jA,jB,jC,jD,jE],trivial⟩
def Yq (w:World) (e:Ending) (w':World):Prop:=∃(s:ByteArray) (x y:Int),e= .returned (.tuple #[.string s,.agg #[.int .i64 x,.int .i64 y]])∧Aa w w'∧Af x∧Af y
theorem Bx.set {w a:World} {vs:List Value} (h:Bx w vs a) {p:Addr} (hp:w.heap.size≤p.block) {z:Int} (hz:Af z):Bx w vs (a.setCell p (.int .i64 z)):=⟨h.1.step_set hp _,fun v hv=>(h.2 v hv).set p hz⟩
theorem BM.new' {B n:Nat} {w:World} (hn:n=w.heap.size) (h:B≤n) {x y:Int} (hx:Af x) (hy:Af y) (t:TypeId):BM B (w.alloc (.cells #[.int .i64 x,.int .i64 y] t)) (.pointer (some ⟨n,0,none⟩)):=by
 subst hn;exact BM.new h hx hy t
theorem Bx.sub {w a:World} {vs us:List Value} (h:Bx w vs a) (k:∀v∈us,v∈vs):Bx w us a:=⟨h.1,fun v hv=>h.2 v (k v hv)⟩
theorem M2 (p:Nat) (c:Ac) (gen:Int) (B:List BK) (E:List EN) (h1 h2:Int) (w:World) (h:Bz w p c gen B E) (hE:E.length≤140000) (hI:∀x∈E,Af x.2.1∧Af x.2.2) (hh1:Af h1) (hh2:Af h2):
  Calls Tryz.prog 167 #[.pointer (some ⟨p,0,none⟩),.agg #[.int .i64 h1,.int .i64 h2]] w (Yq w):=by
 obtain ⟨vB,vE,_,_,_,c8,_,hpE⟩:=h;have hpw:p<w.heap.size:=World.block_lt_of_cell? w ⟨p,8,none⟩ c8;obtain ⟨ao,cap,rfl,hc⟩:=hpE.off;go_enter Tryz.func167,Tryz.ntmps167;go_wp2;go_loopg [6,8] E.length (fun r b i wr=>∃(s:ByteArray) (k:Nat),k≤E.length∧r=E.length - k∧b= .string s∧i= .int .i64 k∧Bx w [.pointer (some ⟨w.heap.size,0,none⟩),.pointer (some ⟨w.heap.size+1,0,none⟩),.pointer (some ⟨w.heap.size+1+1,0,none⟩)] wr)
 case atStart=>
  refine ⟨_,0,by omega,by omega,rfl,rfl,by solve_by_elim [jA,jB,jC,jD,jE],?_⟩;have b3:BM w.heap.size (((w.alloc (.cells #[.int .i64 h1,.int .i64 h2] 181)).alloc (.cells #[.int .i64 0,.int .i64 0] 181)).alloc (.cells #[.int .i64 0,.int .i64 0] 181)) (.pointer (some ⟨w.heap.size,0,none⟩)):=(BM.new (jH _) hh1 hh2 181).later (by (repeat (first|exact jD _|assumption|refine jA ?_|refine jB ?_|refine jC ?_|refine Aa.step_set ?_ (by simp <;>omega) _|refine jE ?_ (by assumption))));have b5:BM w.heap.size (((w.alloc (.cells #[.int .i64 h1,.int .i64 h2] 181)).alloc (.cells #[.int .i64 0,.int .i64 0] 181)).alloc (.cells #[.int .i64 0,.int .i64 0] 181)) (.pointer (some ⟨w.heap.size+1,0,none⟩)):=(BM.new' (w:=w.alloc (.cells #[.int .i64 h1,.int .i64 h2] 181)) (by simp) (by omega) Cd Cd 181).later (by (repeat (first|exact jD _|assumption|refine jA ?_|refine jB ?_|refine jC ?_|refine Aa.step_set ?_ (by simp <;>omega) _|refine jE ?_ (by assumption))));have b7:BM w.heap.size (((w.alloc (.cells #[.int .i64 h1,.int .i64 h2] 181)).alloc (.cells #[.int .i64 0,.int .i64 0] 181)).alloc (.cells #[.int .i64 0,.int .i64 0] 181)) (.pointer (some ⟨w.heap.size+1+1,0,none⟩)):=BM.new' (by simp) (by omega) Cd Cd 181;intro v hv;simp only [ja,List.not_mem_nil,or_false] at hv;rcases hv with rfl|rfl|rfl
  ·exact b3
  ·exact b5
  ·exact b7
 case round=>
  obtain ⟨s,k,hk,hr,rfl,rfl,hbx⟩:=hrel;have d8:=hbx.1.cell c8;by_cases hlt:k<E.length
  ·obtain ⟨g,off,rfl,q0,q1,q2⟩:=hc k hlt;have r0:=hbx.1.cell q0;have r1:=hbx.1.cell q1;have r2:=hbx.1.cell q2;obtain ⟨hW1,hW2⟩:=hI _ (jJ hlt);clear hc hI q0 q1 q2;generalize E[k]=en at *;obtain ⟨id,ehi,elo⟩:=en;simp only at r0 r1 r2 hW1 hW2;go_upto_region 6 with fail
   go_cut [9] (fun u9 wc=>Bx w [u9,.pointer (some ⟨w.heap.size,0,none⟩),.pointer (some ⟨w.heap.size+1,0,none⟩),.pointer (some ⟨w.heap.size+1+1,0,none⟩)] wc∧wc.cell? ⟨g,off+k * 3,none⟩=some (.string id))
   case first=>
    obtain ⟨p3,x3,y3,E3,hp3,c30,c31,f30,f31,hx3,hy3⟩:=hbx.2 (.pointer (some ⟨w.heap.size,0,none⟩)) (by simp);simp only [Value.pointer.injEq,Option.some.injEq,Addr.mk.injEq,and_true] at E3;subst E3;go_region_held3 (fun w'=>Aa wr w'∧w'.cell? ⟨p,8,none⟩=some (.slice (some ⟨g,off,none⟩) E.length cap)∧w'.cell? ⟨g,off+k * 3+1,none⟩=some (.int .i64 ehi)∧w'.cell? ⟨g,off+k * 3+2,none⟩=some (.int .i64 elo)∧w'.cell? ⟨w.heap.size,0,none⟩=some (.int .i64 x3)∧w'.cell? ⟨w.heap.size,1,none⟩=some (.int .i64 y3)) ((refine K8 ?_ d8 r1 r2 c30 c31;(repeat (first|exact jD _|assumption|refine jA ?_|refine jB ?_|refine jC ?_|refine Aa.step_set ?_ (by simp <;>omega) _|refine jE ?_ (by assumption))))) ((go_at_call 209;refine (Vz _ _ _ _ _ hW1 hW2 hx3 hy3).mono ?_;rintro e w2 ⟨z0,z1,rfl,hb2,k0,k1, -⟩;obtain ⟨hq2,hf2⟩:=hb2.cells))
    all_goals
     go_wp2_with fail;go_meet
     case rel=>
      have hB:Aa wr w2:=by (repeat (first|exact jD _|assumption|refine jA ?_|refine jB ?_|refine jC ?_|refine Aa.step_set ?_ (by simp <;>omega) _|refine jE ?_ (by assumption)))
      have hw:=(hbx.1.trans hB).size;have hw1:=hbx.1.size
      first
       |exact ⟨((hbx.later hB).later (Aa.step_alloc (jD _) _)).cons (BM.new hw k0 k1 _),(hB.trans (Aa.step_alloc (jD _) _)).cell r0⟩
       |exact ⟨(((hbx.later hB).set (p:=⟨wr.heap.size,0,none⟩) hw1 k0).set (p:=⟨wr.heap.size,1,none⟩) hw1 k1).cons (BM.stored hw1 ((hq2 _ _ (by simp)).trans (by simp;rfl)) ((hq2 _ _ (by simp)).trans (by simp;rfl)) ((hf2 _ _ (by simp)).trans (by simp)) ((hf2 _ _ (by simp)).trans (by simp)) k0 k1),((hB.step_set (p:=⟨wr.heap.size,0,none⟩) (jH _) _).step_set (p:=⟨wr.heap.size,1,none⟩) (jH _) _).cell r0⟩
   case rest=>
    obtain ⟨hbx',hid⟩:=hcut;obtain ⟨p9,x9,y9,E9,hp9,c90,c91,f90,f91,hx9,hy9⟩:=hbx'.2 u9 (by simp);subst E9;obtain ⟨p7,x7,y7,E7,hp7,c70,c71,f70,f71,hx7,hy7⟩:=hbx'.2 (.pointer (some ⟨w.heap.size+1+1,0,none⟩)) (by simp);simp only [Value.pointer.injEq,Option.some.injEq,Addr.mk.injEq,and_true] at E7;subst E7;have e8:=hbx'.1.cell c8;clear r0 r1 r2 d8;go_wp2_with fail;refine (LR _ _ _ _ _).mono ?_;rintro e w3 ⟨AO,rfl,hb3, -⟩;have d90:=hb3.cell c90;have d91:=hb3.cell c91;have d70:=hb3.cell c70;have d71:=hb3.cell c71;have e70:=hb3.frozen c70 f70;have e71:=hb3.frozen c71 f71;have g8:=hb3.cell e8;have hid3:=hb3.cell hid;have hbx3:=(hbx'.later hb3).sub (us:=[.pointer (some ⟨w.heap.size,0,none⟩),.pointer (some ⟨w.heap.size+1,0,none⟩),.pointer (some ⟨w.heap.size+1+1,0,none⟩)]) (fun v hv=>jW _ hv);cases hk0:((k:Int)==0)<;>cases AO
    all_goals
     go_wp2_with fail;go_roundg (E.length - (k+1))
     case measure=>omega
     case rel=>first|exact ⟨_,k+1,by omega,rfl,rfl,by go_num,hbx3⟩|exact ⟨_,k+1,by omega,rfl,rfl,by go_num,(hbx3.set (p:=⟨w.heap.size+1+1,0,none⟩) hp7 hx9).set (p:=⟨w.heap.size+1+1,1,none⟩) hp7 hy9⟩
  ·obtain ⟨p7,x7,y7,E7,hp7,c70,c71,f70,f71,hx7,hy7⟩:=hbx.2 (.pointer (some ⟨w.heap.size+1+1,0,none⟩)) (by simp);simp only [Value.pointer.injEq,Option.some.injEq,Addr.mk.injEq,and_true] at E7;subst E7;obtain ⟨p5,x5,y5,E5,hp5,c50,c51,f50,f51,hx5,hy5⟩:=hbx.2 (.pointer (some ⟨w.heap.size+1,0,none⟩)) (by simp);simp only [Value.pointer.injEq,Option.some.injEq,Addr.mk.injEq,and_true] at E5;subst E5;go_wp2_with fail;go_region
   all_goals
    go_wp2;refine bodyPost_ret (v:= .tuple #[.string s,.agg #[.int .i64 x7,.int .i64 y7]]) (by simp [results,Tryz.results167,go_sem,c50,c51]) rfl ⟨s,x7,y7,rfl,?_,hx7,hy7⟩;exact ((hbx.1.step_drew).step_set (p:=⟨w.heap.size+1,0,none⟩) hp5 _).step_set (p:=⟨w.heap.size+1,1,none⟩) hp5 _
def Qh (w:World) (e:Ending) (w':World):Prop:=∃(s:ByteArray) (n:Int),e= .returned (.tuple #[.string s,.int .i64 n])∧Aa w w'
def Gg (E:List EN) (j:Nat):ByteArray:=(E[j]?.map (·.1)).getD ByteArray.empty
theorem Eb.ids {w:World} {ao:Option Addr} {cap:Nat} {E:List EN} (hc:∀j (h:j<E.length),∃g off,ao=some ⟨g,off,none⟩∧w.cell? ⟨g,off+j * 3,none⟩=some (.string E[j].1)∧w.cell? ⟨g,off+j * 3+1,none⟩=some (.int .i64 E[j].2.1)∧w.cell? ⟨g,off+j * 3+2,none⟩=some (.int .i64 E[j].2.2)) (h1:1≤E.length) (_:cap=cap):
  ∃g off,ao=some ⟨g,off,none⟩∧∀j,j<E.length→w.cell? ⟨g,off+j * 3,none⟩=some (.string (Gg E j)):=by
 obtain ⟨g,off,ha,_⟩:=hc 0 h1;refine ⟨g,off,ha,fun j hj=>?_⟩;obtain ⟨g',off',hb,h0,_⟩:=hc j hj;rw [ha] at hb;simp only [Option.some.injEq,Addr.mk.injEq,and_true] at hb;obtain ⟨rfl,rfl⟩:=hb;simpa [Gg,hj] using h0
theorem NK {w w':World} {a0 a1 a2 a3:Addr} {v0 v1 v2 v3:Value} {g off n:Nat} {E:List EN} (h:Aa w w') (c0:w.cell? a0=some v0) (c1:w.cell? a1=some v1) (c2:w.cell? a2=some v2) (c3:w.cell? a3=some v3) (ci:∀j,j<n→w.cell? ⟨g,off+j * 3,none⟩=some (.string (Gg E j))):
  Aa w w'∧w'.cell? a0=some v0∧w'.cell? a1=some v1∧w'.cell? a2=some v2∧w'.cell? a3=some v3∧∀j,j<n→w'.cell? ⟨g,off+j * 3,none⟩=some (.string (Gg E j)):=⟨h,h.cell c0,h.cell c1,h.cell c2,h.cell c3,fun j hj=>h.cell (ci j hj)⟩
theorem Ys (p:Nat) (c:Ac) (gen:Int) (B:List BK) (E:List EN) (key:ByteArray) (w:World) (h:Bz w p c gen B E) (hok:Dh c gen B E) (hI:∀x∈E,Af x.2.1∧Af x.2.2) (hkey:key.size≤1099511627000):
  Calls Tryz.prog 104 #[.pointer (some ⟨p,0,none⟩),.string key] w (Qh w):=by
 have h0:=h;obtain ⟨vB,vE,⟨c0,c1,c2,c3,c4,c5⟩,c6,c7,c8,hpB,hpE⟩:=h;obtain ⟨hc,hg,hB,hE,hid,hsl⟩:=hok;obtain ⟨k1,k2,k3,k4, -,k5,k6,k7,k8,k9, -, -⟩:=hc;obtain ⟨ao,cap,rfl,hcE⟩:=hpE.off;obtain ⟨alg,slots,points,probes,ckey,formats⟩:=c;simp only at c0 c1 c2 c3 c4 c5 k1 k2 k3 k4 k5 k6 k7 k8 k9 hsl;by_cases hE0:E=[]
 ·subst hE0;go_enter Tryz.func104,Tryz.ntmps104;go_wp2;go_ret2;exact ⟨_,_,rfl,by solve_by_elim [jA,jB,jC,jD,jE]⟩
 ·have hEl:1≤E.length:=by
   rcases Nat.lt_or_ge 0 E.length with h|h
   ·exact h
   ·exact absurd (jS (by omega)) hE0
  have hE0':((E.length:Int)==0)=false:=by rw [jI];omega
  by_cases ha2:alg=2
  ·subst ha2
   go_enter Tryz.func104,Tryz.ntmps104
   go_wp2_with fail
   refine (F2 ckey _ _ k9 (by rw [jY,show (({data:=#[107]}:ByteArray)).size=1 from rfl];omega)).mono ?_
   rintro e w1 ⟨x,y,rfl,hb1,hx,hy, -⟩
   go_wp2_with fail
   refine (M2 p _ gen B E x y _ (h0.later (by solve_by_elim [jA,jB,jC,jD,jE])) hE hI hx hy).mono ?_
   rintro e w2 ⟨s,x2,y2,rfl,hb2, -, -⟩
   go_wp2
   go_ret2
   exact ⟨_,_,rfl,by (repeat (first|exact jD _|assumption|refine jA ?_|refine jB ?_|refine jC ?_|refine Aa.step_set ?_ (by simp <;>omega) _|refine jE ?_ (by assumption)))⟩
  ·by_cases ha4:alg=4
   ·subst ha4
    clear hsl
    go_enter Tryz.func104,Tryz.ntmps104
    go_wp2_with fail
    go_loopg [9,11] probes.toNat (fun r b i wr=>∃(s:ByteArray) (k:Nat),r=probes.toNat - k∧(k:Int)≤probes∧b= .string s∧i= .int .i64 k∧Bx w [.pointer (some ⟨w.heap.size,0,none⟩)] wr)
    case atStart=>exact ⟨_,0,by omega,by omega,rfl,rfl,by solve_by_elim [jA,jB,jC,jD,jE],fun v hv=>by (simp only [ja,List.not_mem_nil,or_false] at hv;subst hv;exact BM.new (jH _) Cd Cd _)⟩
    case round=>
     obtain ⟨s,k,hr,hkp,rfl,rfl,hbx⟩:=hrel
     have d3:=hbx.1.cell c3
     have d4:=hbx.1.cell c4
     by_cases hlt:(k:Int)<probes
     ·go_wp2_with fail
      refine (FM _ _ _ (by omega) (by omega) (by decide) (by decide)).mono ?_
      rintro e w1 ⟨a,rfl,hb1,ha⟩
      have ha2:a.size=2:=by simpa using ha
      clear ha
      have e4:=hb1.cell d4
      go_wp2_with fail
      refine (F2 ckey _ _ k9 (by simp only [jY,show (({data:=#[112]}:ByteArray)).size=1 from rfl];omega)).mono ?_
      rintro e w2 ⟨x,y,rfl,hb2,hx,hy, -⟩
      have hB2:Aa wr w2:=by solve_by_elim [jA,jB,jC,jD,jE]
      go_wp2_with fail
      refine (M2 p _ gen B E x y _ (h0.later (hbx.1.trans (by solve_by_elim [jA,jB,jC,jD,jE]))) hE hI hx hy).mono ?_
      rintro e w3 ⟨s2,x2,y2,rfl,hb3,hx2,hy2⟩
      have hB3:Aa wr w3:=by (repeat (first|exact jD _|assumption|refine jA ?_|refine jB ?_|refine jC ?_|refine Aa.step_set ?_ (by simp <;>omega) _|refine jE ?_ (by assumption)))
      have hbx3:=hbx.later hB3
      obtain ⟨p10,x10,y10,E10,hp10,c100,c101,f100,f101,hx10,hy10⟩:=hbx3.2 (.pointer (some ⟨w.heap.size,0,none⟩)) (by simp)
      simp only [Value.pointer.injEq,Option.some.injEq,Addr.mk.injEq,and_true] at E10
      subst E10
      have hlt3:w.heap.size<w3.heap.size:=World.block_lt_of_cell? w3 ⟨w.heap.size,0,none⟩ c100
      go_wp2_with fail
      refine (LR _ _ _ _ _).mono ?_
      rintro e w4 ⟨AO,rfl,hb4, -⟩
      have hB4:Aa w3 w4:=by (repeat (first|exact jD _|assumption|refine jA ?_|refine jB ?_|refine jC ?_|refine Aa.step_set ?_ (by simp <;>omega) _|refine jE ?_ (by assumption)))
      have d100:=hB4.cell c100
      have d101:=hB4.cell c101
      have e100:=hB4.frozen c100 f100
      have e101:=hB4.frozen c101 f101
      have q0:w4.cell? ⟨w3.heap.size,0,none⟩=some (.int .i64 x2):=hb4.cell (by simp)
      have q1:w4.cell? ⟨w3.heap.size,1,none⟩=some (.int .i64 y2):=hb4.cell (by simp)
      have hbx4:=hbx3.later hB4
      cases hk0:((k:Int)==0)<;>cases AO
      all_goals
       go_wp2_with fail
       go_roundg (probes.toNat - (k+1))
       case measure=>omega
       case rel=>first|exact ⟨_,k+1,rfl,by omega,rfl,by go_num,hbx4⟩|exact ⟨_,k+1,rfl,by omega,rfl,by go_num,(hbx4.set (p:=⟨w.heap.size,0,none⟩) hp10 hx2).set (p:=⟨w.heap.size,1,none⟩) hp10 hy2⟩
     ·go_wp2
      go_ret2
      exact ⟨_,_,rfl,hbx.1⟩
   ·have hEs:(E.length:Int)=slots:=by
     rcases hsl (fun h=>by rcases h with h|h;exact ha2 h;exact ha4 h) with h|h
     ·exact absurd h hE0
     ·exact h
    have ha2':(alg==2)=false:=by simpa using ha2
    have ha4':(alg==4)=false:=by simpa using ha4
    obtain ⟨g,off,rfl,hids⟩:=Eb.ids (cap:=cap) hcE hEl rfl
    have HEs:Hid ((E.length:Int)=slots):=hEs
    clear hEs hsl
    go_enter Tryz.func104,Tryz.ntmps104
    go_wp2_with fail
    refine (F2 ckey _ _ k9 (by rw [jY,show (({data:=#[107]}:ByteArray)).size=1 from rfl];omega)).mono ?_
    rintro e w1 ⟨x,y,rfl,hb1,hx,hy, -⟩
    have hBB:Aa w (w1.alloc (.cells #[.int .i64 x,.int .i64 y] 181)):=by solve_by_elim [jA,jB,jC,jD,jE]
    have d8:=hBB.cell c8
    have d1:=hBB.cell c1
    have dids:=fun j hj=>hBB.cell (hids j hj)
    have q0:(w1.alloc (.cells #[.int .i64 x,.int .i64 y] 181)).cell? ⟨w1.heap.size,0,none⟩=some (.int .i64 x):=by simp
    have q1:(w1.alloc (.cells #[.int .i64 x,.int .i64 y] 181)).cell? ⟨w1.heap.size,1,none⟩=some (.int .i64 y):=by simp
    go_upto_region 23 with fail
    generalize (w1.alloc (.cells #[.int .i64 x,.int .i64 y] 181))=w2 at *
    go_region_held3 (fun w'=>Aa w2 w'∧w'.cell? ⟨p,8,none⟩=some (.slice (some ⟨g,off,none⟩) E.length cap)∧w'.cell? ⟨p,1,none⟩=some (.int .i64 slots)∧w'.cell? ⟨w1.heap.size,0,none⟩=some (.int .i64 x)∧w'.cell? ⟨w1.heap.size,1,none⟩=some (.int .i64 y)∧∀j,j<E.length→w'.cell? ⟨g,off+j * 3,none⟩=some (.string (Gg E j))) ((refine NK ?_ d8 d1 q0 q1 dids;solve_by_elim [jA,jB,jC,jD,jE])) ((go_at_call 169;refine (QS _ _ _ _ hx hy (by omega) (by omega)).mono ?_;rintro e w3 ⟨r,rfl,hb3,hr1,hr2⟩;obtain ⟨m,rfl⟩:=jM hr1;have hm:m<E.length:=(by have:=HEs.out;omega)))
    all_goals
     go_wp2
     go_ret2
     exact ⟨_,_,rfl,hBB.trans (by solve_by_elim [jA,jB,jC,jD,jE])⟩
theorem Tryz.uE:Tryz.prog.underlying 183=some (.struct (Tryz.prog.fieldsOf 183)):=by kernel_rfl
theorem Tryz.sE:Tryz.prog.stoodInHeld 183=false:=by kernel_rfl
theorem Od (w:World) (a b:ByteArray) (x y u v:Int):(binOp .eql 183 (.agg #[.string a,.int .i64 x,.int .i64 y]) (.agg #[.string b,.int .i64 u,.int .i64 v])).run Tryz.prog w= .ok (.bool (a.toList==b.toList && (x==u && y==v))) w:=by
 rw [run_eql_struct,run_equalIn_struct w 9999 _ _ _ Tryz.uE Tryz.sE];simp [go_sem];by_cases h1:a.toList=b.toList <;>by_cases h2:x=u <;>by_cases h3:y=v <;>simp [h1,h2,h3]
def SR (w:World) (la lb:Nat) (e:Ending) (w':World):Prop:=∃n m:Nat,e= .returned (.tuple #[.int .i64 n,.int .i64 m])∧Aa w w'∧n+m≤la∧n+m≤lb
theorem Xp (va vb:Value) (A B:List EN) (w:World) (ha:Eb w va A) (hb:Eb w vb B) (hla:A.length≤140000) (hlb:B.length≤140000):
  Calls Tryz.prog 159 #[va,vb] w (SR w A.length B.length):=by
 obtain ⟨aoA,capA,rfl,hcA⟩:=ha;obtain ⟨aoB,capB,rfl,hcB⟩:=hb;go_enter Tryz.func159,Tryz.ntmps159;go_wp2;go_loopg [6] A.length (fun r n wr=>Aa w wr∧∃k:Nat,r=A.length - k∧k≤A.length∧k≤B.length∧n= .int .i64 k)
 case atStart=>exact ⟨jD _,0,by omega,by omega,by omega,rfl⟩
 case round=>
  obtain ⟨hbr,k,hr,hkA,hkB,rfl⟩:=hrel;go_upto_region 2 with fail
  go_cut [28] (fun v wc=>Aa w wc∧∃x,v= .bool x∧(x=true→k<A.length∧k<B.length))
  case first=>
   by_cases h1:(k:Int)<A.length
   ·by_cases h2:(k:Int)<B.length
    ·obtain ⟨gA,offA,rfl,a0,a1,a2⟩:=hcA k (by omega);obtain ⟨gB,offB,rfl,b0,b1,b2⟩:=hcB k (by omega);have a0':=hbr.cell a0;have a1':=hbr.cell a1;have a2':=hbr.cell a2;have b0':=hbr.cell b0;have b1':=hbr.cell b1;have b2':=hbr.cell b2;clear hcA hcB a0 a1 a2 b0 b1 b2;generalize A[k]=ea at *;generalize B[k]=eb at *;obtain ⟨ida,ha1,ha2⟩:=ea;obtain ⟨idb,hb1,hb2⟩:=eb;simp only at a0' a1' a2' b0' b1' b2';have heqE:=Od;go_quiet (fail);go_wp2_with fail
     all_goals
      go_meet
      case rel=>exact ⟨by solve_by_elim [jA,jB,jC,jD,jE],_,rfl,fun _=>⟨by omega,by omega⟩⟩
    ·have h2':decide ((k:Int)<B.length)=false:=jK h2;go_quiet (fail);go_wp2_with fail;go_meet
     case rel=>exact ⟨by solve_by_elim [jA,jB,jC,jD,jE],_,rfl,fun h=>by cases h⟩
   ·have h1':decide ((k:Int)<A.length)=false:=jK h1;go_quiet (fail);go_wp2_with fail;go_meet
    case rel=>exact ⟨by solve_by_elim [jA,jB,jC,jD,jE],_,rfl,fun h=>by cases h⟩
  case rest=>
   obtain ⟨hbc,x,rfl,hx⟩:=hcut;cases x
   ·clear hx;go_wp2_with fail;go_loopg [7] A.length (fun r m wr=>Aa w wr∧∃q:Nat,r=A.length - q∧k+q≤A.length∧k+q≤B.length∧m= .int .i64 q)
    case atStart=>exact ⟨hbc,0,by omega,by omega,by omega,rfl⟩
    case round=>
     obtain ⟨hbq,q,hrq,hqA,hqB,rfl⟩:=hrel;go_upto_region 5 with fail
     go_cut [63] (fun v wc=>Aa w wc∧∃x,v= .bool x∧(x=true→k+q<A.length∧k+q<B.length))
     case first=>
      by_cases h1:(q:Int)<A.length - (k:Int)
      ·by_cases h2:(q:Int)<B.length - (k:Int)
       ·obtain ⟨gA,offA,rfl,a0,a1,a2⟩:=hcA (A.length - 1 - q) (by omega);obtain ⟨gB,offB,rfl,b0,b1,b2⟩:=hcB (B.length - 1 - q) (by omega);have a0':=hbq.cell a0;have a1':=hbq.cell a1;have a2':=hbq.cell a2;have b0':=hbq.cell b0;have b1':=hbq.cell b1;have b2':=hbq.cell b2;have hiA:A.length - 1 - q<A.length:=by omega
        have hiB:B.length - 1 - q<B.length:=by omega
        clear hcA hcB a0 a1 a2 b0 b1 b2;generalize A[A.length - 1 - q]=ea at *;generalize B[B.length - 1 - q]=eb at *;obtain ⟨ida,ha1,ha2⟩:=ea;obtain ⟨idb,hb1,hb2⟩:=eb;simp only at a0' a1' a2' b0' b1' b2';have heqE:=Od;go_quiet (fail);go_wp2_with fail
        all_goals
         go_meet
         case rel=>exact ⟨by solve_by_elim [jA,jB,jC,jD,jE],_,rfl,fun _=>⟨by omega,by omega⟩⟩
       ·have h2':decide ((q:Int)<B.length - (k:Int))=false:=jK h2;go_quiet (fail);go_wp2_with fail;go_meet
        case rel=>exact ⟨by solve_by_elim [jA,jB,jC,jD,jE],_,rfl,fun h=>by cases h⟩
      ·have h1':decide ((q:Int)<A.length - (k:Int))=false:=jK h1;go_quiet (fail);go_wp2_with fail;go_meet
       case rel=>exact ⟨by solve_by_elim [jA,jB,jC,jD,jE],_,rfl,fun h=>by cases h⟩
     case rest=>
      obtain ⟨hbz,x,rfl,hx⟩:=hcut;cases x
      ·go_wp2;go_ret2;exact ⟨k,q,rfl,hbz,by omega,by omega⟩
      ·have hx':Hid (k+q<A.length∧k+q<B.length):=hx rfl;clear hx;go_wp2_with fail;go_roundg (A.length - (q+1))
       case measure=>have:=hx'.out;omega
       case rel=>exact ⟨hbz,q+1,rfl,by have:=hx'.out;omega,by have:=hx'.out;omega,by go_num⟩
   ·have hx':Hid (k<A.length∧k<B.length):=hx rfl;clear hx;go_wp2_with fail;go_roundg (A.length - (k+1))
    case measure=>have:=hx'.out;omega
    case rel=>exact ⟨hbc,k+1,rfl,by have:=hx'.out;omega,by have:=hx'.out;omega,by go_num⟩
theorem SV:GP ⟨#[52,52,52]⟩:=IH [52,52,52] (by decide)
theorem RI:GP ⟨#[50,50,50]⟩:=IH [50,50,50] (by decide)
def J1 (ao:Option Addr) (_L cap n h:Nat):Value:= .slice (if cap=n then ao else ao.map (·.add (n * 3))) (h - n) (cap - n)
theorem SE (wx:World) (ao:Option Addr) (L cap n m:Nat) (h:n+m≤L) (hc:L≤cap):
  (Instr.slice 121 (.slice ao L cap) (some (.int .i64 n)) (some (.int .i64 ((L:Int) - (m:Int)))) none).run Tryz.prog wx= .ok (J1 ao L cap n (L - m)) wx:=by
 rw [run_slice_lh (P:=Tryz.prog) wx 121 ao L cap (by kernel_rfl) .i64 .i64 _ _ (by omega) (by omega) (by omega)];have e1:((L:Int) - (m:Int)).toNat=L - m:=by omega
 have hs:(sizeOf (Tryz.prog.elem 121)).run Tryz.prog wx= .ok 3 wx:=by kernel_rfl
 rw [hs];simp only [Result.andThen,sliced,J1,Int.toNat_natCast,e1]
theorem Eb.cut {w:World} {ao:Option Addr} {cap n m:Nat} {E:List EN} (h:Eb w (.slice ao E.length cap) E) (hnm:n+m≤E.length) (hc:E.length≤cap):Eb w (J1 ao E.length cap n (E.length - m)) ((E.drop n).take (E.length - m - n)):=by
 obtain ⟨ao',cap',hv,hcell⟩:=h;simp only [Value.slice.injEq] at hv;obtain ⟨rfl, -,rfl⟩:=hv;have hl:((E.drop n).take (E.length - m - n)).length=E.length - m - n:=by simp;omega
 refine ⟨_,_,by rw [J1,hl],fun j hj=>?_⟩;rw [hl] at hj;obtain ⟨g,off,h1,h2,h3,h4⟩:=hcell (n+j) (by omega);have hne:¬cap=n:=by omega
 have e:((E.drop n).take (E.length - m - n))[j]'(by rw [hl];exact hj)=E[n+j]'(by omega):=by simp
 rw [e];refine ⟨g,off+n * 3,?_,?_,?_,?_⟩
 ·rw [if_neg hne,h1];simp only [Option.map_some,Addr.add];split
  ·rename_i h0;rw [h0];rfl
  ·rfl
 ·rw [show off+n * 3+j * 3=off+(n+j) * 3 by omega];exact h2
 ·rw [show off+n * 3+j * 3+1=off+(n+j) * 3+1 by omega];exact h3
 ·rw [show off+n * 3+j * 3+2=off+(n+j) * 3+2 by omega];exact h4
theorem Wo (pa pb:Nat) (ca cb:Ac) (ga gb:Int) (BA BB:List BK) (EA EB:List EN) (w:World) (hA:Bz w pa ca ga BA EA) (hAo:Dh ca ga BA EA) (hAI:∀x∈EA,Af x.2.1∧Af x.2.2) (hB:Bz w pb cb gb BB EB) (hBo:Dh cb gb BB EB) (hBI:∀x∈EB,Af x.2.1∧Af x.2.2):
  Calls Tryz.prog 92 #[.pointer (some ⟨pa,0,none⟩),.pointer (some ⟨pb,0,none⟩)] w (En w Kz):=by
 have hA0:=hA;have hB0:=hB;obtain ⟨vBa,vEa,_,a6,a7,a8,hpBa,hpEa⟩:=hA;obtain ⟨vBb,vEb,_,b6,b7,b8,hpBb,hpEb⟩:=hB;have hla:=hAo.2.2.2.1;have hlb:=hBo.2.2.2.1;have hga:=hAo.2.1;have hgb:=hBo.2.1;go_enter Tryz.func92,Tryz.ntmps92;go_upto_region 1 with fail
 go_cut [5,6] (fun v5 v6 wc=>∃n m:Nat,v5= .int .i64 n∧v6= .int .i64 m∧n+m≤EA.length∧n+m≤EB.length∧Aa w wc)
 case first=>
  go_region_held3 (fun w'=>Aa w w'∧w'.cell? ⟨pa,8,none⟩=some vEa∧w'.cell? ⟨pb,8,none⟩=some vEb) ((refine Jj ?_ a8 b8;solve_by_elim [jA,jB,jC,jD,jE])) ((go_at_call 159;refine (Xp vEa vEb EA EB _ (hpEa.off.later (by solve_by_elim [jA,jB,jC,jD,jE])) (hpEb.off.later (by solve_by_elim [jA,jB,jC,jD,jE])) hla hlb).mono ?_;rintro e w4 ⟨n,m,rfl,hb4,hn,hm⟩))
  all_goals
   go_wp2_with fail;go_meet
   case rel=>exact ⟨n,m,rfl,rfl,hn,hm,by solve_by_elim [jA,jB,jC,jD,jE]⟩
 case rest=>
  obtain ⟨n,m,rfl,rfl,hn,hm,hb⟩:=hcut;go_wp2_with fail;refine (Fw pa ca ga BA EA 1 _ (hA0.later hb) hAo ⟨by decide,by decide⟩ (fun x hx=>⟨(hAI x hx).1.i64,(hAI x hx).2.i64⟩)).mono ?_;rintro e w1 ⟨t,rfl,hb1,ht1,ht2⟩;go_wp2_with fail;have hz:(t.extract 0 (t.size - 4)).size=t.size - 4:=by simp
  generalize t.extract 0 (t.size - 4)=tt at *;refine (L2 tt _ (by unfold maxLen;omega)).mono ?_;rintro e w2 ⟨cc,rfl,hb2,hc1,hc2⟩;have hbA:=(hb.trans hb1).trans hb2;have q6:=hbA.cell a6;have r6:=hbA.cell b6;go_upto_region 4 with fail
  go_cut [9] (fun v9 wc=>∃z:ByteArray,v9= .string z∧z.size≤27∧Aa w2 wc)
  case first=>
   go_region_held3 (fun w'=>Aa w2 w'∧w'.cell? ⟨pa,6,none⟩=some (.int .i64 ga)∧w'.cell? ⟨pb,6,none⟩=some (.int .i64 gb)) ((refine Jj ?_ q6 r6;(repeat (first|exact jD _|assumption|refine jA ?_|refine jB ?_|refine jC ?_|refine Aa.step_set ?_ (by simp <;>omega) _|refine jE ?_ (by assumption))))) ((go_at_call 107;refine (FS _ 3 _ _ [ga,cc,gb] _ rfl (by decide) SV (by intro t ht;match t,ht with|0,_=>simp|1,_=>simp|2,_=>simp) (Aj.three hga ⟨by omega,by omega⟩ hgb)).mono ?_;rintro e w4 ⟨z,rfl,hb4,hz⟩))
   all_goals
    go_wp2_with fail;go_meet
    case rel=>exact ⟨z,rfl,by omega,by (repeat (first|exact jD _|assumption|refine jA ?_|refine jB ?_|refine jC ?_|refine Aa.step_set ?_ (by simp <;>omega) _|refine jE ?_ (by assumption)))⟩
  case rest=>
   obtain ⟨z,rfl,hz9,hbz⟩:=hcut;have hbB:=hbA.trans hbz;have s7:=hbB.cell b7;go_wp2_with fail;refine (Pu BB vBb _ (hpBb.later hbB) hBo.2.2.1).mono ?_;rintro e w3 ⟨nm,rfl,hb3,hnm⟩;have hnm2:nm.size≤81:=hnm;clear hnm;have hbC:=hbB.trans hb3;have s8:=hbC.cell b8;obtain ⟨ao,cap,rfl,hcE⟩:=hpEb.off;go_wp2_with fail;refine (FS _ 3 _ _ [(n:Int),m,EB.length - n - m] _ rfl (by decide) RI (by intro t ht;match t,ht with|0,_=>simp|1,_=>simp|2,_=>simp) (Aj.three ⟨by omega,by omega⟩ ⟨by omega,by omega⟩ ⟨by omega,by omega⟩)).mono ?_;rintro e w5 ⟨kk,rfl,hb5,hkk⟩;have hbD:Aa w w5:=hbC.trans (by (repeat (first|exact jD _|assumption|refine jA ?_|refine jB ?_|refine jC ?_|refine Aa.step_set ?_ (by simp <;>omega) _|refine jE ?_ (by assumption))));have t8:=hbD.cell b8;go_upto_region 7 with fail
   have hcapE:EB.length≤cap:=by
    rcases hpEb.form with ⟨h1,h2⟩|⟨g,cap',h1,h2,_⟩
    ·simp [h2]
    ·simp only [Value.slice.injEq] at h1;omega
   have hsl:=fun wx=>SE wx ao EB.length cap n m hm hcapE
   have hwr:IntKind.i64.wrap ((EB.length:Int) - (m:Int))=(EB.length:Int) - (m:Int):=by rw [IntKind.wrap_i64];omega
   go_cut [12] (fun v12 wc=>∃z:ByteArray,v12= .string z∧z.size≤3780000∧Aa w5 wc)
   case first=>
    have hEo:Eb w (.slice ao EB.length cap) EB:=⟨ao,cap,rfl,hcE⟩;have hcut:=hEo.cut hm hcapE;have hlc:((EB.drop n).take (EB.length - m - n)).length≤140000:=by simp;omega
    have hmem:∀x∈(EB.drop n).take (EB.length - m - n),x∈EB:=fun x hx=>List.mem_of_mem_drop (List.mem_of_mem_take hx)
    go_region_held3 (fun w'=>Aa w5 w'∧w'.cell? ⟨pb,8,none⟩=some (.slice ao EB.length cap)∧True) ((exact ⟨by solve_by_elim [jA,jB,jC,jD,jE],Aa.cell (by solve_by_elim [jA,jB,jC,jD,jE]) t8,trivial⟩)) ((go_at_call 156;refine (Ov pb cb gb BB EB _ _ _ (hB0.later (hbD.trans (by solve_by_elim [jA,jB,jC,jD,jE]))) hBo.2.2.1.1 (hcut.later (hbD.trans (by solve_by_elim [jA,jB,jC,jD,jE]))) hlc (fun x hx=>⟨hBo.2.2.2.2.1 x (hmem x hx),(hBI x (hmem x hx)).1.i64,(hBI x (hmem x hx)).2.i64⟩)).mono ?_;rintro e w6 ⟨z6,rfl,hb6,hz6⟩))
    all_goals
     go_wp2_with fail;go_meet
     case rel=>exact ⟨z6,rfl,by have h:=hz6;omega,by solve_by_elim [jA,jB,jC,jD,jE]⟩
   case rest=>
    obtain ⟨z12,rfl,hz12,hb12⟩:=hcut;clear hsl;go_wp2_with fail;have hkk2:kk.size≤27:=hkk
    have hsz:(({data:=#[67,80]}:ByteArray)++z++nm++kk++z12).size≤8990000:=by
     simp only [jY,show (({data:=#[67,80]}:ByteArray)).size=2 from rfl];omega
    refine (D3 _ _ (by omega)).mono ?_;rintro e w7 ⟨t7,rfl,hb7, -⟩;go_wp2;go_ret;exact ⟨_,rfl,hbD.trans (by solve_by_elim [jA,jB,jC,jD,jE]),trivial⟩
end Go.Proofs.YtpapdkhjdelfcabGreat
