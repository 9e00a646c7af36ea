import Derived.Test.YtpapdkhjdelfcabGreatSAG
import Derived.Lib.LazyBuf
import Derived.Test.YtpapdkhjdelfcabGreatSAF
import Derived.Deep.QuietTactic
import Derived.BigQuiet
set_option maxRecDepth 100000
set_option maxHeartbeats 4000000
namespace Go.Proofs.YtpapdkhjdelfcabGreat
open Go.RowKit
theorem run_copy_str {P:Program} (w:World) (dT sT ty elem:TypeId) (b o dLen dCap:Nat) (t:ByteArray)
  (hu:P.underlying dT=some (.slice elem)) (hz:∀w,(Go.sizeOf elem).run P w= .ok 1 w)
  (hc:∀j,j<dLen→(w.cell? ⟨b,o+j,none⟩).isSome=true) (hf:∀j,j<dLen→w.frozen? ⟨b,o+j,none⟩=false):
  (Builtin.copy_ #[dT,sT] ty #[.slice (some ⟨b,o,none⟩) dLen dCap,.string t]).run P w= .ok (goInt (Nat.min t.size dLen)) (w.setCells b o ((t.data.toList.map fun x=>Value.int .u8 (x.toNat:Int)).take (Nat.min t.size dLen))):=by
 have hl:((t.data.toList.map fun x=>Value.int .u8 (x.toNat:Int)).take (Nat.min t.size dLen)).length=Nat.min t.size dLen:=by
  rw [List.length_take,List.length_map,←Lib.size_eq];exact Nat.min_eq_left (Nat.min_le_left _ _)
 have hle:Nat.min t.size dLen≤dLen:=Nat.min_le_right _ _
 have hst := run_storeCells_cells (P := P) b o ((t.data.toList.map fun x => Value.int .u8 (x.toNat : Int)).take (Nat.min t.size dLen)) 0 w (by rw [hl]; intro j hj; simpa using hc j (by omega)) (by rw [hl]; intro j hj; simpa using hf j (by omega)) (by
   intro v hv
   obtain ⟨x, _, rfl⟩ := List.mem_map.1 (List.mem_of_mem_take hv)
   rfl)
 simp [Builtin.copy_,run_underlying hu,Builtin.lenOf,Builtin.firstCells,hz];rw [hst];rfl
theorem own_setCells {base g n cap:Nat} {e:TypeId}:∀(vs:List Value) (o:Nat) (w:World) (xs:List Value),w.ownsRow base e 1 (.slice (some ⟨g,0,none⟩) n cap) n xs→o+vs.length≤xs.length→(w.setCells g o vs).ownsRow base e 1 (.slice (some ⟨g,0,none⟩) n cap) n (xs.take o++vs++xs.drop (o+vs.length))∧w.grownBy (w.setCells g o vs) (some g)
 |[],o,w,xs,h,_=>⟨by show w.ownsRow _ _ _ _ _ _;simpa using h,World.grownBy.refl w _⟩
 |v::r,o,w,xs,h,hl=>by
  have hl2:o<xs.length:=by simp only [List.length_cons] at hl;omega
  have hs:=World.ownsRow.stored h o v;have ih:=own_setCells r (o+1) (w.setCell ⟨g,o,none⟩ v) (xs.set o v) hs.1 (by simp only [List.length_cons,List.length_set] at hl ⊢;omega)
  have e1:(xs.set o v).take (o+1)=xs.take o++[v]:=by
   rw [List.take_succ_eq_append_getElem (by rw [List.length_set];exact hl2),List.take_set_of_le (Nat.le_refl o),List.getElem_set_self]
  have e2:(xs.set o v).drop (o+1+r.length)=xs.drop (o+1+r.length):=List.drop_set_of_lt (by omega);rw [e1,e2] at ih;refine ⟨?_,⟨ih.2.os.trans hs.2.os,ih.2.tape.trans hs.2.tape,ih.2.output.trans hs.2.output,Nat.le_trans hs.2.size ih.2.size,fun k hk hne=>(ih.2.block k (Nat.lt_of_lt_of_le hk hs.2.size) hne).trans (hs.2.block k hk hne)⟩⟩;have:=ih.1;rw [show o+(v::r).length=o+1+r.length by simp only [List.length_cons];omega];show ((w.setCell ⟨g,o,none⟩ v).setCells g (o+1) r).ownsRow _ _ _ _ _ _;simpa using this
def RSized (w:World) (n:Nat) (e:Ending) (w':World):Prop:=∃x:ByteArray,e= .returned (.string x)∧Bel w w'∧x.size=n
theorem fill_is (t:ByteArray) (n:Nat) (w:World) (hn:0<n) (hn2:n≤65536):
  Calls Tryz.prog 34 #[.string t,.int .i64 n] w (RSized w n):=by
 obtain ⟨i0,hi,hz0,hz1,hz2⟩:=info_parts Tryz.infoByte;have hsz:∀wx:World,(Go.sizeOf 5).run Tryz.prog wx= .ok 1 wx:=fun wx=>by kernel_rfl
 go_enter Tryz.func34,Tryz.ntmps34;go_wp2_with (first|(at_make;refine wpList_make_full _ rfl _ _ 105 rfl w.heap.size 5 i0 (.int .u8 0) 1 Tryz.underlying105 hi hz0 hz1 _ _ _ _ n rfl rfl rfl rfl ?b2 ?b3 ?b4 ?_))
 case b2=>first|omega|(rw [hz2];omega)
 case b3=>unfold maxLen;omega
 case b4=>exact Nat.le_refl _
 intro w1 hown1 hgrow1;have hb1:Bel w w1:=(Bel.refl _).grown hgrow1 (fun g hg=>by cases hg)
 have hcs:(madeCells #[Value.int .u8 0] n).toList=(List.replicate n (0:UInt8)).map byteV:=by
  rw [toList_madeCells_one,List.map_replicate];rfl
 have hown:w1.ownsRow w.heap.size 5 1 (.slice (some ⟨w.heap.size,0,none⟩) n n) n ((List.replicate n (0:UInt8)).map byteV):=by
  rw [←hcs];exact hown1
 have hc:∀j,j<n→(w1.cell? ⟨w.heap.size,0+j,none⟩).isSome=true:=fun j hj=>by
  rw [Nat.zero_add,World.ownsRow.cellAt hown j (by omega)];simp [hj]
 have hf:∀j,j<n→w1.frozen? ⟨w.heap.size,0+j,none⟩=false:=fun j hj=>by rw [Nat.zero_add];exact World.ownsRow.frozenAt hown j
 obtain ⟨cs,hcs2⟩:∃cs,cs=(t.data.toList.map fun x=>Value.int .u8 (x.toNat:Int)).take (Nat.min t.size n):=⟨_,rfl⟩;have hl:cs.length≤n:=by rw [hcs2,List.length_take];exact Nat.le_trans (Nat.min_le_left _ _) (Nat.min_le_right _ _)
 have h2:=own_setCells cs 0 w1 _ hown (by simp;omega)
 have hlist:(((List.replicate n (0:UInt8)).map byteV).take 0++cs++((List.replicate n (0:UInt8)).map byteV).drop (0+cs.length))=((t.data.toList.take (Nat.min t.size n))++List.replicate (n - cs.length) (0:UInt8)).map byteV:=by
  rw [hcs2,←List.map_take,List.map_append,List.map_replicate,List.map_replicate];simp;rfl
 rw [hlist] at h2;obtain ⟨bl,hbl⟩:∃bl:List UInt8,bl=(t.data.toList.take (Nat.min t.size n))++List.replicate (n - cs.length) (0:UInt8):=⟨_,rfl⟩
 have hbll:bl.length=n:=by
  have:=h2.1.1;rw [←hbl] at this;simpa using this
 rw [←hbl] at h2;have hb2:Bel w (w1.setCells w.heap.size 0 cs):=hb1.grown h2.2 (fun g hg=>by cases hg;exact Nat.le_refl _);have hcv:=conv_head (l:=bl) (by rw [hbll];exact h2.1) (by omega);have hrun:=run_copy_str (P:=Tryz.prog) w1 105 9 3 5 w.heap.size 0 n n t Tryz.underlying105 hsz hc hf;rw [←hcs2] at hrun;clear hgrow1 hown1 hown hlist h2 hbl hcs2 hc hf hcs;go_wp2;go_ret;exact ⟨_,rfl,hb2,by simpa [ByteArray.size] using hbll⟩
end Go.Proofs.YtpapdkhjdelfcabGreat

namespace Go.Proofs.YtpapdkhjdelfcabGreat
open Go.RowKit
def FS (part:Int):Prop:=FD part
def opV (kind a b c:Int) (s:ByteArray):Value:= .agg #[.int .i64 kind,.int .i64 a,.int .i64 b,.int .i64 c,.string s]
theorem RStep.mono {W0:World} {p s:Nat} {F G:Int→Prop} {e:Ending} {w':World} (h:RStep W0 p s F e w') (hFG:∀x,F x→G x):RStep W0 p s G e w':=by
 rcases h with h|⟨h1,h2,part,h3,h4⟩
 ·exact Or.inl h
 ·exact Or.inr ⟨h1,h2,part,hFG _ h3,h4⟩
theorem step_num (W0:World) (p s:Nat) (k:KI) (a b c:Int) (S:ByteArray) (w:World) (h:KInv W0 p s k w) (hR:k.Rdy s) (ha:I64 a) (hb:I64 b):
  Calls Tryz.prog 36 #[.pointer (some ⟨p,0,none⟩),opV 1 a b c S] w (RStep W0 p (s+1) FS):=by
 have hpk:=fun wx=>pick_is a 5 wx ha (by omega) (by omega)
 obtain ⟨h1,h2⟩:=pickF_range a 5 (by omega);generalize pickF a 5=k5 at *;have hnu:=fun wx (b':Bel w wx)=>number_is W0 p s k k5 b wx (h.later b') hR h1 h2 hb
 clear h;unfold opV;go_enter Tryz.func36,Tryz.ntmps36;go_wp2_with fail;refine (hpk _).mono ?_;rintro e w' ⟨rfl,rfl⟩;go_wp2_with fail;refine (hnu _ (by (repeat (first|exact Bel.refl _|assumption|refine Bel.step_alloc ?_ _|refine Bel.step_drew ?_|refine Bel.step_drewN ?_ _|refine Bel.step_set ?_ (by simp <;>omega) _|refine Bel.trans ?_ (by assumption))))).mono ?_;rintro e w2 ⟨rfl,k2,hk2,hR2⟩;have HK:=Hid.mk hk2;clear hk2 hnu hpk;go_wp2;go_ret;exact Or.inl ⟨rfl,k2,HK.out.up (by omega),hR2.up (by omega)⟩
theorem step_key (W0:World) (p s:Nat) (k:KI) (a b c:Int) (S:ByteArray) (w:World) (h:KInv W0 p s k w) (hR:k.Rdy s):
  Calls Tryz.prog 36 #[.pointer (some ⟨p,0,none⟩),opV 2 a b c S] w (RStep W0 p (s+1) FS):=by
 have hfi:=fun wx=>fill_is S 16 wx (by omega) (by omega)
 have HI:=Hid.mk h;have c5:=h.at_.1 5 _ rfl;have f5:=h.at_.2 5 (by rw [wl_len];decide);clear h;unfold opV;go_enter Tryz.func36,Tryz.ntmps36;go_wp2_with fail;refine (hfi _).mono ?_;rintro e w2 ⟨x,rfl,hb2,hx⟩;have hbw:Bel w w2:=(Bel.step_alloc (Bel.refl w) _).trans hb2;have d5:=hbw.cell c5;have g5:=hbw.frozen c5 f5;have hI2:=HI.out.later hbw;have HW:=Hid.mk (hI2.at_.set 5 (.string x));have hcO:=hI2.cok;have hok:Hid (Cfg.OK {k.c with key:=x}):=⟨hcO.1,hcO.2.1,hcO.2.2.1,hcO.2.2.2.1,hcO.2.2.2.2.1,hcO.2.2.2.2.2.1,hcO.2.2.2.2.2.2.1,hcO.2.2.2.2.2.2.2.1,hcO.2.2.2.2.2.2.2.2.1,hx,hcO.2.2.2.2.2.2.2.2.2.2.1,hcO.2.2.2.2.2.2.2.2.2.2.2⟩;have HI2:=Hid.mk hI2;clear hI2 hcO hfi c5 f5 hb2 hx;go_wp2;go_ret;exact Or.inl ⟨rfl,_,(HI2.out.setW (c':={k.c with key:=x}) (part':=k.part) ((But.refl _ _).set (by simp) _) HW.out hok.out HI2.out.isz).up (by omega),hR.up (by omega)⟩
theorem step_new (W0:World) (p s:Nat) (k:KI) (a b c:Int) (S:ByteArray) (w:World) (h:KInv W0 p s k w) (_hR:k.Rdy s):
  Calls Tryz.prog 36 #[.pointer (some ⟨p,0,none⟩),opV 3 a b c S] w (RStep W0 p (s+1) FS):=by
 have hbg:=fun wx (b':Bel w wx)=>kbegin_is W0 p (s+1) k.part k.c _ _ _ _ _ _ _ _ _ _ _ _ _ wx ((h.later b').at_:WAt p (wl0 k.part k.c [.pointer (some ⟨k.q,0,none⟩),.int .i64 k.on.alg,.int .i64 k.on.slots,.int .i64 k.on.points,.int .i64 k.on.probes,.string k.on.key,.int .i64 k.on.formats,k.vb,k.vw,k.vs,k.vh,k.vf,.string k.img]) wx) h.cok (h.later b').bel (h.lt p (h.inM p h.p_in)).1
 clear h;unfold opV;go_enter Tryz.func36,Tryz.ntmps36;go_wp2_with fail;refine (hbg _ (by (repeat (first|exact Bel.refl _|assumption|refine Bel.step_alloc ?_ _|refine Bel.step_drew ?_|refine Bel.step_drewN ?_ _|refine Bel.step_set ?_ (by simp <;>omega) _|refine Bel.trans ?_ (by assumption))))).mono ?_;rintro e w2 ⟨rfl,k2,hk2,hR2⟩;have HK:=Hid.mk hk2;clear hk2 hbg;go_wp2;go_ret;exact Or.inl ⟨rfl,k2,HK.out,hR2⟩
theorem step_delta (W0:World) (p s:Nat) (k:KI) (a b c:Int) (S:ByteArray) (w:World) (h:KInv W0 p s k w) (hR:k.Rdy s) (hs:s≤65600) (ha:I64 a) (hb:I64 b) (hS:S.size≤maxLen):
  Calls Tryz.prog 36 #[.pointer (some ⟨p,0,none⟩),opV 4 a b c S] w (RStep W0 p (s+1) FS):=by
 have hdl:=fun wx (b':Bel w wx)=>delta_is W0 p s k a b S wx (h.later b') hR hs ha hb hS
 clear h;unfold opV;go_enter Tryz.func36,Tryz.ntmps36;go_wp2_with fail;refine (hdl _ (by (repeat (first|exact Bel.refl _|assumption|refine Bel.step_alloc ?_ _|refine Bel.step_drew ?_|refine Bel.step_drewN ?_ _|refine Bel.step_set ?_ (by simp <;>omega) _|refine Bel.trans ?_ (by assumption))))).mono ?_;intro e w2 hr;rcases hr with ⟨rfl,k2,hk2,hR2⟩|⟨rfl,hb2,part,hF,hcell⟩
 ·have HK:=Hid.mk hk2;clear hk2 hdl;go_wp2;go_ret;exact Or.inl ⟨rfl,k2,HK.out,hR2⟩
 ·have HC:=Hid.mk hcell;clear hdl hcell;go_wp2;go_ret;exact Or.inr ⟨rfl,hb2,part,hF,HC.out⟩
theorem step_drop (W0:World) (p s:Nat) (k:KI) (a b c:Int) (S:ByteArray) (w:World) (h:KInv W0 p s k w) (hR:k.Rdy s):
  Calls Tryz.prog 36 #[.pointer (some ⟨p,0,none⟩),opV 5 a b c S] w (RStep W0 p (s+1) FS):=by
 have HI:=Hid.mk h;have c7:=h.at_.1 7 _ rfl;have hplt:=h.at_.lt (by rw [wl_len];decide);clear h;unfold opV;go_enter Tryz.func36,Tryz.ntmps36;go_wp2_with fail;refine (drop_is _ _).mono ?_;rintro e w2 ⟨rfl,rfl⟩;go_wp2;go_ret;exact Or.inl ⟨rfl,k,(HI.out.later (by (repeat (first|exact Bel.refl _|assumption|refine Bel.step_alloc ?_ _|refine Bel.step_drew ?_|refine Bel.step_drewN ?_ _|refine Bel.step_set ?_ (by simp <;>omega) _|refine Bel.trans ?_ (by assumption))))).up (by omega),hR.up (by omega)⟩
theorem step_same (W0:World) (p s:Nat) (k:KI) (a b c:Int) (S:ByteArray) (w:World) (h:KInv W0 p s k w) (hR:k.Rdy s):
  Calls Tryz.prog 36 #[.pointer (some ⟨p,0,none⟩),opV 12 a b c S] w (RStep W0 p (s+1) FS):=by
 have hfr:=fun wx (b':Bel w wx)=>fresh_is W0 p s k wx (h.later b')
 have HI:=Hid.mk h;clear h;unfold opV;go_enter Tryz.func36,Tryz.ntmps36;go_wp2_with fail;refine (hfr _ (by (repeat (first|exact Bel.refl _|assumption|refine Bel.step_alloc ?_ _|refine Bel.step_drew ?_|refine Bel.step_drewN ?_ _|refine Bel.step_set ?_ (by simp <;>omega) _|refine Bel.trans ?_ (by assumption))))).mono ?_;rintro e w2 ⟨x,rfl,hb2,rfl⟩;have hbw:Bel w w2:=(Bel.step_alloc (Bel.refl w) _).trans hb2;clear hfr;go_wp2;go_ret;exact Or.inl ⟨rfl,k,(HI.out.later hbw).up (by omega),hR.up (by omega)⟩
end Go.Proofs.YtpapdkhjdelfcabGreat

namespace Go.Proofs.YtpapdkhjdelfcabGreat
open Go.RowKit
theorem Tr_join {on:Cfg} {bs:List (List BK)} {g:Int} {B:List BK} {fr:List ByteArray} {pl:List Pln} {hd sp:List Int} {fm:Nat} (h:TruP on bs g B fr pl hd sp) (hl:hd.length=pl.length) (hl2:sp.length=pl.length):TruP on bs g B fr (pl++[plnNew fm]) (hd++[0]) (sp++[(fm:Int)]):=by
 refine ⟨h.hist,h.glen,h.last,h.frT,fun p hp=>?_,fun n x p hx hp=>?_,fun n x p hx hp=>?_⟩
 ·rcases List.mem_append.1 hp with e|e
  ·exact h.plT p e
  ·rw [List.mem_singleton.1 e];exact new_U _ _ _
 ·by_cases hn:n<hd.length
  ·rw [List.getElem?_append_left hn] at hx;rw [List.getElem?_append_left (by omega)] at hp;exact h.hdT n x p hx hp
  ·have hn2:n=hd.length:=by
    have:=(List.getElem?_eq_some_iff.1 hx).1;rw [List.length_append,List.length_singleton] at this;omega
   rw [List.getElem?_append_right (by omega),hn2,Nat.sub_self] at hx
   have:(0:Int)=x:=Option.some.inj hx
   omega
 ·by_cases hn:n<sp.length
  ·rw [List.getElem?_append_left hn] at hx;rw [List.getElem?_append_left (by omega)] at hp;exact h.spT n x p hx hp
  ·have hn2:n=sp.length:=by
    have:=(List.getElem?_eq_some_iff.1 hx).1;rw [List.length_append,List.length_singleton] at this;omega
   rw [List.getElem?_append_right (by omega),hn2,Nat.sub_self] at hx
   rw [List.getElem?_append_right (by omega),hn2,hl2,Nat.sub_self] at hp
   have e1:((fm:Nat):Int)=x:=Option.some.inj hx
   have e2:plnNew fm=p:=Option.some.inj hp
   rw [←e1,←e2]
   rfl
theorem step_join (W0:World) (p s:Nat) (k:KI) (a b c:Int) (S:ByteArray) (w:World) (h:KInv W0 p s k w) (hR:k.Rdy s) (ha:I64 a):
  Calls Tryz.prog 36 #[.pointer (some ⟨p,0,none⟩),opV 6 a b c S] w (RStep W0 p (s+1) FS):=by
 have hpk:=fun wx=>pick_is a 3 wx ha (by omega) (by omega)
 obtain ⟨h1,h2⟩:=pickF_range a 3 (by omega);obtain ⟨m,hm⟩:=Int.eq_ofNat_of_zero_le h1;rw [hm] at hpk h2;have hlen:=h.hlen;have hslen:=h.slen;obtain ⟨hR1,hR2,hR3,hR4⟩:=hR;have HR4:=Hid.mk hR4;clear hR4;have c7:=h.at_.1 7 _ rfl;have c17:=h.at_.1 17 _ rfl;have hplt:=h.at_.lt (by rw [wl_len];decide);have hw0:=h.bel.size;obtain ⟨ah,caph,hvh⟩:=own_slice h.held;obtain ⟨asp,caps,hvs⟩:=own_slice h.speaks;have HI:=Hid.mk h;have hle4:=h.svc.le4;have hle4':k.pp.length≤4:=hle4;by_cases hfull:k.pp.length=4
 ·have hjf:=fun wx (b':Bel w wx)=>joinfull_v (h.later b').svc (by show 4≤k.pp.length;omega) (f:=1+(m:Int)) (by omega)
  have c17':w.cell? ⟨p,17,none⟩=some (.slice ah 4 caph):=by rw [c17,hvh];congr 2;omega
  clear h hle4 c17 h1 hm;unfold opV;go_enter Tryz.func36,Tryz.ntmps36;go_wp2_with fail;refine (hpk _).mono ?_;rintro e w2 ⟨rfl,rfl⟩;clear hpk;go_wp2_with fail;refine (hjf _ (by (repeat (first|exact Bel.refl _|assumption|refine Bel.step_alloc ?_ _|refine Bel.step_drew ?_|refine Bel.step_drewN ?_ _|refine Bel.step_set ?_ (by simp <;>omega) _|refine Bel.trans ?_ (by assumption))))).mono ?_;rintro e w2 ⟨rfl,hb2⟩;have hbw:Bel w w2:=Bel.trans (by (repeat (first|exact Bel.refl _|assumption|refine Bel.step_alloc ?_ _|refine Bel.step_drew ?_|refine Bel.step_drewN ?_ _|refine Bel.step_set ?_ (by simp <;>omega) _|refine Bel.trans ?_ (by assumption)))) hb2;have d17:=hbw.cell c17';clear hjf;go_wp2;go_ret;exact Or.inl ⟨rfl,k,(HI.out.later hbw).up (by omega),⟨hR1,hR2,Nat.le_trans hR3 (Nat.mul_le_mul_right _ (by omega)),HR4.out⟩⟩
 have hjn:=fun wx (b':Bel w wx)=>join_v (h.later b').svc (fun j hj=>((h.later b').lt j hj).2) (by show k.pp.length<4;omega) (fm:=1+m) (by omega)
 have em:((1+m:Nat):Int)=1+(m:Int):=by omega
 rw [em] at hjn;have HJ:=Hid.mk hjn;clear h hle4 c17 h1 hm hjn;obtain ⟨i0,hi,hz0,hz1,hz2⟩:=info_parts Tryz.infoInt;unfold opV;go_enter Tryz.func36,Tryz.ntmps36;go_wp2_with fail;refine (hpk _).mono ?_;rintro e w2 ⟨rfl,rfl⟩;clear hpk;go_wp2_with fail;refine (HJ.out _ (by (repeat (first|exact Bel.refl _|assumption|refine Bel.step_alloc ?_ _|refine Bel.step_drew ?_|refine Bel.step_drewN ?_ _|refine Bel.step_set ?_ (by simp <;>omega) _|refine Bel.trans ?_ (by assumption))))).mono ?_;intro e w2 hr
 have hbt:Hid (But (k.q::k.L) (w.alloc (.cells #[.int .i64 6,.int .i64 a,.int .i64 b,.int .i64 c,.string S] 48)) w2):=by
  obtain ⟨_,_,_,hh,_⟩:=hr;exact hh
 obtain ⟨rfl,K,L',pz,hk2⟩:=(HI.out.later (Bel.step_alloc (Bel.refl w) _)).joined hr
 have hnq:w.heap.size∉(k.q::k.L):=fun e=>by
  have hm:w.heap.size∈k.svp.own k.q:=List.mem_cons.2 ((List.mem_cons.1 e).imp id (List.mem_append_left _));have:=(HI.out.lt _ (HI.out.inM _ (List.mem_cons_of_mem _ (List.mem_append_right _ hm)))).2;omega
 have x0:w2.cell? ⟨w.heap.size,0,none⟩=some (.int .i64 6):=hbt.out.cell (by simp) hnq;have x7:=hk2.at_.1 7 _ rfl;have x17:w2.cell? ⟨p,17,none⟩=some (.slice ah k.hd.length caph):=by rw [←hvh];exact hk2.at_.1 17 _ rfl
 have y17:=hk2.at_.2 17 (by rw [wl_len];decide);have hs2:=Nat.le_trans (by simp:w.heap.size+1≤(w.alloc (.cells #[.int .i64 6,.int .i64 a,.int .i64 b,.int .i64 c,.string S] 48)).heap.size) hbt.out.size
 have HR2:Hid (w2.ownsRow W0.heap.size 3 1 (.slice ah k.hd.length caph) k.hd.length (k.hd.map (Value.int .i64))):=by
  show w2.ownsRow _ _ _ _ _ _;rw [←hvh];exact hk2.held
 have HK2:=Hid.mk hk2;have hgl2:Hid (gl k.vh=(Value.slice ah k.hd.length caph).ownBlock.toList):=by show gl k.vh=_;rw [hvh];rfl
 have hpn2:p∉gl k.vh:=fun e=>HI.out.apart.2.2.1 p e rfl
 have hlb:((k.hd.length:Int)==4)=false:=by rw [beq_eq_false_iff_ne];omega
 obtain ⟨nh,hnh⟩:∃nh,nh=k.hd.length:=⟨_,rfl⟩;obtain ⟨xh,hxh⟩:∃xh,xh=k.hd.map (Value.int .i64):=⟨_,rfl⟩;rw [←hnh] at x17 HR2 hlb hgl2;rw [←hxh] at HR2;have hxl:xh.length=nh:=by rw [hxh,hnh,List.length_map]
 have HNH:=Hid.mk hnh;have HXH:=Hid.mk hxh;have hnh1:nh+k.dh=k.pp.length:=by omega
 clear hnh hxh;clear hk2 hr HJ c7 hbt hnq;go_wp2_with (first|(at_builtin;refine wpList_append_lies _ rfl _ _ 59 rfl W0.heap.size 3 i0 (.int .i64 0) 1 8 Tryz.underlying59 hi hz0 hz1 hz2 rfl (by decide) _ nh xh rfl ?p1a ⟨w2.heap.size,0,none⟩ 1 1 [.int .i64 0] rfl rfl ?da1 ?da2 (by decide) ?da3 ?da4 ?da5 _ rfl ?_))
 case p1a=>exact World.ownsRow.alloc HR2.out _
 try (case da1=>exact one_new _ _ _ _ (by simp))
 case da2=>first|rfl|(intro u hu;simp at hu;subst hu;rfl)
 case da3=>unfold maxLen;omega
 case da4=>omega
 case da5=>first|omega|(simp;omega)
 intro gh ch w3 hown3 hgrow3 hat3 hlt3;have b3:But (gl k.vh) w2 w3:=by rw [hgl2.out];exact (But.of_bel (Bel.step_alloc (Bel.refl w2) _)).trans (grown_but hgrow3)
 have hat3':k.vh.ownBlock=some gh∨w2.heap.size≤gh:=by
  rw [hvh,←HNH.out];exact hat3.imp id (fun e=>by first|omega|(rw [e];simp))
 have hk3:=HK2.out.heldApp (x:=0) b3 (by rw [←HNH.out,←HXH.out];exact hown3) hat3' (by omega) (by show 1≤k.dh+1;omega);rw [←HNH.out] at hk3;have z7:=b3.cell x7 hpn2;have z17:=b3.cell x17 hpn2;have t17:=b3.frozen x17 hpn2 y17;have hs3:=b3.size;have z16:(w3.setCell ⟨p,17,none⟩ (.slice (some ⟨gh,0,none⟩) (nh+1) ch)).cell? ⟨p,16,none⟩=some (.slice asp k.sp.length caps):=by rw [←hvs];exact hk3.at_.1 16 _ rfl
 have t16:(w3.setCell ⟨p,17,none⟩ (.slice (some ⟨gh,0,none⟩) (nh+1) ch)).frozen? ⟨p,16,none⟩=false:=hk3.at_.2 16 (by rw [wl_len];decide);rw [set_other (by simp)] at z16;rw [frozen_set] at t16
 have HR3:Hid ((w3.setCell ⟨p,17,none⟩ (.slice (some ⟨gh,0,none⟩) (nh+1) ch)).ownsRow W0.heap.size 3 1 (.slice asp k.sp.length caps) k.sp.length (k.sp.map (Value.int .i64))):=by
  show World.ownsRow _ _ _ _ _ _ _;rw [←hvs];exact hk3.speaks
 have HK3:=Hid.mk hk3;have hgl3:Hid (gl k.vs=(Value.slice asp k.sp.length caps).ownBlock.toList):=by show gl k.vs=_;rw [hvs];rfl
 have hpn3:p∉gl k.vs:=fun e=>HI.out.apart.2.1 p e rfl
 obtain ⟨ns,hns⟩:∃ns,ns=k.sp.length:=⟨_,rfl⟩;obtain ⟨xs,hxs⟩:∃xs,xs=k.sp.map (Value.int .i64):=⟨_,rfl⟩;rw [←hns] at z16 HR3 hgl3;rw [←hxs] at HR3;have hxl3:xs.length=ns:=by rw [hxs,hns,List.length_map]
 have HNS:=Hid.mk hns;have HXS:=Hid.mk hxs;have hns1:ns+k.ds=k.pp.length:=by omega
 clear hns hxs;have x0':w3.cell? ⟨w.heap.size,0,none⟩=some (.int .i64 6)∨True:=Or.inr trivial;have hsz3:(w3.setCell ⟨p,17,none⟩ (.slice (some ⟨gh,0,none⟩) (nh+1) ch)).heap.size=w3.heap.size:=size_setCell _ _ _;clear hown3 hgrow3 hat3 hk3 HK2 HR2 x7 x17 y17 b3 hat3' x0 x0';go_wp2_with (first|(at_builtin;refine wpList_append_lies _ rfl _ _ 59 rfl W0.heap.size 3 i0 (.int .i64 0) 1 8 Tryz.underlying59 hi hz0 hz1 hz2 rfl (by decide) _ ns xs rfl ?p1b ⟨w3.heap.size,0,none⟩ 1 1 [.int .i64 (1+(m:Int))] rfl rfl ?db1 ?db2 (by decide) ?db3 ?db4 ?db5 _ rfl ?_))
 case p1b=>exact World.ownsRow.alloc HR3.out _
 try (case db1=>exact one_new _ _ _ _ (by simp))
 case db2=>first|rfl|(intro u hu;simp at hu;subst hu;rfl)
 case db3=>unfold maxLen;omega
 case db4=>omega
 case db5=>first|omega|(simp;omega)
 intro gs cs w5 hown5 hgrow5 hat5 hlt5;have b5:But (gl k.vs) (w3.setCell ⟨p,17,none⟩ (.slice (some ⟨gh,0,none⟩) (nh+1) ch)) w5:=by rw [hgl3.out];exact (But.of_bel (Bel.step_alloc (Bel.refl _) _)).trans (grown_but hgrow5)
 have hat5':k.vs.ownBlock=some gs∨(w3.setCell ⟨p,17,none⟩ (.slice (some ⟨gh,0,none⟩) (nh+1) ch)).heap.size≤gs:=by
  rw [hvs,←HNS.out,hsz3];exact hat5.imp id (fun e=>by first|omega|(rw [e];simp))
 have hk5:=HK3.out.spApp (x:=1+(m:Int)) b5 (by rw [←HNS.out,←HXS.out];exact hown5) hat5' (by show 1≤k.ds+1;omega);rw [←HNS.out] at hk5;have q17:=b5.cell (set_same z17) hpn3;have q16:=b5.cell (by rw [set_other (by simp)];exact z16:(w3.setCell ⟨p,17,none⟩ (.slice (some ⟨gh,0,none⟩) (nh+1) ch)).cell? ⟨p,16,none⟩=_) hpn3;have r16:=b5.frozen (by rw [set_other (by simp)];exact z16:(w3.setCell ⟨p,17,none⟩ (.slice (some ⟨gh,0,none⟩) (nh+1) ch)).cell? ⟨p,16,none⟩=_) hpn3 (by rw [frozen_set];exact t16);have hpe:((k.pp.length:Int))=(nh:Int):=by omega
 have HK5:=Hid.mk hk5;clear hown5 hgrow5 hat5 hk5 HK3 HR3 z16 z17 t16 t17 b5 hat5';rw [hpe];go_wp2
 all_goals go_ret
 all_goals exact Or.inl ⟨rfl, _, HK5.out.up (by omega), ⟨by show k.ds + 1 - 1 = 0; omega, by show k.dh + 1 - 1 = 0; omega, Nat.le_trans hR3 (Nat.mul_le_mul_right _ (by omega)), HR4.out.1, HR4.out.2.1, by
   show TruP k.on k.bs k.g k.B k.fr ((k.pp ++ [(pz, plnNew (1 + m), [])]).map fun (y : Nat × Pln × List Nat) => y.2.1) (k.hd ++ [0]) (k.sp ++ [1 + (m : Int)])
   rw [List.map_append, show (1 + (m : Int)) = ((1 + m : Nat) : Int) by omega]
   exact Tr_join HR4.out.2.2 (by rw [List.length_map]; omega) (by rw [List.length_map]; omega)⟩⟩
end Go.Proofs.YtpapdkhjdelfcabGreat

namespace Go.Proofs.YtpapdkhjdelfcabGreat
open Go.RowKit
theorem recv_fr (x:KP) (n:Nat) (t:ByteArray):(x.recv n t).fr=x.fr:=by
 unfold KP.recv;split <;>rfl
noncomputable def roundP (x:KP) (n:Nat) (how:Int):KP:=
 if bits .and .i64 how 1=1 then x.keep (x.tick n)
 else if ((x.keep (x.tick n)).serve (x.tick n)).toList=[] then x.keep (x.tick n)
 else if bits .and .i64 how 2=2 then (x.keep (x.tick n)).keep ((x.keep (x.tick n)).serve (x.tick n))
 else if bits .and .i64 how 4=4 then (((x.keep (x.tick n)).keep ((x.keep (x.tick n)).serve (x.tick n))).recv n ((x.keep (x.tick n)).serve (x.tick n))).recv n ((x.keep (x.tick n)).serve (x.tick n))
 else ((x.keep (x.tick n)).keep ((x.keep (x.tick n)).serve (x.tick n))).recv n ((x.keep (x.tick n)).serve (x.tick n))
theorem nil_beq (t:ByteArray):(t.toList=[]→t.toList.isEmpty=true)∧(t.toList≠[]→t.toList.isEmpty=false):=
 ⟨fun h=>by rw [h];rfl,fun h=>by cases e:t.toList.isEmpty;rfl;exact absurd (List.isEmpty_iff.1 e) h⟩
theorem kround_is {W0:World} {p s:Nat} {k:KI} {w:World} {n:Nat} (h:KInv W0 p s k w) (hs:s≤65600) (hn:n<k.pp.length) (hfb:k.fb≤900000000000) (how:Int):
  Calls Tryz.prog 75 #[.pointer (some ⟨p,0,none⟩),.int .i64 (n:Int),.int .i64 how] w (RTo W0 p s k 2 (roundP k.pu n how)):=by
 have htk:=fun wx (b':Bel w wx)=>ktick_is (h.later b') hn
 have HI:=Hid.mk h;have c7:=h.at_.1 7 _ rfl;have hsz:=KP.tick_size k.pu n;obtain ⟨q,hq⟩:∃q,q=k.pu.tick n:=⟨_,rfl⟩;rw [←hq] at htk hsz;have HQ:=Hid.mk hq;clear h hq;go_enter Tryz.func75,Tryz.ntmps75;go_wp2_with fail;refine (htk _ (by (repeat (first|exact Bel.refl _|assumption|refine Bel.step_alloc ?_ _|refine Bel.step_drew ?_|refine Bel.step_drewN ?_ _|refine Bel.step_set ?_ (by simp <;>omega) _|refine Bel.trans ?_ (by assumption))))).mono ?_;rintro e w1 ⟨rfl,hb1⟩;have hI1:=HI.out.later hb1;have hkp:=kkeep_is hI1 q (by omega) (by omega) (by rw [HQ.out];exact tick_seald (by simpa [KI.pu] using hn)) (fun _=>by rw [HQ.out];exact Tr_tick k n);have d7:=hb1.cell c7;clear htk c7 hI1;go_wp2_with fail;refine hkp.mono ?_;rintro e w2 ⟨rfl,k2,hk2,hT2,hp2⟩;have e7:=hk2.at_.1 7 _ rfl;rw [hT2.q] at e7;clear hkp d7;have hsv:=fun wx (b':Bel w2 wx)=>kserve_is (hk2.later b') hs q (by omega)
 have hsz2:=KP.serve_size k2.pu q;obtain ⟨a,ha⟩:∃a,a=k2.pu.serve q:=⟨_,rfl⟩;rw [←ha] at hsv hsz2;rw [hp2] at ha;have HA:=Hid.mk ha;have HK2:=Hid.mk hk2;have HP2:=Hid.mk hp2;clear hk2 ha hp2;rw [hT2.q] at hsv;by_cases a1:bits .and .i64 how 1=1
 ·have a1b:(bits .and .i64 how 1==1)=true:=by rw [beq_iff_eq];exact a1
  have HX:Hid (roundP k.pu n how=k.pu.keep q):=by
   show _=_;unfold roundP;rw [if_pos a1,HQ.out]
  clear hsv;go_wp2;(try simp only [Exit.inBlock,Exit.then]);refine bodyPost_ret (results_none rfl _ _ _) rfl ?_;exact ⟨rfl,k2,HK2.out,hT2.wide (by omega),HP2.out.trans HX.out.symm⟩
 have a1b:(bits .and .i64 how 1==1)=false:=by rw [beq_eq_false_iff_ne];exact a1
 go_wp2_with fail;refine (hsv _ (by (repeat (first|exact Bel.refl _|assumption|refine Bel.step_alloc ?_ _|refine Bel.step_drew ?_|refine Bel.step_drewN ?_ _|refine Bel.step_set ?_ (by simp <;>omega) _|refine Bel.trans ?_ (by assumption))))).mono ?_;rintro e w3 ⟨rfl,hb3⟩;have hI3:=HK2.out.later hb3;have f7:=hb3.cell e7;clear hsv e7;by_cases a0:a.toList=[]
 ·have a0b:=(nil_beq a).1 a0
  have HX:Hid (roundP k.pu n how=k.pu.keep q):=by
   show _=_;unfold roundP;rw [if_neg a1,←HQ.out,←HA.out,if_pos a0]
  have HI3:=Hid.mk hI3;clear hI3;go_wp2;(try simp only [Exit.inBlock,Exit.then]);refine bodyPost_ret (results_none rfl _ _ _) rfl ?_;exact ⟨rfl,k2,HI3.out,hT2.wide (by omega),HP2.out.trans HX.out.symm⟩
 have a0b:=(nil_beq a).2 a0;have hFa:k2.Tr→FrU k2.on k2.bs a:=fun hT=>by rw [HA.out,←HP2.out];exact Tr_serve hT q
 have HFA:=Hid.mk hFa;have hkp:=kkeep_is hI3 a (by omega) (by have:=hT2.fb;omega) (by rw [HA.out] at a0 ⊢;exact serve_seald a0) hFa;clear hFa;clear hI3;go_wp2_with fail;refine hkp.mono ?_;rintro e w4 ⟨rfl,k4,hk4,hT4,hp4⟩;have g7:=hk4.at_.1 7 _ rfl;have hT4':=hT2.trans hT4;have hFb:k4.Tr→FrU k4.on k4.bs a:=fun hT=>hT.frT a (by have e:k4.fr=(k2.pu.keep a).fr:=congrArg KP.fr hp4;rw [e];exact List.mem_append_right _ (List.mem_singleton.2 rfl))
 have HFB:=Hid.mk hFb;clear hFb;rw [hT4'.q] at g7;have HK4:=Hid.mk hk4;have HP4:=Hid.mk hp4;clear hkp f7 hp4 hT4;by_cases a2:bits .and .i64 how 2=2
 ·have a2b:(bits .and .i64 how 2==2)=true:=by rw [beq_iff_eq];exact a2
  have HX:Hid (roundP k.pu n how=(k.pu.keep q).keep a):=by
   show _=_;unfold roundP;rw [if_neg a1,←HQ.out,←HA.out,if_neg a0,if_pos a2]
  clear hk4;go_wp2;(try simp only [Exit.inBlock,Exit.then]);refine bodyPost_ret (results_none rfl _ _ _) rfl ?_;exact ⟨rfl,k4,HK4.out,hT4',(HP4.out.trans (congrArg (fun x=>x.keep a) HP2.out)).trans HX.out.symm⟩
 have a2b:(bits .and .i64 how 2==2)=false:=by rw [beq_eq_false_iff_ne];exact a2
 have hrc:=krecv_is hk4 (n:=n) (by rw [hT4'.len];exact hn) a (by omega) HFB.out;rw [hT4'.q] at hrc;clear hk4;go_wp2_with fail;refine hrc.mono ?_;rintro e w5 ⟨rfl,k5,hk5,hT5,hp5⟩;have hT5':=hT4'.trans hT5;have i7:=hk5.at_.1 7 _ rfl;rw [hT5'.q] at i7;have HK5:=Hid.mk hk5;have HP5:Hid (k5.pu=((k.pu.keep q).keep a).recv n a):=hp5.trans (congrArg (fun x=>x.recv n a) (HP4.out.trans (congrArg (fun x=>x.keep a) HP2.out)));clear hrc g7 hp5 hT5;by_cases a4:bits .and .i64 how 4=4
 ·have a4b:(bits .and .i64 how 4==4)=true:=by rw [beq_iff_eq];exact a4
  have HX:Hid (roundP k.pu n how=(((k.pu.keep q).keep a).recv n a).recv n a):=by
   show _=_;unfold roundP;rw [if_neg a1,←HQ.out,←HA.out,if_neg a0,if_neg a2,if_pos a4]
  have hrc:=krecv_is hk5 (n:=n) (by rw [hT5'.len];exact hn) a (by omega) (fun hT=>hT.frT a (by have e:k5.fr=(((k.pu.keep q).keep a).recv n a).fr:=congrArg KP.fr HP5.out;rw [e,recv_fr];exact List.mem_append_right _ (List.mem_singleton.2 rfl)));rw [hT5'.q] at hrc;clear hk5;go_wp2_with fail;refine hrc.mono ?_;rintro e w6 ⟨rfl,k6,hk6,hT6,hp6⟩;have HK6:=Hid.mk hk6;have HP6:=Hid.mk hp6;clear hk6 hp6 hrc i7;go_wp2;go_end0;exact ⟨rfl,k6,HK6.out,hT5'.trans hT6,(HP6.out.trans (congrArg (fun x=>x.recv n a) HP5.out)).trans HX.out.symm⟩
 ·have a4b:(bits .and .i64 how 4==4)=false:=by rw [beq_eq_false_iff_ne];exact a4
  have HX:Hid (roundP k.pu n how=((k.pu.keep q).keep a).recv n a):=by
   show _=_;unfold roundP;rw [if_neg a1,←HQ.out,←HA.out,if_neg a0,if_neg a2,if_neg a4]
  clear hk5;go_wp2;go_end0;exact ⟨rfl,k5,HK5.out,hT5',HP5.out.trans HX.out.symm⟩
theorem half_range {b:Int} (h:I64 b):I64 (b.tdiv 2):=by
 unfold I64 at *;rcases Int.le_total 0 b with h1|h1
 ·rw [Int.tdiv_eq_ediv_of_nonneg h1];omega
 ·have:b.tdiv 2= -((-b).tdiv 2):=by rw [Int.neg_tdiv];omega
  rw [this,Int.tdiv_eq_ediv_of_nonneg (by omega)];omega
def oldF (x:KP) (b:Int):ByteArray:=(x.fr[(pickF (b.tdiv 2) (x.fr.length:Int)).toNat]?).getD ⟨#[]⟩
noncomputable def oldP (x:KP) (n:Nat) (b:Int):KP:=
 if x.fr=[] then x
 else if bits .and .i64 b 1=1 then (if (x.serve (oldF x b)).toList=[] then x else (x.keep (x.serve (oldF x b))).recv n (x.serve (oldF x b)))
 else x.recv n (oldF x b)
theorem frames_cell {W0:World} {p s:Nat} {k:KI} {w:World} (h:KInv W0 p s k w) (hne:k.fr≠[]):∃g cap,k.vf= .slice (some ⟨g,0,none⟩) k.fr.length cap∧∀j (hj:j<k.fr.length),w.cell? ⟨g,j,none⟩=some (.string k.fr[j]):=by
 have hl:0<k.fr.length:=List.length_pos_iff.2 hne;obtain ⟨g,cap,hv, -, -⟩:=World.ownsRow.form h.frames hl;refine ⟨g,cap,hv,fun j hj=>?_⟩;have hr:=h.frames;rw [hv] at hr;have hc:=World.ownsRow.cellAt hr j (by simpa using hj);rw [hc];simp [hj]
theorem kold_is {W0:World} {p s:Nat} {k:KI} {w:World} {n:Nat} (h:KInv W0 p s k w) (hs:s≤65600) (hn:n<k.pp.length) (hfb:k.fb≤900000000000) (b:Int) (hb:I64 b):
  Calls Tryz.prog 76 #[.pointer (some ⟨p,0,none⟩),.int .i64 (n:Int),.int .i64 b] w (RTo W0 p s k 1 (oldP k.pu n b)):=by
 have c7:=h.at_.1 7 _ rfl;have c18:=h.at_.1 18 _ rfl;have HI:=Hid.mk h;by_cases hne:k.fr=[]
 ·have hr:=h.frames;rw [hne] at hr;obtain ⟨av,capv,hv⟩:=own_slice hr;have c18':w.cell? ⟨p,18,none⟩=some (.slice av 0 capv):=by rw [c18,hv];rfl
  have HX:Hid (oldP k.pu n b=k.pu):=by
   show _=_;unfold oldP;rw [if_pos (show k.pu.fr=[] from hne)]
  clear h hr c18 hv;go_enter Tryz.func76,Tryz.ntmps76;go_wp2;(try simp only [Exit.inBlock,Exit.then]);refine bodyPost_ret (results_none rfl _ _ _) rfl ?_;exact ⟨rfl,k,HI.out,KTo.refl k 1,HX.out.symm⟩
 obtain ⟨g,cap,hv,hx⟩:=frames_cell h hne;have hl:0<k.fr.length:=List.length_pos_iff.2 hne;have hfl:=h.flen;have hpk:=fun wx=>pick_is (b.tdiv 2) (k.fr.length:Int) wx (half_range hb) (by omega) (by omega)
 obtain ⟨h1,h2⟩:=pickF_range (b.tdiv 2) (k.fr.length:Int) (by omega);obtain ⟨m,hm⟩:=Int.eq_ofNat_of_zero_le h1;have hml:m<k.fr.length:=by omega
 have hOF:oldF k.pu b=k.fr[m]:=by
  show (k.fr[(pickF (b.tdiv 2) (k.fr.length:Int)).toNat]?).getD ⟨#[]⟩=_;rw [hm,Int.toNat_natCast,List.getElem?_eq_getElem hml];rfl
 have hfs:=h.fsz _ (List.getElem_mem hml);rw [hm] at hpk;have hxm:=hx m hml;have c18':w.cell? ⟨p,18,none⟩=some (.slice (some ⟨g,0,none⟩) k.fr.length cap):=by rw [c18,hv]
 have hsv:=fun wx (b':Bel w wx)=>kserve_is (h.later b') hs k.fr[m] hfs
 have hrc:=fun wx (b':Bel w wx)=>krecv_is (h.later b') hn k.fr[m] hfs (fun hT=>hT.frT _ (List.getElem_mem hml))
 have hsz2:=KP.serve_size k.pu k.fr[m];have hlz:((k.fr.length:Int)==0)=false:=by rw [beq_eq_false_iff_ne];omega
 have HN:Hid (∀y,(bits .and .i64 b 1=1→y=(if (k.pu.serve k.fr[m]).toList=[] then k.pu else (k.pu.keep (k.pu.serve k.fr[m])).recv n (k.pu.serve k.fr[m])))→(¬bits .and .i64 b 1=1→y=k.pu.recv n k.fr[m])→y=oldP k.pu n b):=fun y y1 y2=>by
  unfold oldP;rw [if_neg (show ¬k.pu.fr=[] from hne),hOF];split
  ·rename_i ha;exact y1 ha
  ·rename_i ha;exact y2 ha
 clear h1 h2 hm hx hOF h c18 hv hne hfs;generalize k.fr[m]=f at *;generalize k.fr.length=nn at *;obtain ⟨a,ha⟩:∃a,a=k.pu.serve f:=⟨_,rfl⟩;rw [←ha] at hsv hsz2 HN;have HA:=Hid.mk ha;clear ha;unfold I64 at hb;go_enter Tryz.func76,Tryz.ntmps76;go_wp2_with fail;go_quiet ((go_at_call 70;refine Calls.quiet_of_same ((hpk _).mono fun e w2 h=>⟨h.1,h.2.symm⟩)));by_cases a1:bits .and .i64 b 1=1
 rotate_left
 ·have a1b:(bits .and .i64 b 1==1)=false:=by rw [beq_eq_false_iff_ne];exact a1
  have HY:Hid (k.pu.recv n f=oldP k.pu n b):=HN.out _ (fun e=>absurd e a1) (fun _=>rfl);clear hsv HN;go_wp2_with fail;refine (hrc _ (by (repeat (first|exact Bel.refl _|assumption|refine Bel.step_alloc ?_ _|refine Bel.step_drew ?_|refine Bel.step_drewN ?_ _|refine Bel.step_set ?_ (by simp <;>omega) _|refine Bel.trans ?_ (by assumption))))).mono ?_;rintro e w5 ⟨rfl,k5,hk5,hT5,hp5⟩;have HK5:=Hid.mk hk5;have HP5:=Hid.mk hp5;clear hk5 hp5 hrc;go_wp2;go_end0;exact ⟨rfl,k5,HK5.out,hT5.wide (by omega),HP5.out.trans HY.out⟩
 have a1b:(bits .and .i64 b 1==1)=true:=by rw [beq_iff_eq];exact a1
 clear hrc;go_wp2_with fail;refine (hsv _ (by (repeat (first|exact Bel.refl _|assumption|refine Bel.step_alloc ?_ _|refine Bel.step_drew ?_|refine Bel.step_drewN ?_ _|refine Bel.step_set ?_ (by simp <;>omega) _|refine Bel.trans ?_ (by assumption))))).mono ?_;rintro e w3 ⟨rfl,hb3⟩;have hbw:Bel w w3:=Bel.trans (by (repeat (first|exact Bel.refl _|assumption|refine Bel.step_alloc ?_ _|refine Bel.step_drew ?_|refine Bel.step_drewN ?_ _|refine Bel.step_set ?_ (by simp <;>omega) _|refine Bel.trans ?_ (by assumption)))) hb3;have hI3:=HI.out.later hbw;have f7:=hbw.cell c7;clear hsv;by_cases a0:a.toList=[]
 ·have a0b:=(nil_beq a).1 a0;have HY:Hid (k.pu=oldP k.pu n b):=HN.out _ (fun _=>by rw [if_pos a0]) (fun e=>absurd a1 e);have HI3:=Hid.mk hI3;clear hI3 HN;go_wp2;(try simp only [Exit.inBlock,Exit.then]);refine bodyPost_ret (results_none rfl _ _ _) rfl ?_;exact ⟨rfl,k,HI3.out,KTo.refl k 1,HY.out⟩
 have a0b:=(nil_beq a).2 a0;have HY:Hid ((k.pu.keep a).recv n a=oldP k.pu n b):=HN.out _ (fun _=>by rw [if_neg a0]) (fun e=>absurd a1 e);have hkp:=kkeep_is hI3 a (by omega) (by omega) (by rw [HA.out] at a0 ⊢;exact serve_seald a0) (fun hT=>by rw [HA.out];exact Tr_serve hT f);clear hI3 HN;go_wp2_with fail;refine hkp.mono ?_;rintro e w4 ⟨rfl,k4,hk4,hT4,hp4⟩;have g7:=hk4.at_.1 7 _ rfl;rw [hT4.q] at g7;have HP4:=Hid.mk hp4;have hrc:=krecv_is hk4 (n:=n) (by rw [hT4.len];exact hn) a (by omega) (fun hT=>hT.frT a (by have e:k4.fr=(k.pu.keep a).fr:=congrArg KP.fr HP4.out;rw [e];exact List.mem_append_right _ (List.mem_singleton.2 rfl)));rw [hT4.q] at hrc;clear hkp f7 hp4 hk4;go_wp2_with fail;refine hrc.mono ?_;rintro e w5 ⟨rfl,k5,hk5,hT5,hp5⟩;have HK5:=Hid.mk hk5;have HP5:=Hid.mk hp5;clear hk5 hp5 hrc g7;go_wp2;go_end0;exact ⟨rfl,k5,HK5.out,hT4.trans hT5,(HP5.out.trans (congrArg (fun x=>x.recv n a) HP4.out)).trans HY.out⟩
end Go.Proofs.YtpapdkhjdelfcabGreat
