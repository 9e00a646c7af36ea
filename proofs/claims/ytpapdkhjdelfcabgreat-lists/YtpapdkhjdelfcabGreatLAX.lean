import Derived.Test.YtpapdkhjdelfcabGreatLAW
namespace Go.Proofs.YtpapdkhjdelfcabGreat
open Go.RowKit
set_option maxRecDepth 100000
set_option maxHeartbeats 4000000
theorem YU {P:Program} {ops:Array Oper} {o:Oper} {a:Act} {w:World} {K:Act→World→Prop} {Q:Exit→Act→World→Prop} {E:Prop}
  (hg:o.guard=none) (s x:Operand) (t:TypeId) (hop:o.op=Op.call {callee:=Callee.builtin Builtin.append,args:=#[s,x],argTypes:=#[t,t]})
  (base:Nat) (e:TypeId) (i:TypeInfo) (z:Value) (size bytes:Nat) (h1:P.underlying t=some (.slice e)) (h2:P.info? e=some i) (h3:i.zero=some z) (h4:i.size=size) (h5:i.bytes=bytes) (h6:z.cells.size=size) (h7:0<size)
  (v:Value) (n:Nat) (xs:List Value) (hs:a.eval s=v) (hown:w.ownsRow base e size v n xs)
  (ad:Addr) (m c:Nat) (news:List Value) (hx:a.eval x= .slice (some ad) m c) (hn:news.length=m * size) (hc:∀j u,news[j]?=some u→w.cell? (ad.add j)=some u) (h1c:∀u∈news,u.oneCell'=true)
  (b1:n+m≤maxLen) (b2:(n+m) * bytes≤140737488355328) (hbase:base≤w.heap.size)
  (hK:∀v' w',w'.ownsRow base e size v' (n+m) (xs++news)→w.grownBy w' v.ownBlock→(v'.ownBlock=v.ownBlock∨v'.ownBlock=some w.heap.size)→K (a.put o.dst v') w'):
  if Region.wanted o (yielded ops a.tmps)=true then Oper.wp P o a w K Q else E:=by
 have hw:Region.wanted o (yielded ops a.tmps)=true:=by simp [Region.wanted,hg]
 rw [if_pos hw];obtain ⟨v',w',hrun,r1,r2,r3⟩:=OY (P:=P) w base t o.type e i z size bytes h1 h2 h3 h4 h5 h6 h7 v n xs hown ad m c news hn hc h1c b1 b2 hbase;unfold Oper.wp;simp [execOp,hop,resolve,invoke,builtin,hs,hx,hrun,Result.andThen];exact hK v' w' r1 r2 r3
theorem Tryz.infoPP:(Tryz.prog.info? 88).map (fun i=>(i.zero,i.size,i.bytes))=some (some (.pointer none),1,8):=by kernel_rfl
def JH (s:Nat) (w w':World):Prop:=(∀o,o≠9→w'.cell? ⟨s,o,none⟩=w.cell? ⟨s,o,none⟩)∧∀o,w'.frozen? ⟨s,o,none⟩=w.frozen? ⟨s,o,none⟩
theorem JH.of {s:Nat} {w w6:World} (h:w6.heap[s]?=w.heap[s]?) (u:Value):JH s w (w6.setCell ⟨s,9,none⟩ u):=
 ⟨fun o ho=>(Ad (Or.inr (fun e=>ho e.symm))).trans (World.cell?_of_block (a:=⟨s,o,none⟩) h),fun o=>(Ag _ _ _ _).trans (World.frozen?_of_block (a:=⟨s,o,none⟩) h)⟩
def UE (s:Nat) (vL:Value) (ps:List Nat) (fm:Nat) (w:World) (e:Ending) (w':World):Prop:=
 ∃p v',e= .returned (.tuple #[.int .i64 (ps.length:Int),.int .i64 0])∧Ab (s::gl vL) w w'∧w.heap.size≤p∧Ae p 146 (FW fm) w'∧w'.cell? ⟨s,9,none⟩=some v'∧Eu w' v' (ps++[p])∧(∀k,v'.ownBlock=some k→k∈gl vL∨w.heap.size≤k)∧(∀k,v'.ownBlock=some k→k≠p∧k≠s)∧JH s w w'
theorem XM (s fm:Nat) (vL:Value) (ps:List Nat) (w:World) (c9:w.cell? ⟨s,9,none⟩=some vL) (f9:w.frozen? ⟨s,9,none⟩=false) (hL:Eu w vL ps) (hl:ps.length<4) (hf:1≤fm∧fm≤3) (hs:vL.ownBlock≠some s):
  Calls Tryz.prog 28 #[.pointer (some ⟨s,0,none⟩),.int .i64 (fm:Int)] w (UE s vL ps fm w):=by
 obtain ⟨i0,hi,hz0,hz1,hz2⟩:=info_parts Tryz.infoPP;have hfm:=fun wx=>Kx (fm:Int) wx
 obtain ⟨ao,cap,rfl, -⟩:=hL.open;have HL:=jp hL;have HS:=jp hs;have hsl:s<w.heap.size:=jF c9;have hdl:decide ((4:Int)≤(ps.length:Int))=false:=jK (by omega);clear hL hs;go_enter Tryz.func28,Tryz.ntmps28;go_wp2_with fail;refine (hfm _).mono ?_;rintro e w1 ⟨x,rfl,rfl,hx⟩;have hxt:x=true:=hx.2 (by unfold Hd;omega);subst hxt;clear hx hfm;go_wp2_with fail
 go_region_law (first
   | (go_simp; go_at_call 58; go_wp2_with (go_at_call 58; refine Calls.mono (Qp fm _) ?_; rintro e w5 ⟨rfl, hb5x, hs5, hX5⟩; have hb5 : Aa w w5 := (by first | exact hb5x | exact (jB (jD w)).trans hb5x); have HX5 : Hid (Ae w.heap.size 146 (FW fm) w5) := hX5; have HB5 := jp hb5; have k9 := hb5.cell c9; have l9 := hb5.frozen c9 f9; have hsw : w.heap.size < w5.heap.size := (by first | exact hs5 | simpa using hs5); have hsl5 : s < w5.heap.size := (by omega); have hsn5 : s ≠ w5.heap.size := (by omega); clear hb5x hX5 hb5 hs5))
   | (refine YU rfl (.tmp 19) (.tmp 22) 67 rfl 0 88 i0 (.pointer none) 1 8 Tryz.underlying67 hi hz0 hz1 hz2 rfl (by decide) (.slice ao ps.length cap) ps.length (Iq ps) (by simp [Act.eval]) (World.ownsRow.alloc (HL.out.later HB5.out) _) ⟨w5.heap.size, 0, none⟩ 1 1 [.pointer (some ⟨w.heap.size, 0, none⟩)] (by simp [Act.eval]) rfl (Fz _ _ _ _ (by simp)) (fun u hu => by simp at hu; subst hu; rfl) (by unfold maxLen; omega) (by omega) (by omega) ?_
      intro v6 w6 hown6 hgrow6 hwh6
      obtain ⟨ao6, cap6, rfl⟩ := B8 hown6
      have n9 : w6.cell? ⟨s, 9, none⟩ = some (.slice ao ps.length cap) := (World.cell?_of_block (a := ⟨s, 9, none⟩) (hgrow6.block s (by simp; omega) (fun e => HS.out e.symm))).trans (((jD w5).step_alloc _).cell k9)
      have o9 : w6.frozen? ⟨s, 9, none⟩ = false := (World.frozen?_of_block (a := ⟨s, 9, none⟩) (hgrow6.block s (by simp; omega) (fun e => HS.out e.symm))).trans (((jD w5).step_alloc _).frozen k9 l9)
      have HJ6 : Hid (w6.heap[s]? = w.heap[s]?) := (hgrow6.block s (by simp; omega) (fun e => HS.out e.symm)).trans ((HB5.out.step_alloc _).block s hsl)
      have HO6 := jp hown6
      have HG6 := jp hgrow6
      have HW6 := jp hwh6
      clear hown6 hgrow6 hwh6))
 all_goals
  have hX:Aa w (w5.alloc (.cells #[.pointer (some ⟨w.heap.size,0,none⟩)] 88)):=HB5.out.step_alloc _;have hvl:∀k,(Value.slice ao ps.length cap).ownBlock=some k→k<w.heap.size:=fun k hk=>(World.ownsRow.lt HL.out k hk).2
  have hB6:Ab (s::gl (.slice ao ps.length cap)) w w6:=Pp hX HG6.out;have hP6:Ae w.heap.size 146 (FW fm) w6:=(HX5.out.alloc _).kept (HG6.out.block w.heap.size (by simp;omega) (fun e=>by have:=hvl _ e.symm;omega));have hz6:(w5.alloc (.cells #[.pointer (some ⟨w.heap.size,0,none⟩)] 88)).heap.size=w5.heap.size+1:=by simp
  have hown:∀k,(Value.slice ao6 (ps.length+1) cap6).ownBlock=some k→((Value.slice ao ps.length cap).ownBlock=some k∧k<w.heap.size)∨k=w5.heap.size+1:=fun k hk=>by
   rcases HW6.out with e|e
   ·rw [e] at hk;exact Or.inl ⟨hk,hvl k hk⟩
   ·rw [hk] at e;injection e with e
    exact Or.inr (by first|exact e.trans hz6|(rw [e];simp))
  have hns:(Value.slice ao6 (ps.length+1) cap6).ownBlock≠some s:=fun e=>by
   rcases hown s e with ⟨h1,h2⟩|h
   ·exact HS.out h1
   ·omega
  have HB7:=jp (hB6.set (p:=⟨s,9,none⟩) (by simp) (.slice ao6 (ps.length+1) cap6));have HP7:=jp (hP6.setO (a:=⟨s,9,none⟩) (by simp only;omega) (.slice ao6 (ps.length+1) cap6));have HC7:=jp (Bc (u:= .slice ao6 (ps.length+1) cap6) n9)
  have HR7:Hid (Eu (w6.setCell ⟨s,9,none⟩ (.slice ao6 (ps.length+1) cap6)) (.slice ao6 (ps.length+1) cap6) (ps++[w.heap.size])):=by
   show World.ownsRow _ _ _ _ _ _ _;have e:Iq (ps++[w.heap.size])=Iq ps++[.pointer (some ⟨w.heap.size,0,none⟩)]:=by simp [Iq]
   rw [e,jO];exact ownsRow_setCell_other HO6.out hns _
  have HK7:Hid (∀k,(Value.slice ao6 (ps.length+1) cap6).ownBlock=some k→k∈gl (.slice ao ps.length cap)∨w.heap.size≤k):=fun k hk=>by
   rcases hown k hk with ⟨h1,h2⟩|h
   ·exact Or.inl (by unfold gl;rw [h1];simp)
   ·exact Or.inr (by omega)
  have HK8:Hid (∀k,(Value.slice ao6 (ps.length+1) cap6).ownBlock=some k→k≠w.heap.size∧k≠s):=fun k hk=>by
   rcases hown k hk with ⟨h1,h2⟩|h
   ·exact ⟨by omega,fun e=>HS.out (by rw [←e];exact h1)⟩
   ·exact ⟨by omega,by omega⟩
  have HS7:Hid (JH s w (w6.setCell ⟨s,9,none⟩ (.slice ao6 (ps.length+1) cap6))):=JH.of HJ6.out _
  have HZ7:Hid (s<(w6.setCell ⟨s,9,none⟩ (.slice ao6 (ps.length+1) cap6)).heap.size):=by
   show s<_;exact World.block_lt_of_cell? _ _ HC7.out
  clear HJ6;clear hX hB6 hP6 hown hns HO6 HG6 HW6 hz6 hvl;go_wp2;go_ret2
  first
  |exact ⟨w.heap.size,_,rfl,HB7.out,jH _,HP7.out,HC7.out,HR7.out,HK7.out,HK8.out,HS7.out⟩
  |exact ⟨w.heap.size,_,rfl,HB7.out.drew,jH _,HP7.out.bel ((jD _).step_drew),((jD _).step_drew).cell HC7.out,HR7.out.later ((jD _).step_drew),HK7.out,HK8.out,HS7.out.bel HZ7.out ((jD _).step_drew)⟩
theorem Xm (s:Nat) (f:Int) (w:World) (hf:¬(1≤f∧f≤3)):
  Calls Tryz.prog 28 #[.pointer (some ⟨s,0,none⟩),.int .i64 f] w (F4 w (-1,1)):=by
 have hfm:=fun wx=>Kx f wx
 go_enter Tryz.func28,Tryz.ntmps28;go_wp2_with fail;refine (hfm _).mono ?_;rintro e w1 ⟨x,rfl,rfl,hx⟩
 have hxt:x=false:=by
  cases x
  ·rfl
  ·exact absurd (hx.1 rfl) hf
 subst hxt;clear hx hfm hf;go_wp2;go_ret2;exact ⟨rfl,by solve_by_elim [jA,jB,jC,jD,jE]⟩
theorem Ue (s:Nat) (f:Int) (vL:Value) (ps:List Nat) (w:World) (c9:w.cell? ⟨s,9,none⟩=some vL) (hL:Eu w vL ps) (hl:4≤ps.length) (hf:1≤f∧f≤3):
  Calls Tryz.prog 28 #[.pointer (some ⟨s,0,none⟩),.int .i64 f] w (F4 w (-1,6)):=by
 have hfm:=fun wx=>Kx f wx
 obtain ⟨ao,cap,rfl, -⟩:=hL.open;have hdl:decide ((4:Int)≤(ps.length:Int))=true:=jL (by omega);clear hL;go_enter Tryz.func28,Tryz.ntmps28;go_wp2_with fail;refine (hfm _).mono ?_;rintro e w1 ⟨x,rfl,rfl,hx⟩;have hxt:x=true:=hx.2 hf;subst hxt;clear hx hfm hf;go_wp2;go_ret2;exact ⟨rfl,by solve_by_elim [jA,jB,jC,jD,jE]⟩
theorem Nl:∀(n:Nat) (s r:List Int),(CI n s r).length=s.length
 |0,s,r=>by simp [CI]
 |n+1,s,r=>by
  rw [CI];split
  ·rfl
  ·rw [Nl n];simp
theorem Wr {W:List (Int×Int)} {S:List Int} {i m:Nat} (hi:i<m) (h:∀x∈S, -1≤x∧x≤(m:Int)):∀x∈FP W S i, -1≤x∧x≤(m:Int):=by
 intro x hx;unfold FP at hx;split at hx
 ·rcases List.mem_or_eq_of_mem_set hx with hx|hx
  ·exact h x hx
  ·subst hx;omega
 ·exact h x hx
theorem KW {W:List (Int×Int)} {sh:List Int} {r m:Nat} {S:List Int} (h:∀x∈S, -1≤x∧x≤(m:Int)):∀n,n≤m→∀x∈Bu W sh r S n, -1≤x∧x≤(m:Int)
 |0,_=>by simpa [Bu] using h
 |n+1,hn=>by
  rw [Bu];split
  ·exact KW h n (by omega)
  ·exact Wr (by omega) (KW h n (by omega))
theorem PD {W:List (Int×Int)} {sh:List Int} {S:List Int} (h:∀x∈S, -1≤x∧x≤(sh.length:Int)):∀r,∀x∈CD W sh S r, -1≤x∧x≤(sh.length:Int)
 |0=>by simpa [CD] using h
 |r+1=>by
  rw [CD];exact KW (PD h r) sh.length (jH _)
theorem PZ {key:ByteArray} {s i:Nat} {id:ByteArray} {m:Int×Int} {M:Nat} (hi:i≤M) (h: -1≤m.1∧m.1≤(M:Int)):∀k, -1≤(A6 key s i id m k).1∧(A6 key s i id m k).1≤(M:Int)
 |0=>h
 |k+1=>by
  rw [A6];have:=PZ (key:=key) (s:=s) (id:=id) hi h k;split
  ·exact ⟨by show -1≤(i:Int);omega,by show (i:Int)≤_;omega⟩
  ·exact this
theorem Pv {key:ByteArray} {s:Nat} {B:List BK}:∀n,n≤B.length→ -1≤(AV key s B n).1∧(AV key s B n).1≤(B.length:Int)
 |0,_=>by simp [AV]
 |n+1,hn=>by
  rw [AV];have:=Pv (key:=key) (s:=s) (B:=B) n (by omega);split
  ·exact PZ (by omega) this _
  ·exact this
theorem KX {key:ByteArray} {letter:UInt8} {each:Int} {B:List BK}:∀n,n≤B.length→∀e∈AW key letter each B n,(0≤e.1∧e.1<18446744073709551616)∧ -1≤e.2∧e.2≤(B.length:Int)
 |0,_=>by simp [AW]
 |n+1,hn=>by
  intro e he;rw [AW] at he;split at he
  ·rename_i b hb;rcases jT.1 he with he|he
   ·exact KX n (by omega) e he
   ·unfold DD at he;obtain ⟨k, -,he⟩:=List.mem_map.1 he;have h2:=He key letter [k] b.1;generalize Al key letter [k] b.1=hv at *;subst he;exact ⟨h2,by show -1≤(n:Int);omega,by show (n:Int)≤_;omega⟩
  ·exact KX n (by omega) e he
theorem YE {e x:EI} {l:List EI} (h:x∈Ck e l):x=e∨x∈l:=by
 induction l with
 |nil=>simpa [Ck] using h
 |cons y l ih=>
  rw [Ck] at h;split at h
  ·rcases ja.1 h with h|h
   ·exact Or.inl h
   ·exact Or.inr h
  ·rcases ja.1 h with h|h
   ·exact Or.inr (by simp [h])
   ·rcases ih h with h|h
    ·exact Or.inl h
    ·exact Or.inr (jW _ h)
theorem KS {L:List EI}:∀n,∀x∈BN L n,x∈L
 |0=>by simp [BN]
 |n+1=>by
  intro x hx;rw [BN] at hx;split at hx
  ·rename_i e he;rcases YE hx with hx|hx
   ·rw [hx];exact List.mem_of_getElem? he
   ·exact KS n x hx
  ·exact KS n x hx
theorem NE {key:ByteArray} {letter:UInt8} {each:Int} {B:List BK}:∀e∈Dk key letter each B,(0≤e.1∧e.1<18446744073709551616)∧ -1≤e.2∧e.2≤(B.length:Int):=fun e he=>KX B.length (jH _) e (KS _ e he)
theorem Su (M:Int) (B:List BK):(CJ M B).length≤B.length:=by
 unfold CJ;split
 ·simp
 ·rw [Nl];simp [Bi]
theorem Wc (c:Ac) (B:List BK):∀e∈An c B,(0≤e.1∧e.1<18446744073709551616)∧ -1≤e.2∧e.2≤(B.length:Int):=by
 intro e he;rw [An] at he;split at he
 ·cases he
 split at he
 ·obtain ⟨o,ho,rfl⟩:=List.mem_map.1 he;have h1:=Su c.slots B;have h2:=PD (W:=B.map (Cr c)) (sh:=CJ c.slots B) (S:=List.replicate c.slots.toNat (-1)) (fun x hx=>by have:=List.eq_of_mem_replicate hx;omega) c.slots.toNat o ho;exact ⟨⟨by simp,by simp⟩,by simp only;omega,by simp only;omega⟩
 split at he
 ·exact NE e he
 split at he
 ·obtain ⟨s,hs,rfl⟩:=List.mem_map.1 he;have:=Pv (key:=c.key) (s:=s) (B:=B) B.length (jH _);exact ⟨⟨by simp,by simp⟩,this⟩
 split at he
 ·exact NE e he
 ·cases he
theorem PI (c:Ac) {B:List BK} (hB:AL B):∀e∈An c B,Fp e:=fun e he=>by
 have h:=Wc c B e he;have:=hB.1;exact ⟨h.1.1,h.1.2,by omega,by omega⟩
def Ev (T:List TP):Prop:=T.Pairwise fun a b=>a.1<b.1
theorem Nr {T:List TP} {n:Nat}:∀m,m≤T.length→∀j (hj:j<T.length),CA T n m≤j→j<m→n≤T[j].1
 |0,_,j,hj,h1,h2=>by omega
 |m+1,hm,j,hj,h1,h2=>by
  rw [CA] at h1;have hml:m<T.length:=by omega
  rw [jG hml] at h1;simp only at h1;split at h1
  ·rename_i hle;by_cases hjm:j=m
   ·subst hjm;exact hle
   ·exact Nr m (by omega) j hj h1 (by omega)
  ·omega
theorem Pe {T:List TP} {n:Nat}:∀m,m≤T.length→∀k (hk:k<T.length),CA T n m=k+1→T[k].1<n
 |0,_,k,hk,h=>by simp [CA] at h
 |m+1,hm,k,hk,h=>by
  rw [CA] at h;have hml:m<T.length:=by omega
  rw [jG hml] at h;simp only at h;split at h
  ·exact Pe m (by omega) k hk h
  ·rename_i hle;have:k=m:=by omega
   subst this;omega
theorem Ev.take_lt {T:List TP} (h:Ev T) {i n:Nat} (hi:i≤T.length) (hlo:∀k (hk:k<T.length),i=k+1→T[k].1<n):∀x∈T.take i,x.1<n:=fun x hx=>by
 obtain ⟨j,hj,rfl⟩:=List.getElem_of_mem hx;rw [jk] at hj;rw [List.getElem_take];obtain ⟨k,rfl⟩:∃k,i=k+1:=⟨i - 1,by omega⟩;have h1:=hlo k (by omega) rfl;by_cases hjk:j=k
 ·subst hjk;exact h1
 ·have:=List.pairwise_iff_getElem.1 h j k (by omega) (by omega) (by omega);omega
theorem Ev.lay {T:List TP} (h:Ev T) (p:TP):Ev (Dm T p):=by
 have hle:=Mo T p.1 T.length;have hhi:=Nr (T:=T) (n:=p.1) T.length (jH _);have hlo:=Pe (T:=T) (n:=p.1) T.length (jH _);unfold Dm;generalize CA T p.1 T.length=i at *;split
 ·rename_i he
  have hi:i<T.length:=by
   rcases Nat.lt_or_ge i T.length with h|h
   ·exact h
   ·rw [List.getElem?_eq_none h] at he;cases he
  have hpi:T[i].1=p.1:=by simpa [List.getElem?_eq_getElem hi] using he
  refine List.pairwise_iff_getElem.2 (fun a b ha hb hab=>?_);rw [List.length_set] at ha hb;have hT:=List.pairwise_iff_getElem.1 h a b ha hb hab;rw [List.getElem_set,List.getElem_set];split
  ·rename_i e;subst e;split
   ·omega
   ·omega
  ·split
   ·rename_i e;subst e;omega
   ·exact hT
 ·rename_i he;have ht:=h.take_lt hle (fun k hk e=>hlo k hk e)
  have hd:∀x∈T.drop i,p.1<x.1:=fun x hx=>by
   obtain ⟨j,hj,rfl⟩:=List.getElem_of_mem hx;rw [jh] at hj;rw [List.getElem_drop];have hi:i<T.length:=by omega
   have h1:=hhi i hi (jH _) hi;have h2:T[i].1≠p.1:=fun e=>he (by simp [List.getElem?_eq_getElem hi,e])
   by_cases hj0:j=0
   ·subst hj0;have e:T[i+0]=T[i]:=rfl;rw [e];omega
   ·have:=List.pairwise_iff_getElem.1 h i (i+j) hi (by omega) (by omega);omega
  refine List.pairwise_append.2 ⟨List.Pairwise.sublist (List.take_sublist _ _) h,List.pairwise_cons.2 ⟨hd,List.Pairwise.sublist (List.drop_sublist _ _) h⟩,fun a ha b hb=>?_⟩;rcases ja.1 hb with hb|hb
  ·rw [hb];exact ht a ha
  ·have:=ht a ha;have:=hd b hb;omega
theorem Ev.ge {T:List TP} (h:Ev T):∀j (hj:j<T.length),j≤T[j].1
 |0,_=>by omega
 |j+1,hj=>by
  have h1:=Ev.ge h j (by omega);have h2:=List.pairwise_iff_getElem.1 h j (j+1) (by omega) hj (by omega);omega
theorem Ev.len {T:List TP} {cp:Nat} (h:Ev T) (hb:∀x∈T,x.1<cp):T.length≤cp:=by
 rcases Nat.eq_zero_or_pos T.length with h0|h0
 ·omega
 ·have h1:=h.ge (T.length - 1) (by omega);have h2:=hb _ (jJ (by omega:T.length - 1<T.length));omega
structure AF where
 fm:Nat
 g:Nat
 c:Ac
 B:List BK
 E:List EI
 cg:Nat
 cf:Nat
 cp:Nat
 T:List TP
 nf:Bool
structure AF.OK (p:AF):Prop where
 fm:1≤p.fm∧p.fm≤3
 g:p.g≤1073741824
 held:p.g≠0→∃f,IK f p.g p.c p.B p.E
 len:p.E.length≤255
 cg:p.cg<4294967296
 cf:p.cf<256
 cp:p.cp<65536
 ris:Ev p.T
 T:∀x∈p.T,x.1<p.cp∧x.2.length≤48
theorem AF.OK.tlen {p:AF} (h:p.OK):p.T.length≤65535:=by
 have:=h.ris.len (fun x hx=>(h.T x hx).1);have:=h.cp;omega
theorem AF.OK.tok {p:AF} (h:p.OK):p.g≠0→p.c.TOK:=fun hg=>by
 obtain ⟨f,hf⟩:=h.held hg;exact hf.tok
def Br (M:List Nat) (q:Nat) (p:AF) (R:List Nat) (w:World):Prop:=q∈M∧(∀k∈R,k∈M)∧∃vP vE vT,Ae q 146 (BD p.fm p.g p.c vP vE p.cg p.cf p.cp vT p.nf) w∧Am (Ay M w) vP p.B∧AR (Ay M w) vE p.E∧AN w vT p.T∧gl vT=R
theorem AN.but {M:List Nat} {w w':World} {v:Value} {T:List TP} (h:AN w v T) (k:Ab M w w') (hm:∀g∈gl v,g∉M):AN w' v T:=by
 refine ⟨h.1,?_⟩;rcases h.2 with h1|⟨g,cap,cur,h1,h2,h3,h4⟩
 ·exact Or.inl h1
 ·refine Or.inr ⟨g,cap,cur,h1,h2,?_,h4⟩;have hg:g∈gl v:=by rw [h1];simp [gl,Value.ownBlock]
  have hlt:g<w.heap.size:=by
   rcases Nat.lt_or_ge g w.heap.size with h|h
   ·exact h
   ·rw [Array.getElem?_eq_none h] at h3;cases h3
  exact (k.block g hlt (hm g hg)).trans h3
theorem Br.but {M M':List Nat} {q:Nat} {p:AF} {R:List Nat} {w w':World} (h:Br M q p R w) (k:Ab M' w w') (hq:q∉M') (hR:∀j∈R,j∉M') (hs:∀j∈M',j∈M∨w.heap.size≤j):Br M q p R w':=by
 obtain ⟨h1,h2,vP,vE,vT,hX,hP,hE,hT,hg⟩:=h;have hb:Aa (Ay M w) (Ay M w'):=k.mono hs;exact ⟨h1,h2,vP,vE,vT,hX.but k hq,hP.later hb,hE.later hb,hT.but k (fun g hg'=>hR g (by rw [←hg];exact hg')),hg⟩
theorem Br.later {M:List Nat} {q:Nat} {p:AF} {R:List Nat} {w w':World} (h:Br M q p R w) (k:Aa w w'):Br M q p R w':=h.but (M':=[]) (Ab.of_bel k) (by simp) (by simp) (by simp)
theorem Br.grow {M:List Nat} {q:Nat} {p:AF} {R:List Nat} {w:World} (h:Br M q p R w) (N:List Nat) (hN:∀k∈N,w.heap.size≤k):Br (N++M) q p R w:=by
 obtain ⟨h1,h2,vP,vE,vT,hX,hP,hE,hT,hg⟩:=h;rw [←MT N M w hN] at hP hE;exact ⟨jU _ h1,fun k hk=>jU _ (h2 k hk),vP,vE,vT,hX,hP,hE,hT,hg⟩
theorem Rh {base:Nat} {M:List Nat} {w:World} {v:Value} {B:List BK} (h:AJ base w v B) (hM:∀k∈M,k<base):Am (Ay M w) v B:=by
 rcases AJ.pool h with h1|⟨g,cap,hv,hn,hg,hc⟩
 ·exact Or.inl h1
 ·refine Or.inr ⟨g,cap,hv,hn,by rw [Eo];exact hg,fun j u hu=>Bn.2 ⟨hc j u hu,fun hm=>?_⟩⟩;have h2:=(World.ownsRow.lt h g (by rw [hv];rfl)).1;have:=hM g hm;omega
theorem Yn {base:Nat} {M:List Nat} {w:World} {v:Value} {E:List EI} (h:AS base w v E) (hM:∀k∈M,k<base):AR (Ay M w) v E:=by
 rcases AS.ents h with h1|⟨g,cap,hv,hn,hg,hc⟩
 ·exact Or.inl h1
 ·refine Or.inr ⟨g,cap,hv,hn,by rw [Eo];exact hg,fun j u hu=>Bn.2 ⟨hc j u hu,fun hm=>?_⟩⟩;have h2:=(World.ownsRow.lt h g (by rw [hv];rfl)).1;have:=hM g hm;omega
def DX (fm:Nat):AF:=⟨fm,0,LJ,[],[],0,0,0,[],false⟩
theorem Oc {fm:Nat} (h:1≤fm∧fm≤3):(DX fm).OK:=⟨h,by simp [DX],fun h=>absurd rfl h,by simp [DX],by simp [DX],by simp [DX],by simp [DX],List.Pairwise.nil,fun x hx=>by cases hx⟩
theorem Br.ofNew {M:List Nat} {q fm:Nat} {w:World} (h:Ae q 146 (FW fm) w) (hq:q∈M):Br M q (DX fm) [] w:=
 ⟨hq,fun k hk=>(by cases hk),.slice none 0 0,.slice none 0 0,.slice none 0 0,h,Or.inl ⟨rfl,rfl,rfl⟩,Or.inl ⟨rfl,rfl,rfl⟩,World.ownsRow_nil _ _ _ _,rfl⟩
def AF.clear (p:AF):AF:={p with cg:=0,cf:=0,cp:=0,T:=[],nf:=false}
open Classical in
noncomputable def DO (p:AF) (a:Bl):AF:=if a.1≠1 then {p with nf:=a.1==2} else
 if Ea p.fm p.g p.cg p.cf p.cp p.T a then
  if (Ce p.cg p.cf p.cp p.T a).length=(AU p.cg p.cf p.cp p.T a).2.2.1 then
   match Bj (Cg (Ce p.cg p.cf p.cp p.T a)) with
   |some (f,g2,c2,B2,E2)=>if f=(AU p.cg p.cf p.cp p.T a).2.1∧g2=(AU p.cg p.cf p.cp p.T a).1 then {p.clear with g:=g2,c:=c2,B:=B2,E:=E2} else p.clear
   |none=>p.clear
  else {p with cg:=(AU p.cg p.cf p.cp p.T a).1,cf:=(AU p.cg p.cf p.cp p.T a).2.1,cp:=(AU p.cg p.cf p.cp p.T a).2.2.1,T:=Ce p.cg p.cf p.cp p.T a,nf:=false}
 else p
structure IJ (a:Bl):Prop where
 ok:EO a
 g:a.2.1<4294967296
 f:a.2.2.1<256
 c:a.2.2.2.1<65536
 n:a.2.2.2.2.1<65536
 b:a.2.2.2.2.2.length≤48
theorem IJ.of {l:List UInt8} {a:Bl} (h:DY l=some a):IJ a:=by
 obtain ⟨h1,h2,h3,h4,h5,h6⟩:=Ox h;exact ⟨h1,h2,h3,h4,h5,h6⟩
theorem AF.OK.clear {p:AF} (h:p.OK):p.clear.OK:=⟨h.fm,h.g,h.held,h.len,by simp [AF.clear],by simp [AF.clear],by simp [AF.clear],List.Pairwise.nil,fun x hx=>by cases hx⟩
theorem Po {p:AF} (h:p.OK) {a:Bl} (ha:IJ a):(AU p.cg p.cf p.cp p.T a).1<4294967296∧(AU p.cg p.cf p.cp p.T a).2.1<256∧(AU p.cg p.cf p.cp p.T a).2.2.1<65536∧Ev (AU p.cg p.cf p.cp p.T a).2.2.2∧∀x∈(AU p.cg p.cf p.cp p.T a).2.2.2,x.1<(AU p.cg p.cf p.cp p.T a).2.2.1∧x.2.length≤48:=by
 unfold AU;split
 ·exact ⟨ha.g,ha.f,ha.c,List.Pairwise.nil,fun x hx=>by cases hx⟩
 ·exact ⟨h.cg,h.cf,h.cp,h.ris,h.T⟩
theorem Zf {p:AF} (h:p.OK) {a:Bl} (ha:IJ a) (hu:Ea p.fm p.g p.cg p.cf p.cp p.T a):Ev (Ce p.cg p.cf p.cp p.T a)∧∀x∈Ce p.cg p.cf p.cp p.T a,x.1<(AU p.cg p.cf p.cp p.T a).2.2.1∧x.2.length≤48:=by
 obtain ⟨k1,k2,k3,k4,k5⟩:=Po h ha;refine ⟨k4.lay _,fun x hx=>?_⟩;rcases LE hx with hx|hx
 ·rw [hx];refine ⟨?_,ha.b⟩;have h1:=hu.1;have h2:=hu.2.2;rw [←h2];unfold IQ at h1;simp only [Bool.and_eq_true,decide_eq_true_eq] at h1;exact h1.1.2
 ·exact k5 x hx
theorem RR {p:AF} (h:p.OK) {a:Bl} (ha:IJ a):(DO p a).OK:=by
 unfold DO;split
 ·exact ⟨h.fm,h.g,h.held,h.len,h.cg,h.cf,h.cp,h.ris,h.T⟩
 ·split
  ·rename_i hu;obtain ⟨k1,k2,k3,k4,k5⟩:=Po h ha;obtain ⟨n1,n2⟩:=Zf h ha hu;split
   ·split
    ·rename_i f g2 c2 B2 E2 hi;split
     ·have ok:=Hp hi;have hc:=h.clear;exact ⟨hc.fm,ok.right.1.2,fun _=>⟨f,ok⟩,ok.len,hc.cg,hc.cf,hc.cp,hc.ris,hc.T⟩
     ·exact h.clear
    ·exact h.clear
   ·exact ⟨h.fm,h.g,h.held,h.len,k1,k2,k3,n1,n2⟩
  ·exact h
theorem Br.rows {M:List Nat} {q:Nat} {R:List Nat} {w w':World} {vP vE:Value} {B:List BK} {E:List EI} (hq:q∈M) (hR:∀k∈R,k∈M) (hP:Am (Ay M w) vP B) (hE:AR (Ay M w) vE E) (k:Ab (q::R) w w') (N:List Nat) (hN:∀k∈N,w.heap.size≤k):Am (Ay (N++M) w') vP B∧AR (Ay (N++M) w') vE E:=by
 rw [←MT N M w hN] at hP hE
 have hb : Aa (Ay (N ++ M) w) (Ay (N ++ M) w') := k.mono (fun j hj => Or.inl (jU _ (by
   rcases ja.1 hj with e | e
   · rw [e]; exact hq
   · exact hR j e)))
 exact ⟨hP.later hb,hE.later hb⟩
noncomputable def Ju (p:AF) (l:List UInt8):AF:=match DY l with
 |none=>p
 |some a=>DO p a
theorem X9 {p:AF} (h:p.OK) (l:List UInt8):(Ju p l).OK:=by
 unfold Ju;split
 ·exact h
 ·rename_i a ha;exact RR h (IJ.of ha)
def Hc (M:List Nat) (q:Nat) (R:List Nat) (p':AF) (w w':World):Prop:=Ab (q::R) w w'∧∃N R',(∀k∈N,w.heap.size≤k)∧(∀k∈R',k∈R∨k∈N)∧Br (N++M) q p' R' w'
theorem Hc.bel {M:List Nat} {q:Nat} {R:List Nat} {p:AF} {w w':World} (h:Br M q p R w) (k:Aa w w'):Hc M q R p w w':=⟨Ab.of_bel k,[],R,by simp,fun k hk=>Or.inl hk,by simpa using h.later k⟩
theorem SY {p:AF} {a:Bl} (hk:a.1=1) (hu:¬Ea p.fm p.g p.cg p.cf p.cp p.T a):DO p a=p:=by
 unfold DO;rw [if_neg (by rw [hk];simp),if_neg hu]
theorem Te {p:AF} {a:Bl} (hk:a.1=1) (hu:Ea p.fm p.g p.cg p.cf p.cp p.T a) (hl:(Ce p.cg p.cf p.cp p.T a).length≠(AU p.cg p.cf p.cp p.T a).2.2.1):DO p a={p with cg:=(AU p.cg p.cf p.cp p.T a).1,cf:=(AU p.cg p.cf p.cp p.T a).2.1,cp:=(AU p.cg p.cf p.cp p.T a).2.2.1,T:=Ce p.cg p.cf p.cp p.T a,nf:=false}:=by
 unfold DO;rw [if_neg (by rw [hk];simp),if_pos hu,if_neg hl]
theorem QX {p:AF} {a:Bl} {c2:Ac} {B2:List BK} {E2:List EI} (hk:a.1=1) (hu:Ea p.fm p.g p.cg p.cf p.cp p.T a) (hl:(Ce p.cg p.cf p.cp p.T a).length=(AU p.cg p.cf p.cp p.T a).2.2.1) (hi:Bj (Cg (Ce p.cg p.cf p.cp p.T a))=some ((AU p.cg p.cf p.cp p.T a).2.1,(AU p.cg p.cf p.cp p.T a).1,c2,B2,E2)):DO p a={p.clear with g:=(AU p.cg p.cf p.cp p.T a).1,c:=c2,B:=B2,E:=E2}:=by
 unfold DO;rw [if_neg (by rw [hk];simp),if_pos hu,if_pos hl,hi];simp
theorem Wn {p:AF} {a:Bl} (hk:a.1=1) (hu:Ea p.fm p.g p.cg p.cf p.cp p.T a) (hl:(Ce p.cg p.cf p.cp p.T a).length=(AU p.cg p.cf p.cp p.T a).2.2.1) (hi:∀c2 B2 E2,Bj (Cg (Ce p.cg p.cf p.cp p.T a))≠some ((AU p.cg p.cf p.cp p.T a).2.1,(AU p.cg p.cf p.cp p.T a).1,c2,B2,E2)):DO p a=p.clear:=by
 unfold DO;rw [if_neg (by rw [hk];simp),if_pos hu,if_pos hl];cases hI:Bj (Cg (Ce p.cg p.cf p.cp p.T a)) with
 |none=>rfl
 |some y=>
  obtain ⟨f,g2,c2,B2,E2⟩:=y;simp only;rw [if_neg];rintro ⟨e1,e2⟩;rw [e1,e2] at hI;exact hi c2 B2 E2 hI
theorem Qk {M:List Nat} {q:Nat} {p:AF} {vP vE vT:Value} {R:List Nat} {a:Bl} {w w':World} (h1:q∈M) (h2:∀k∈R,k∈M) (hM:∀k∈M,k<w.heap.size) (hg:gl vT=R) (hP:Am (Ay M w) vP p.B) (hE:AR (Ay M w) vE p.E) (hk:a.1=1)
  (h:KR q p.fm p.g p.c vP vE p.cg p.cf p.cp vT p.nf p.T a w (.returned (.tuple #[])) w'):Hc M q R (DO p a) w w':=by
 obtain ⟨-,hB,hres⟩:=h;rw [hg] at hB;refine ⟨hB,?_⟩;rcases hres with ⟨hu,hX,hT⟩|⟨hu,hlen,v',hX,hT,hrow⟩|⟨hu,hlen,hfin⟩
 ·rw [SY hk hu];obtain ⟨r1,r2⟩:=Br.rows h1 h2 hP hE hB [] (by simp);exact ⟨[],R,by simp,fun k hk=>Or.inl hk,h1,fun k hk=>h2 k hk,vP,vE,vT,hX,r1,r2,hT,hg⟩
 ·rw [Te hk hu hlen];obtain ⟨r1,r2⟩:=Br.rows h1 h2 hP hE hB ((gl v').filter fun k=>decide (w.heap.size≤k)) (fun k hk=>by simpa using (List.mem_filter.1 hk).2)
  have hin:∀k∈gl v',k∈R∨k∈(gl v').filter fun k=>decide (w.heap.size≤k):=fun k hk=>by
   have hk2:v'.ownBlock=some k:=by unfold gl at hk;exact Option.mem_toList.1 hk
   rcases hrow k hk2 with h|h
   ·exact Or.inl (by rw [←hg];exact h)
   ·exact Or.inr (List.mem_filter.2 ⟨hk,by simpa using h⟩)
  refine ⟨_,gl v',fun k hk=>by simpa using (List.mem_filter.1 hk).2,hin,jU _ h1,fun k hk=>?_,vP,vE,v',hX,r1,r2,hT,rfl⟩;rcases hin k hk with h|h
  ·exact jU _ (h2 k h)
  ·exact jg _ h
 ·rcases hfin with ⟨c2,B2,E2,vP2,vE2,hi,hX,hoP,hoE⟩|⟨hi,hX⟩
  ·rw [QX hk hu hlen hi];exact ⟨[],[],by simp,fun k hk=>(by cases hk),h1,fun k hk=>(by cases hk),vP2,vE2,.slice none 0 0,hX,Rh hoP hM,Yn hoE hM,World.ownsRow_nil _ _ _ _,rfl⟩
  ·rw [Wn hk hu hlen hi];obtain ⟨r1,r2⟩:=Br.rows h1 h2 hP hE hB [] (by simp);exact ⟨[],[],by simp,fun k hk=>(by cases hk),h1,fun k hk=>(by cases hk),vP,vE,.slice none 0 0,hX,r1,r2,World.ownsRow_nil _ _ _ _,rfl⟩
theorem Um {M:List Nat} {q:Nat} {p:AF} {vP vE vT:Value} {R:List Nat} {a:Bl} {w w':World} (h1:q∈M) (h2:∀k∈R,k∈M) (hM:∀k∈M,k<w.heap.size) (hg:gl vT=R) (hP:Am (Ay M w) vP p.B) (hE:AR (Ay M w) vE p.E)
  (h:My q p.fm p.g p.c vP vE p.cg p.cf p.cp vT p.nf p.T a w (.returned (.tuple #[])) w'):Hc M q R (DO p a) w w':=by
 obtain ⟨-,hB,hres⟩:=h;rw [hg] at hB;rcases hres with ⟨hk,hX,hT⟩|⟨hk,w0,hb,hR⟩
 ·have hT1:DO p a={p with nf:=a.1==2}:=by unfold DO;rw [if_pos hk]
  rw [hT1];obtain ⟨r1,r2⟩:=Br.rows h1 h2 hP hE hB [] (by simp);exact ⟨hB,[],R,by simp,fun k hk=>Or.inl hk,h1,fun k hk=>h2 k hk,vP,vE,vT,hX,r1,r2,hT,hg⟩
 ·have hbm:Aa (Ay M w) (Ay M w0):=(Ab.of_bel (M:=M) hb);obtain ⟨b1,N,R',n1,n2,n3⟩:=Qk h1 h2 (fun k hk=>jN (hM k hk) hb.size) hg (hP.later hbm) (hE.later hbm) hk hR;exact ⟨(Ab.of_bel hb).trans b1,N,R',fun k hk=>jX hb.size (n1 k hk),n2,n3⟩
def Hx (s:Nat) (d:Int) (q:Nat) (w:World):Prop:=Calls Tryz.prog 59 #[.pointer (some ⟨s,0,none⟩),.int .i64 d] w (RQ w (.pointer (some ⟨q,0,none⟩)))
def Oj (s:Nat) (d:Int) (w:World):Prop:=Calls Tryz.prog 59 #[.pointer (some ⟨s,0,none⟩),.int .i64 d] w (RQ w (.pointer none))
theorem Vv {s:Nat} {d:Int} {vL:Value} {ps:List Nat} {w:World} (c9:w.cell? ⟨s,9,none⟩=some vL) (hL:Eu w vL ps):(∀n (h:n<ps.length),d=(n:Int)→Hx s d ps[n] w)∧((d<0∨(ps.length:Int)≤d)→Oj s d w):=by
 have H:=Wj s d vL ps w c9 hL;refine ⟨fun n h e=>?_,fun h=>?_⟩
 ·subst e
  have:Iz ps (n:Int)= .pointer (some ⟨ps[n],0,none⟩):=by
   unfold Iz;rw [if_pos (by omega),Int.toNat_natCast,jG h];rfl
  rw [this] at H;exact H
 ·have:Iz ps d= .pointer none:=by
   unfold Iz;by_cases hd:0≤d
   ·rw [if_pos hd,List.getElem?_eq_none (by omega)];rfl
   ·rw [if_neg hd]
  rw [this] at H
  exact H
def PR (M:List Nat) (q:Nat) (R:List Nat) (p':AF) (w:World) (e:Ending) (w':World):Prop:=e= .returned (.int .i64 0)∧Hc M q R p' w w'
theorem T4 {M:List Nat} {s q:Nat} {d:Int} {p:AF} {R:List Nat} {t:ByteArray} {w:World} (hd:Hx s d q w) (h:Br M q p R w) (hok:p.OK) (hM:∀k∈M,k<w.heap.size) (ht:t.size≤1099511627776):
  Calls Tryz.prog 31 #[.pointer (some ⟨s,0,none⟩),.int .i64 d,.string t] w (PR M q R (Ju p t.data.toList) w):=by
 have h0:=h;obtain ⟨h1,h2,vP,vE,vT,hX,hP,hE,hT,hg⟩:=h;refine (WJ s q d t p.fm p.g p.c vP vE p.cg p.cf p.cp vT p.nf p.T w hd hX hT hok.tlen (fun x hx=>by have:=(hok.T x hx).2;omega) (by have:=hok.fm.2;omega) ht).mono ?_;rintro e w' ⟨rfl,hres⟩;refine ⟨rfl,?_⟩;unfold Ju;cases ha:DY t.data.toList with
 |none=>
  rw [ha] at hres;exact Hc.bel h0 hres
 |some a=>
  rw [ha] at hres;obtain ⟨w0,hb,hR⟩:=hres;have hbm:Aa (Ay M w) (Ay M w0):=Ab.of_bel (M:=M) hb;obtain ⟨b1,N,R',n1,n2,n3⟩:=Um h1 h2 (fun k hk=>jN (hM k hk) hb.size) hg (hP.later hbm) (hE.later hbm) hR;exact ⟨(Ab.of_bel hb).trans b1,N,R',fun k hk=>jX hb.size (n1 k hk),n2,n3⟩
theorem RN {M:List Nat} {s q:Nat} {d:Int} {p:AF} {R:List Nat} {w:World} (hd:Hx s d q w) (h:Br M q p R w):
  Calls Tryz.prog 78 #[.pointer (some ⟨s,0,none⟩),.int .i64 d] w (PR M q R (DX p.fm) w):=by
 obtain ⟨h1,h2,vP,vE,vT,hX,hP,hE,hT,hg⟩:=h;refine (Xc s q d p.fm p.g p.c vP vE p.cg p.cf p.cp vT p.nf w hd hX).mono ?_;rintro e w' ⟨rfl,hB,hX'⟩;exact ⟨rfl,hB.mono (fun k hk=>Or.inl (by simp at hk;subst hk;simp)),[],[],by simp,fun k hk=>(by cases hk),by simpa using Br.ofNew hX' h1⟩
theorem Rc {M:List Nat} {s q:Nat} {d:Int} {p:AF} {R:List Nat} {w:World} (hd:Hx s d q w) (h:Br M q p R w) (hok:p.OK):
  Calls Tryz.prog 29 #[.pointer (some ⟨s,0,none⟩),.int .i64 d] w (Ff w (IS p.g p.fm p.cg p.cf p.T,0)):=by
 obtain ⟨h1,h2,vP,vE,vT,hX,hP,hE,hT,hg⟩:=h;exact QY s q d p.fm p.g p.c vP vE p.cg p.cf p.cp vT p.nf p.T w hd hX hT (by have:=hok.tlen;omega) (by have:=hok.g;omega) (by have:=hok.fm.2;omega) (by have:=hok.cg;omega) (by have:=hok.cf;omega)
theorem QG {M:List Nat} {s q:Nat} {d:Int} {p:AF} {R:List Nat} {w:World} (hd:Hx s d q w) (h:Br M q p R w):
  Calls Tryz.prog 32 #[.pointer (some ⟨s,0,none⟩),.int .i64 d] w (F4 w (Ix p.g p.nf)):=by
 obtain ⟨h1,h2,vP,vE,vT,hX,hP,hE,hT,hg⟩:=h;exact Td s q d p.fm p.g p.c vP vE p.cg p.cf p.cp vT p.nf w hd hX
theorem XE {M:List Nat} {s q:Nat} {d:Int} {k:ByteArray} {p:AF} {R:List Nat} {w:World} (hd:Hx s d q w) (h:Br M q p R w) (hok:p.OK) (hk:k.size≤4611686018427386000):
  Calls Tryz.prog 33 #[.pointer (some ⟨s,0,none⟩),.int .i64 d,.string k] w (EH w (IR p.g p.c p.B p.E k)):=by
 obtain ⟨h1,h2,vP,vE,vT,hX,hP,hE,hT,hg⟩:=h;exact QU s q d k p.fm p.g p.c vP vE p.cg p.cf p.cp vT p.nf p.B p.E w hd hX (Ap.unmask hP) (Ap.unmask hE) (by have:=hok.len;omega) hok.tok hk
theorem MO {M:List Nat} {base:Nat} {e:TypeId} {size:Nat} {w w':World} {v:Value} {n:Nat} {xs:List Value} (h:w.ownsRow base e size v n xs) (k:Ab M w w') (hm:∀g∈gl v,g∉M):w'.ownsRow base e size v n xs:=by
 refine ⟨h.1,?_⟩;rcases h.2 with h1|⟨g,cap,cur,h1,h2,h3,h4⟩
 ·exact Or.inl h1
 ·refine Or.inr ⟨g,cap,cur,h1,h2,?_,h4⟩;have hg:g∈gl v:=by rw [h1];simp [gl,Value.ownBlock]
  have hlt:g<w.heap.size:=by
   rcases Nat.lt_or_ge g w.heap.size with h|h
   ·exact h
   ·rw [Array.getElem?_eq_none h] at h3;cases h3
  exact (k.block g hlt (hm g hg)).trans h3
structure AT where
 c:Ac
 B:List BK
 g:Int
 L:List Nat
 ps:List (Nat×AF×List Nat)
def Bh (ps:List (Nat×AF×List Nat)):List Nat:=ps.flatMap fun y=>y.1::y.2.2
def AT.own (x:AT) (s:Nat):List Nat:=s::(x.L++Bh x.ps)
def AG (M:List Nat) (s:Nat) (x:AT) (w:World):Prop:=∃vL,Bt vL M s x.c x.B x.g w∧Eu w vL (x.ps.map fun y=>y.1)∧gl vL=x.L∧(∀k∈x.L,k∈M)∧(∀y∈x.ps,Br M y.1 y.2.1 y.2.2 w∧y.2.1.OK)∧(x.own s).Nodup∧x.ps.length≤4
theorem Hy {ps:List (Nat×AF×List Nat)} {y:Nat×AF×List Nat} (h:y∈ps):y.1∈Bh ps∧∀k∈y.2.2,k∈Bh ps:=⟨jd.2 ⟨y,h,by simp⟩,fun k hk=>jd.2 ⟨y,h,by simp [hk]⟩⟩
theorem AG.but {M M':List Nat} {s:Nat} {x:AT} {w w':World} (h:AG M s x w) (k:Ab M' w w') (hd:∀j∈M',j∉x.own s) (hs:∀j∈M',j∈M∨w.heap.size≤j):AG M s x w':=by
 obtain ⟨vL,h1,h2,h3,h4,h5,h6,h7⟩:=h;refine ⟨vL,h1.but k (fun hm=>hd s hm (by simp [AT.own])) hs,MO h2 k (fun g hg hm=>hd g hm (by rw [h3] at hg;simp [AT.own,hg])),h3,h4,fun y hy=>⟨?_,(h5 y hy).2⟩,h6,h7⟩;have hb:=Hy hy;exact (h5 y hy).1.but k (fun hm=>hd _ hm (by simp [AT.own,hb.1])) (fun j hj hm=>hd j hm (by simp [AT.own,hb.2 j hj])) hs
theorem AG.later {M:List Nat} {s:Nat} {x:AT} {w w':World} (h:AG M s x w) (k:Aa w w'):AG M s x w':=h.but (M':=[]) (Ab.of_bel k) (by simp) (by simp)
theorem AG.grow {M:List Nat} {s:Nat} {x:AT} {w:World} (h:AG M s x w) (N:List Nat) (hN:∀k∈N,w.heap.size≤k):AG (N++M) s x w:=by
 obtain ⟨vL,h1,h2,h3,h4,h5,h6,h7⟩:=h;exact ⟨vL,h1.grow N hN,h2,h3,fun k hk=>jU _ (h4 k hk),fun y hy=>⟨(h5 y hy).1.grow N hN,(h5 y hy).2⟩,h6,h7⟩
theorem AG.dp {M:List Nat} {s:Nat} {x:AT} {w:World} (h:AG M s x w) (d:Int):(∀n (hn:n<x.ps.length),d=(n:Int)→Hx s d x.ps[n].1 w)∧((d<0∨(x.ps.length:Int)≤d)→Oj s d w):=by
 obtain ⟨vL,h1,h2,h3,h4,h5,h6,h7⟩:=h;obtain ⟨_,_,_,_,_,hF,_⟩:=h1;have:=Vv (s:=s) (d:=d) hF.2.1 h2;refine ⟨fun n hn e=>?_,fun k=>this.2 (by simpa using k)⟩;have h8:=this.1 n (by simpa using hn) e;simpa using h8
theorem AG.pl {M:List Nat} {s:Nat} {x:AT} {w:World} (h:AG M s x w) {n:Nat} (hn:n<x.ps.length):Br M x.ps[n].1 x.ps[n].2.1 x.ps[n].2.2 w∧x.ps[n].2.1.OK:=by
 obtain ⟨vL,h1,h2,h3,h4,h5,h6,h7⟩:=h;exact h5 _ (jJ hn)
end Go.Proofs.YtpapdkhjdelfcabGreat
