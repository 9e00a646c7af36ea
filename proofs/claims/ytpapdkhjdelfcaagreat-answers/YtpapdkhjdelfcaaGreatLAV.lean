import Derived.Test.YtpapdkhjdelfcaaGreatLAU
namespace Go.Proofs.YtpapdkhjdelfcaaGreat
open Go.RowKit
set_option maxRecDepth 100000
set_option maxHeartbeats 4000000
theorem YU {P:Program} {l:Array Oper} {o:Oper} {a:Act} {w:World} {K:Act->World->Prop} {Q:Exit->Act->World->Prop} {E:Prop}
  (C:o.guard=none) (s x:Operand) (t:TypeId) (r:o.op=Op.call {callee:=Callee.builtin Builtin.append,args:=#[s,x],argTypes:=#[t,t]})
  (base:Nat) (e:TypeId) (i:TypeInfo) (z:Value) (b f:Nat) (D:P.underlying t=some (.slice e)) (F:P.info? e=some i) (G:i.zero=some z) (H:i.size=b) (I:i.bytes=f) (J:z.cells.size=b) (L:0<b)
  (v:Value) (n:Nat) (y:List Value) (M:a.eval s=v) (p:w.ownsRow base e b v n y)
  (A:Addr) (m c:Nat) (d:List Value) (N:a.eval x= .slice (some A) m c) (O:d.length=m * b) (R:∀j u,d[j]?=some u->w.cell? (A.add j)=some u) (B:∀u∈d,u.oneCell'=true)
  (S:n+m<=maxLen) (T:(n+m) * f<=140737488355328) (g:base<=w.heap.size)
  (U:∀k w',w'.ownsRow base e b k (n+m) (y++d)->w.grownBy w' v.ownBlock->(k.ownBlock=v.ownBlock\/k.ownBlock=some w.heap.size)->K (a.put o.dst k) w'):
  if Region.wanted o (yielded l a.tmps)=true then Oper.wp P o a w K Q else E:=by
 have V:Region.wanted o (yielded l a.tmps)=true:=by simp [Region.wanted,C]
 rw [if_pos V];obtain ⟨k,w',q,W,X,Y⟩:=OY (P:=P) w base t o.type e i z b f D F G H I J L v n y p A m c d O R B S T g;unfold Oper.wp;simp [execOp,r,resolve,invoke,builtin,M,N,q,Result.andThen];exact U k w' W X Y
theorem Tryz.infoPP:(Tryz.prog.info? 157).map (fun i=>(i.zero,i.size,i.bytes))=some (some (.pointer none),1,8):=by kernel_rfl
def JH (s:Nat) (w w':World):Prop:=(∀o,o≠9->w'.cell? ⟨s,o,none⟩=w.cell? ⟨s,o,none⟩)/\∀o,w'.frozen? ⟨s,o,none⟩=w.frozen? ⟨s,o,none⟩
theorem JH.of {s:Nat} {w b:World} (h:b.heap[s]?=w.heap[s]?) (u:Value):JH s w (b.setCell ⟨s,9,none⟩ u):=
 ⟨fun o c=>(Ad (Or.inr (fun e=>c e.symm))).trans (World.cell?_of_block (a:=⟨s,o,none⟩) h),fun o=>(Ag _ _ _ _).trans (World.frozen?_of_block (a:=⟨s,o,none⟩) h)⟩
theorem JH.bel {s:Nat} {w b c:World} (h:JH s w b) (d:s<b.heap.size) (k:Aa b c):JH s w c:=
 ⟨fun o f=>(World.cell?_of_block (a:=⟨s,o,none⟩) (k.block s d)).trans (h.1 o f),fun o=>(World.frozen?_of_block (a:=⟨s,o,none⟩) (k.block s d)).trans (h.2 o)⟩
def UE (s:Nat) (b:Value) (c:List Nat) (fm:Nat) (w:World) (e:Ending) (w':World):Prop:=
 ∃p a,e= .returned (.tuple #[.int .i64 (c.length:Int),.int .i64 0])/\Ab (s::gl b) w w'/\w.heap.size<=p/\Ae p 208 (FW fm) w'/\w'.cell? ⟨s,9,none⟩=some a/\Eu w' a (c++[p])/\(∀k,a.ownBlock=some k->k∈gl b\/w.heap.size<=k)/\(∀k,a.ownBlock=some k->k≠p/\k≠s)/\JH s w w'
theorem XM (s fm:Nat) (T:Value) (d:List Nat) (w:World) (U:w.cell? ⟨s,9,none⟩=some T) (f9:w.frozen? ⟨s,9,none⟩=false) (V:Eu w T d) (hl:d.length<4) (hf:1<=fm/\fm<=3) (hs:T.ownBlock≠some s):
  Calls Tryz.prog 70 #[.pointer (some ⟨s,0,none⟩),.int .i64 (fm:Int)] w (UE s T d fm w):=by
 obtain ⟨i0,hi,W,X,Y⟩:=info_parts Tryz.infoPP;have C:=fun wx=>Kx (fm:Int) wx
 obtain ⟨B,cap,rfl, -⟩:=V.open;have HL:=jp V;have D:=jp hs;have Z:s<w.heap.size:=jF U;have af:decide ((4:Int)<=(d.length:Int))=false:=jK jo;clear V hs;go_enter Tryz.func70,Tryz.ntmps70;go_wp2_with fail;refine (C _).mono ?_;rintro e w1 ⟨x,rfl,rfl,hx⟩;have aa:x=true:=hx.2 (by unfold Hd;omega);subst aa;clear hx C;go_wp2_with fail
 go_region_law (first
   | (go_simp; go_at_call 118; go_wp2_with (go_at_call 118; refine Calls.mono (Qp fm _) ?_; rintro e l ⟨rfl, m, t, E⟩; have o : Aa w l := (by first | exact m | exact (jB (jD w)).trans m); have ab : Hid (Ae w.heap.size 208 (FW fm) l) := E; have v := jp o; have k9 := o.cell U; have l9 := o.frozen U f9; have ag : w.heap.size < l.heap.size := (by first | exact t | simpa using t); have ad : s < l.heap.size := jo; have ae : s ≠ l.heap.size := jo; clear m E o t))
   | (refine YU rfl (.tmp 19) (.tmp 22) 49 rfl 0 157 i0 (.pointer none) 1 8 Tryz.underlying49 hi W X Y rfl ji (.slice B d.length cap) d.length (Iq d) (by simp [Act.eval]) (World.ownsRow.alloc (HL.out.later v.out) _) ⟨l.heap.size, 0, none⟩ 1 1 [.pointer (some ⟨w.heap.size, 0, none⟩)] (by simp [Act.eval]) rfl (Fz _ _ _ _ js) (fun u hu => by simp at hu; subst hu; rfl) (by unfold maxLen; omega) jo jo ?_
      intro v6 q g c r
      obtain ⟨f, b, rfl⟩ := B8 g
      have n9 : q.cell? ⟨s, 9, none⟩ = some (.slice B d.length cap) := (World.cell?_of_block (a := ⟨s, 9, none⟩) (c.block s (by simp; omega) (fun e => D.out e.symm))).trans (((jD l).step_alloc _).cell k9)
      have o9 : q.frozen? ⟨s, 9, none⟩ = false := (World.frozen?_of_block (a := ⟨s, 9, none⟩) (c.block s (by simp; omega) (fun e => D.out e.symm))).trans (((jD l).step_alloc _).frozen k9 l9)
      have F : Hid (q.heap[s]? = w.heap[s]?) := (c.block s (by simp; omega) (fun e => D.out e.symm)).trans ((v.out.step_alloc _).block s Z)
      have G := jp g
      have y := jp c
      have H := jp r
      clear g c r))
 all_goals
  have hX:Aa w (l.alloc (.cells #[.pointer (some ⟨w.heap.size,0,none⟩)] 157)):=v.out.step_alloc _;have z:∀k,(Value.slice B d.length cap).ownBlock=some k->k<w.heap.size:=fun k n=>(World.ownsRow.lt HL.out k n).2
  have I:Ab (s::gl (.slice B d.length cap)) w q:=Pp hX y.out;have J:Ae w.heap.size 208 (FW fm) q:=(ab.out.alloc _).kept (y.out.block w.heap.size jx (fun e=>by have:=z _ e.symm;omega));have K:(l.alloc (.cells #[.pointer (some ⟨w.heap.size,0,none⟩)] 157)).heap.size=l.heap.size+1:=js
  have i:∀k,(Value.slice f (d.length+1) b).ownBlock=some k->((Value.slice B d.length cap).ownBlock=some k/\k<w.heap.size)\/k=l.heap.size+1:=fun k n=>by
   rcases H.out with e|e
   .rw [e] at n;exact Or.inl ⟨n,z k n⟩
   .rw [n] at e;injection e with e
    exact Or.inr (by first|exact e.trans K|(rw [e];simp))
  have L:(Value.slice f (d.length+1) b).ownBlock≠some s:=fun e=>by
   rcases i s e with ⟨M,h2⟩|h
   .exact D.out M
   .omega
  have N:=jp (I.set (p:=⟨s,9,none⟩) js (.slice f (d.length+1) b));have O:=jp (J.setO (a:=⟨s,9,none⟩) jv (.slice f (d.length+1) b));have A:=jp (Bc (u:= .slice f (d.length+1) b) n9)
  have P:Hid (Eu (q.setCell ⟨s,9,none⟩ (.slice f (d.length+1) b)) (.slice f (d.length+1) b) (d++[w.heap.size])):=by
   show World.ownsRow _ _ _ _ _ _ _;have e:Iq (d++[w.heap.size])=Iq d++[.pointer (some ⟨w.heap.size,0,none⟩)]:=by simp [Iq]
   rw [e,jO];exact ownsRow_setCell_other G.out L _
  have Q:Hid (∀k,(Value.slice f (d.length+1) b).ownBlock=some k->k∈gl (.slice B d.length cap)\/w.heap.size<=k):=fun k n=>by
   rcases i k n with ⟨M,h2⟩|h
   .exact Or.inl (by unfold gl;rw [M];simp)
   .exact Or.inr jo
  have R:Hid (∀k,(Value.slice f (d.length+1) b).ownBlock=some k->k≠w.heap.size/\k≠s):=fun k n=>by
   rcases i k n with ⟨M,h2⟩|h
   .exact ⟨jo,fun e=>D.out (by rw [<-e];exact M)⟩
   .exact ⟨jo,jo⟩
  have S:Hid (JH s w (q.setCell ⟨s,9,none⟩ (.slice f (d.length+1) b))):=JH.of F.out _
  have ac:Hid (s<(q.setCell ⟨s,9,none⟩ (.slice f (d.length+1) b)).heap.size):=by
   show s<_;exact World.block_lt_of_cell? _ _ A.out
  clear F;clear hX I J i L G y H K z;go_wp2;go_ret2
  first
  |exact ⟨w.heap.size,_,rfl,N.out,jH _,O.out,A.out,P.out,Q.out,R.out,S.out⟩
  |exact ⟨w.heap.size,_,rfl,N.out.drew,jH _,O.out.bel ((jD _).step_drew),((jD _).step_drew).cell A.out,P.out.later ((jD _).step_drew),Q.out,R.out,S.out.bel ac.out ((jD _).step_drew)⟩
theorem Xm (s:Nat) (f:Int) (w:World) (c:¬(1<=f/\f<=3)):
  Calls Tryz.prog 70 #[.pointer (some ⟨s,0,none⟩),.int .i64 f] w (F4 w (-1,1)):=by
 have a:=fun g=>Kx f g
 go_enter Tryz.func70,Tryz.ntmps70;go_wp2_with fail;refine (a _).mono ?_;rintro e i ⟨x,rfl,rfl,d⟩
 have b:x=false:=by
  cases x
  .rfl
  .exact absurd (d.1 rfl) c
 subst b;clear d a c;go_wp2;go_ret2;exact ⟨rfl,jq⟩
theorem Ue (s:Nat) (f:Int) (d:Value) (b:List Nat) (w:World) (n:w.cell? ⟨s,9,none⟩=some d) (g:Eu w d b) (o:4<=b.length) (i:1<=f/\f<=3):
  Calls Tryz.prog 70 #[.pointer (some ⟨s,0,none⟩),.int .i64 f] w (F4 w (-1,6)):=by
 have a:=fun l=>Kx f l
 obtain ⟨p,cap,rfl, -⟩:=g.open;have m:decide ((4:Int)<=(b.length:Int))=true:=jL jo;clear g;go_enter Tryz.func70,Tryz.ntmps70;go_wp2_with fail;refine (a _).mono ?_;rintro e q ⟨x,rfl,rfl,k⟩;have c:x=true:=k.2 i;subst c;clear k a i;go_wp2;go_ret2;exact ⟨rfl,jq⟩
theorem Nl:∀(n:Nat) (s r:List Int),(CI n s r).length=s.length
 |0,s,r=>by simp [CI]
 |n+1,s,r=>by
  rw [CI];split
  .rfl
  .rw [Nl n];simp
theorem Wr {W:List (Int×Int)} {S:List Int} {i m:Nat} (b:i<m) (h:∀x∈S, -1<=x/\x<=(m:Int)):∀x∈FP W S i, -1<=x/\x<=(m:Int):=by
 intro x a;unfold FP at a;split at a
 .rcases List.mem_or_eq_of_mem_set a with a|a
  .exact h x a
  .subst a;omega
 .exact h x a
theorem KW {W:List (Int×Int)} {sh:List Int} {r m:Nat} {S:List Int} (h:∀x∈S, -1<=x/\x<=(m:Int)):∀n,n<=m->∀x∈Bu W sh r S n, -1<=x/\x<=(m:Int)
 |0,_=>by simpa [Bu] using h
 |n+1,hn=>by
  rw [Bu];split
  .exact KW h n jo
  .exact Wr jo (KW h n jo)
theorem PD {W:List (Int×Int)} {sh:List Int} {S:List Int} (h:∀x∈S, -1<=x/\x<=(sh.length:Int)):∀r,∀x∈CD W sh S r, -1<=x/\x<=(sh.length:Int)
 |0=>by simpa [CD] using h
 |r+1=>by
  rw [CD];exact KW (PD h r) sh.length (jH _)
theorem PZ {key:ByteArray} {s i:Nat} {id:ByteArray} {m:Int×Int} {M:Nat} (a:i<=M) (h: -1<=m.1/\m.1<=(M:Int)):∀k, -1<=(A6 key s i id m k).1/\(A6 key s i id m k).1<=(M:Int)
 |0=>h
 |k+1=>by
  rw [A6];have:=PZ (key:=key) (s:=s) (id:=id) a h k;split
  .exact ⟨by show -1<=(i:Int);omega,by show (i:Int)<=_;omega⟩
  .exact this
theorem Pv {key:ByteArray} {s:Nat} {B:List BK}:∀n,n<=B.length-> -1<=(AV key s B n).1/\(AV key s B n).1<=(B.length:Int)
 |0,_=>by simp [AV]
 |n+1,hn=>by
  rw [AV];have:=Pv (key:=key) (s:=s) (B:=B) n jo;split
  .exact PZ jo this _
  .exact this
theorem KX {key:ByteArray} {letter:UInt8} {each:Int} {B:List BK}:∀n,n<=B.length->∀e∈AW key letter each B n,(0<=e.1/\e.1<18446744073709551616)/\ -1<=e.2/\e.2<=(B.length:Int)
 |0,_=>by simp [AW]
 |n+1,hn=>by
  intro e a;rw [AW] at a;split at a
  .rename_i b d;rcases jT.1 a with a|a
   .exact KX n jo e a
   .unfold DD at a;obtain ⟨k, -,a⟩:=List.mem_map.1 a;have c:=He key letter [k] b.1;generalize Al key letter [k] b.1=f at *;subst a;exact ⟨c,by show -1<=(n:Int);omega,by show (n:Int)<=_;omega⟩
  .exact KX n jo e a
theorem YE {e x:EI} {l:List EI} (h:x∈Ck e l):x=e\/x∈l:=by
 induction l with
 |nil=>simpa [Ck] using h
 |cons y l ih=>
  rw [Ck] at h;split at h
  .rcases ja.1 h with h|h
   .exact Or.inl h
   .exact Or.inr h
  .rcases ja.1 h with h|h
   .exact Or.inr (by simp [h])
   .rcases ih h with h|h
    .exact Or.inl h
    .exact Or.inr (jW _ h)
theorem KS {L:List EI}:∀n,∀x∈BN L n,x∈L
 |0=>by simp [BN]
 |n+1=>by
  intro x a;rw [BN] at a;split at a
  .rename_i e b;rcases YE a with a|a
   .rw [a];exact List.mem_of_getElem? b
   .exact KS n x a
  .exact KS n x a
theorem NE {key:ByteArray} {letter:UInt8} {each:Int} {B:List BK}:∀e∈Dk key letter each B,(0<=e.1/\e.1<18446744073709551616)/\ -1<=e.2/\e.2<=(B.length:Int):=fun e a=>KX B.length (jH _) e (KS _ e a)
theorem Su (M:Int) (B:List BK):(CJ M B).length<=B.length:=by
 unfold CJ;split
 .simp
 .rw [Nl];simp [Bi]
theorem Wc (c:Ac) (B:List BK):∀e∈An c B,(0<=e.1/\e.1<18446744073709551616)/\ -1<=e.2/\e.2<=(B.length:Int):=by
 intro e a;rw [An] at a;split at a
 .cases a
 split at a
 .obtain ⟨o,b,rfl⟩:=List.mem_map.1 a;have f:=Su c.slots B;have g:=PD (W:=B.map (Cr c)) (sh:=CJ c.slots B) (S:=List.replicate c.slots.toNat (-1)) (fun x d=>by have:=List.eq_of_mem_replicate d;omega) c.slots.toNat o b;exact ⟨⟨js,js⟩,jv,jv⟩
 split at a
 .exact NE e a
 split at a
 .obtain ⟨s,i,rfl⟩:=List.mem_map.1 a;have:=Pv (key:=c.key) (s:=s) (B:=B) B.length (jH _);exact ⟨⟨js,js⟩,this⟩
 split at a
 .exact NE e a
 .cases a
theorem PI (c:Ac) {B:List BK} (a:AL B):∀e∈An c B,Fp e:=fun e b=>by
 have h:=Wc c B e b;have:=a.1;exact ⟨h.1.1,h.1.2,jo,jo⟩
def Ev (T:List TP):Prop:=T.Pairwise fun a b=>a.1<b.1
theorem Nr {T:List TP} {n:Nat}:∀m,m<=T.length->∀j (a:j<T.length),CA T n m<=j->j<m->n<=T[j].1
 |0,_,j,a,h1,h2=>by omega
 |m+1,hm,j,a,h1,h2=>by
  rw [CA] at h1;have b:m<T.length:=jo
  rw [jG b] at h1;simp only at h1;split at h1
  .rename_i c;by_cases d:j=m
   .subst d;exact c
   .exact Nr m jo j a h1 jo
  .omega
theorem Pe {T:List TP} {n:Nat}:∀m,m<=T.length->∀k (a:k<T.length),CA T n m=k+1->T[k].1<n
 |0,_,k,a,h=>by simp [CA] at h
 |m+1,hm,k,a,h=>by
  rw [CA] at h;have b:m<T.length:=jo
  rw [jG b] at h;simp only at h;split at h
  .exact Pe m jo k a h
  .rename_i c;have:k=m:=jo
   subst this;omega
theorem Ev.take_lt {T:List TP} (h:Ev T) {i n:Nat} (g:i<=T.length) (a:∀k (l:k<T.length),i=k+1->T[k].1<n):∀x∈T.take i,x.1<n:=fun x c=>by
 obtain ⟨j,d,rfl⟩:=List.getElem_of_mem c;rw [jk] at d;rw [List.getElem_take];obtain ⟨k,rfl⟩:∃k,i=k+1:=⟨i - 1,jo⟩;have f:=a k jo rfl;by_cases b:j=k
 .subst b;exact f
 .have:=List.pairwise_iff_getElem.1 h j k jo jo jo;omega
theorem Ev.lay {T:List TP} (h:Ev T) (p:TP):Ev (Dm T p):=by
 have l:=Mo T p.1 T.length;have m:=Nr (T:=T) (n:=p.1) T.length (jH _);have o:=Pe (T:=T) (n:=p.1) T.length (jH _);unfold Dm;generalize CA T p.1 T.length=i at *;split
 .rename_i f
  have d:i<T.length:=by
   rcases Nat.lt_or_ge i T.length with h|h
   .exact h
   .rw [List.getElem?_eq_none h] at f;cases f
  have u:T[i].1=p.1:=by simpa [List.getElem?_eq_getElem d] using f
  refine List.pairwise_iff_getElem.2 (fun a b g c q=>?_);rw [List.length_set] at g c;have v:=List.pairwise_iff_getElem.1 h a b g c q;rw [List.getElem_set,List.getElem_set];split
  .rename_i e;subst e;split
   .omega
   .omega
  .split
   .rename_i e;subst e;omega
   .exact v
 .rename_i f;have s:=h.take_lt l (fun k w e=>o k w e)
  have t:∀x∈T.drop i,p.1<x.1:=fun x y=>by
   obtain ⟨j,z,rfl⟩:=List.getElem_of_mem y;rw [jh] at z;rw [List.getElem_drop];have d:i<T.length:=jo
   have A:=m i d (jH _) d;have B:T[i].1≠p.1:=fun e=>f (by simp [List.getElem?_eq_getElem d,e])
   by_cases r:j=0
   .subst r;have e:T[i+0]=T[i]:=rfl;rw [e];omega
   .have:=List.pairwise_iff_getElem.1 h i (i+j) d jo jo;omega
  refine List.pairwise_append.2 ⟨List.Pairwise.sublist (List.take_sublist _ _) h,List.pairwise_cons.2 ⟨t,List.Pairwise.sublist (List.drop_sublist _ _) h⟩,fun a g b c=>?_⟩;rcases ja.1 c with c|c
  .rw [c];exact s a g
  .have:=s a g;have:=t b c;omega
theorem Ev.ge {T:List TP} (h:Ev T):∀j (a:j<T.length),j<=T[j].1
 |0,_=>by omega
 |j+1,a=>by
  have b:=Ev.ge h j jo;have c:=List.pairwise_iff_getElem.1 h j (j+1) jo a jo;omega
theorem Ev.len {T:List TP} {a:Nat} (h:Ev T) (b:∀x∈T,x.1<a):T.length<=a:=by
 rcases Nat.eq_zero_or_pos T.length with c|c
 .omega
 .have d:=h.ge (T.length - 1) jo;have f:=b _ (jJ (by omega:T.length - 1<T.length));omega
structure AF where
 fm:Nat
 g:Nat
 c:Ac
 B:List BK
 E:List EI
 cg:Nat
 cf:Nat
 cp:Nat
 T:List TP
 nf:Bool
structure AF.OK (p:AF):Prop where
 fm:1<=p.fm/\p.fm<=3
 g:p.g<=1073741824
 held:p.g≠0->∃f,IK f p.g p.c p.B p.E
 len:p.E.length<=255
 cg:p.cg<4294967296
 cf:p.cf<256
 cp:p.cp<65536
 ris:Ev p.T
 T:∀x∈p.T,x.1<p.cp/\x.2.length<=48
theorem AF.OK.tlen {p:AF} (h:p.OK):p.T.length<=65535:=by
 have:=h.ris.len (fun x a=>(h.T x a).1);have:=h.cp;omega
theorem AF.OK.tok {p:AF} (h:p.OK):p.g≠0->p.c.TOK:=fun a=>by
 obtain ⟨f,b⟩:=h.held a;exact b.tok
def Br (M:List Nat) (q:Nat) (p:AF) (R:List Nat) (w:World):Prop:=q∈M/\(∀k∈R,k∈M)/\∃b d a,Ae q 208 (BD p.fm p.g p.c b d p.cg p.cf p.cp a p.nf) w/\Am (Ay M w) b p.B/\AR (Ay M w) d p.E/\AN w a p.T/\gl a=R
theorem AN.but {M:List Nat} {w w':World} {v:Value} {T:List TP} (h:AN w v T) (k:Ab M w w') (f:∀g∈gl v,g∉M):AN w' v T:=by
 refine ⟨h.1,?_⟩;rcases h.2 with a|⟨g,cap,b,a,i,c,l⟩
 .exact Or.inl a
 .refine Or.inr ⟨g,cap,b,a,i,?_,l⟩;have m:g∈gl v:=by rw [a];simp [gl,Value.ownBlock]
  have d:g<w.heap.size:=by
   rcases Nat.lt_or_ge g w.heap.size with h|h
   .exact h
   .rw [Array.getElem?_eq_none h] at c;cases c
  exact (k.block g d (f g m)).trans c
theorem Br.but {M M':List Nat} {q:Nat} {p:AF} {R:List Nat} {w w':World} (h:Br M q p R w) (k:Ab M' w w') (d:q∉M') (f:∀j∈R,j∉M') (i:∀j∈M',j∈M\/w.heap.size<=j):Br M q p R w':=by
 obtain ⟨l,m,n,o,r,s,t,u,v,b⟩:=h;have c:Aa (Ay M w) (Ay M w'):=k.mono i;exact ⟨l,m,n,o,r,s.but k d,t.later c,u.later c,v.but k (fun g a=>f g (by rw [<-b];exact a)),b⟩
theorem Br.later {M:List Nat} {q:Nat} {p:AF} {R:List Nat} {w w':World} (h:Br M q p R w) (k:Aa w w'):Br M q p R w':=h.but (M':=[]) (Ab.of_bel k) js js js
theorem Br.lt {M:List Nat} {q:Nat} {p:AF} {R:List Nat} {w:World} (h:Br M q p R w):q<w.heap.size:=by
 obtain ⟨b,c,d,f,g,a,_⟩:=h;exact a.lt
theorem Br.grow {M:List Nat} {q:Nat} {p:AF} {R:List Nat} {w:World} (h:Br M q p R w) (N:List Nat) (c:∀k∈N,w.heap.size<=k):Br (N++M) q p R w:=by
 obtain ⟨d,f,g,i,l,m,a,b,n,o⟩:=h;rw [<-MT N M w c] at a b;exact ⟨jU _ d,fun k r=>jU _ (f k r),g,i,l,m,a,b,n,o⟩
theorem Rh {base:Nat} {M:List Nat} {w:World} {v:Value} {B:List BK} (h:AJ base w v B) (b:∀k∈M,k<base):Am (Ay M w) v B:=by
 rcases AJ.pool h with c|⟨g,cap,a,d,f,i⟩
 .exact Or.inl c
 .refine Or.inr ⟨g,cap,a,d,by rw [Eo];exact f,fun j u l=>Bn.2 ⟨i j u l,fun m=>?_⟩⟩;have n:=(World.ownsRow.lt h g (by rw [a];rfl)).1;have:=b g m;omega
theorem Yn {base:Nat} {M:List Nat} {w:World} {v:Value} {E:List EI} (h:AS base w v E) (b:∀k∈M,k<base):AR (Ay M w) v E:=by
 rcases AS.ents h with c|⟨g,cap,a,d,f,i⟩
 .exact Or.inl c
 .refine Or.inr ⟨g,cap,a,d,by rw [Eo];exact f,fun j u l=>Bn.2 ⟨i j u l,fun m=>?_⟩⟩;have n:=(World.ownsRow.lt h g (by rw [a];rfl)).1;have:=b g m;omega
def DX (fm:Nat):AF:=⟨fm,0,LJ,[],[],0,0,0,[],false⟩
theorem Oc {fm:Nat} (h:1<=fm/\fm<=3):(DX fm).OK:=⟨h,by simp [DX],fun h=>absurd rfl h,by simp [DX],by simp [DX],by simp [DX],by simp [DX],List.Pairwise.nil,fun x a=>by cases a⟩
theorem Br.ofNew {M:List Nat} {q fm:Nat} {w:World} (h:Ae q 208 (FW fm) w) (a:q∈M):Br M q (DX fm) [] w:=
 ⟨a,fun k b=>(by cases b),.slice none 0 0,.slice none 0 0,.slice none 0 0,h,Or.inl ⟨rfl,rfl,rfl⟩,Or.inl ⟨rfl,rfl,rfl⟩,World.ownsRow_nil _ _ _ _,rfl⟩
def AF.clear (p:AF):AF:={p with cg:=0,cf:=0,cp:=0,T:=[],nf:=false}
open Classical in
noncomputable def DO (p:AF) (a:Bl):AF:=if a.1≠1 then {p with nf:=a.1==2} else
 if Ea p.fm p.g p.cg p.cf p.cp p.T a then
  if (Ce p.cg p.cf p.cp p.T a).length=(AU p.cg p.cf p.cp p.T a).2.2.1 then
   match Bj (Cg (Ce p.cg p.cf p.cp p.T a)) with
   |some (f,g2,c2,B2,E2)=>if f=(AU p.cg p.cf p.cp p.T a).2.1/\g2=(AU p.cg p.cf p.cp p.T a).1 then {p.clear with g:=g2,c:=c2,B:=B2,E:=E2} else p.clear
   |none=>p.clear
  else {p with cg:=(AU p.cg p.cf p.cp p.T a).1,cf:=(AU p.cg p.cf p.cp p.T a).2.1,cp:=(AU p.cg p.cf p.cp p.T a).2.2.1,T:=Ce p.cg p.cf p.cp p.T a,nf:=false}
 else p
structure IJ (a:Bl):Prop where
 ok:EO a
 g:a.2.1<4294967296
 f:a.2.2.1<256
 c:a.2.2.2.1<65536
 n:a.2.2.2.2.1<65536
 b:a.2.2.2.2.2.length<=48
theorem IJ.of {l:List UInt8} {a:Bl} (h:DY l=some a):IJ a:=by
 obtain ⟨b,c,d,f,g,i⟩:=Ox h;exact ⟨b,c,d,f,g,i⟩
theorem AF.OK.clear {p:AF} (h:p.OK):p.clear.OK:=⟨h.fm,h.g,h.held,h.len,by simp [AF.clear],by simp [AF.clear],by simp [AF.clear],List.Pairwise.nil,fun x a=>by cases a⟩
theorem Po {p:AF} (h:p.OK) {a:Bl} (b:IJ a):(AU p.cg p.cf p.cp p.T a).1<4294967296/\(AU p.cg p.cf p.cp p.T a).2.1<256/\(AU p.cg p.cf p.cp p.T a).2.2.1<65536/\Ev (AU p.cg p.cf p.cp p.T a).2.2.2/\∀x∈(AU p.cg p.cf p.cp p.T a).2.2.2,x.1<(AU p.cg p.cf p.cp p.T a).2.2.1/\x.2.length<=48:=by
 unfold AU;split
 .exact ⟨b.g,b.f,b.c,List.Pairwise.nil,fun x d=>by cases d⟩
 .exact ⟨h.cg,h.cf,h.cp,h.ris,h.T⟩
theorem Zf {p:AF} (h:p.OK) {a:Bl} (f:IJ a) (i:Ea p.fm p.g p.cg p.cf p.cp p.T a):Ev (Ce p.cg p.cf p.cp p.T a)/\∀x∈Ce p.cg p.cf p.cp p.T a,x.1<(AU p.cg p.cf p.cp p.T a).2.2.1/\x.2.length<=48:=by
 obtain ⟨n,o,q,k,l⟩:=Po h f;refine ⟨k.lay _,fun x c=>?_⟩;rcases LE c with c|c
 .rw [c];refine ⟨?_,f.b⟩;have d:=i.1;have m:=i.2.2;rw [<-m];unfold IQ at d;simp only [Bool.and_eq_true,decide_eq_true_eq] at d;exact d.1.2
 .exact l x c
theorem RR {p:AF} (h:p.OK) {a:Bl} (d:IJ a):(DO p a).OK:=by
 unfold DO;split
 .exact ⟨h.fm,h.g,h.held,h.len,h.cg,h.cf,h.cp,h.ris,h.T⟩
 .split
  .rename_i i;obtain ⟨k,l,m,r,s⟩:=Po h d;obtain ⟨n,o⟩:=Zf h d i;split
   .split
    .rename_i f t u v w q;split
     .have c:=Hp q;have b:=h.clear;exact ⟨b.fm,c.right.1.2,fun _=>⟨f,c⟩,c.len,b.cg,b.cf,b.cp,b.ris,b.T⟩
     .exact h.clear
    .exact h.clear
   .exact ⟨h.fm,h.g,h.held,h.len,k,l,m,n,o⟩
  .exact h
theorem Br.rows {M:List Nat} {q:Nat} {R:List Nat} {w w':World} {a b:Value} {B:List BK} {E:List EI} (g:q∈M) (i:∀k∈R,k∈M) (c:Am (Ay M w) a B) (d:AR (Ay M w) b E) (k:Ab (q::R) w w') (N:List Nat) (l:∀k∈N,w.heap.size<=k):Am (Ay (N++M) w') a B/\AR (Ay (N++M) w') b E:=by
 rw [<-MT N M w l] at c d
 have f : Aa (Ay (N ++ M) w) (Ay (N ++ M) w') := k.mono (fun j m => Or.inl (jU _ (by
   rcases ja.1 m with e | e
   . rw [e]; exact g
   . exact i j e)))
 exact ⟨c.later f,d.later f⟩
noncomputable def Ju (p:AF) (l:List UInt8):AF:=match DY l with
 |none=>p
 |some a=>DO p a
theorem X9 {p:AF} (h:p.OK) (l:List UInt8):(Ju p l).OK:=by
 unfold Ju;split
 .exact h
 .rename_i a b;exact RR h (IJ.of b)
def Hc (M:List Nat) (q:Nat) (R:List Nat) (b:AF) (w w':World):Prop:=Ab (q::R) w w'/\∃N a,(∀k∈N,w.heap.size<=k)/\(∀k∈a,k∈R\/k∈N)/\Br (N++M) q b a w'
theorem Hc.bel {M:List Nat} {q:Nat} {R:List Nat} {p:AF} {w w':World} (h:Br M q p R w) (k:Aa w w'):Hc M q R p w w':=⟨Ab.of_bel k,[],R,js,fun k a=>Or.inl a,by simpa using h.later k⟩
theorem SY {p:AF} {a:Bl} (b:a.1=1) (c:¬Ea p.fm p.g p.cg p.cf p.cp p.T a):DO p a=p:=by
 unfold DO;rw [if_neg (by rw [b];simp),if_neg c]
theorem Te {p:AF} {a:Bl} (b:a.1=1) (c:Ea p.fm p.g p.cg p.cf p.cp p.T a) (d:(Ce p.cg p.cf p.cp p.T a).length≠(AU p.cg p.cf p.cp p.T a).2.2.1):DO p a={p with cg:=(AU p.cg p.cf p.cp p.T a).1,cf:=(AU p.cg p.cf p.cp p.T a).2.1,cp:=(AU p.cg p.cf p.cp p.T a).2.2.1,T:=Ce p.cg p.cf p.cp p.T a,nf:=false}:=by
 unfold DO;rw [if_neg (by rw [b];simp),if_pos c,if_neg d]
theorem QX {p:AF} {a:Bl} {b:Ac} {d:List BK} {f:List EI} (i:a.1=1) (k:Ea p.fm p.g p.cg p.cf p.cp p.T a) (l:(Ce p.cg p.cf p.cp p.T a).length=(AU p.cg p.cf p.cp p.T a).2.2.1) (m:Bj (Cg (Ce p.cg p.cf p.cp p.T a))=some ((AU p.cg p.cf p.cp p.T a).2.1,(AU p.cg p.cf p.cp p.T a).1,b,d,f)):DO p a={p.clear with g:=(AU p.cg p.cf p.cp p.T a).1,c:=b,B:=d,E:=f}:=by
 unfold DO;rw [if_neg (by rw [i];simp),if_pos k,if_pos l,m];simp
theorem Wn {p:AF} {a:Bl} (k:a.1=1) (l:Ea p.fm p.g p.cg p.cf p.cp p.T a) (m:(Ce p.cg p.cf p.cp p.T a).length=(AU p.cg p.cf p.cp p.T a).2.2.1) (n:∀b c d,Bj (Cg (Ce p.cg p.cf p.cp p.T a))≠some ((AU p.cg p.cf p.cp p.T a).2.1,(AU p.cg p.cf p.cp p.T a).1,b,c,d)):DO p a=p.clear:=by
 unfold DO;rw [if_neg (by rw [k];simp),if_pos l,if_pos m];cases i:Bj (Cg (Ce p.cg p.cf p.cp p.T a)) with
 |none=>rfl
 |some y=>
  obtain ⟨f,r,b,c,d⟩:=y;simp only;rw [if_neg];rintro ⟨o,q⟩;rw [o,q] at i;exact n b c d i
theorem Qk {M:List Nat} {q:Nat} {p:AF} {n o A:Value} {R:List Nat} {a:Bl} {w w':World} (f:q∈M) (r:∀k∈R,k∈M) (O:∀k∈M,k<w.heap.size) (C:gl A=R) (D:Am (Ay M w) n p.B) (F:AR (Ay M w) o p.E) (b:a.1=1)
  (h:KR q p.fm p.g p.c n o p.cg p.cf p.cp A p.nf p.T a w (.returned (.tuple #[])) w'):Hc M q R (DO p a) w w':=by
 obtain ⟨-,s,t⟩:=h;rw [C] at s;refine ⟨s,?_⟩;rcases t with ⟨l,i,G⟩|⟨l,d,m,i,G,u⟩|⟨l,d,v⟩
 .rw [SY b l];obtain ⟨x,y⟩:=Br.rows f r D F s [] js;exact ⟨[],R,js,fun k b=>Or.inl b,f,fun k b=>r k b,n,o,A,i,x,y,G,C⟩
 .rw [Te b l d];obtain ⟨x,y⟩:=Br.rows f r D F s ((gl m).filter fun k=>decide (w.heap.size<=k)) (fun k b=>by simpa using (List.mem_filter.1 b).2)
  have z:∀k∈gl m,k∈R\/k∈(gl m).filter fun k=>decide (w.heap.size<=k):=fun k b=>by
   have H:m.ownBlock=some k:=by unfold gl at b;exact Option.mem_toList.1 b
   rcases u k H with h|h
   .exact Or.inl (by rw [<-C];exact h)
   .exact Or.inr (List.mem_filter.2 ⟨b,by simpa using h⟩)
  refine ⟨_,gl m,fun k b=>by simpa using (List.mem_filter.1 b).2,z,jU _ f,fun k b=>?_,n,o,m,i,x,y,G,rfl⟩;rcases z k b with h|h
  .exact jU _ (r k h)
  .exact jg _ h
 .rcases v with ⟨P,Q,S,I,J,K,i,L,N⟩|⟨K,i⟩
  .rw [QX b l d K];exact ⟨[],[],js,fun k b=>(by cases b),f,fun k b=>(by cases b),I,J,.slice none 0 0,i,Rh L O,Yn N O,World.ownsRow_nil _ _ _ _,rfl⟩
  .rw [Wn b l d K];obtain ⟨x,y⟩:=Br.rows f r D F s [] js;exact ⟨[],[],js,fun k b=>(by cases b),f,fun k b=>(by cases b),n,o,.slice none 0 0,i,x,y,World.ownsRow_nil _ _ _ _,rfl⟩
theorem Um {M:List Nat} {q:Nat} {p:AF} {l m n:Value} {R:List Nat} {a:Bl} {w w':World} (o:q∈M) (r:∀k∈R,k∈M) (y:∀k∈M,k<w.heap.size) (s:gl n=R) (v:Am (Ay M w) l p.B) (x:AR (Ay M w) m p.E)
  (h:My q p.fm p.g p.c l m p.cg p.cf p.cp n p.nf p.T a w (.returned (.tuple #[])) w'):Hc M q R (DO p a) w w':=by
 obtain ⟨-,t,d⟩:=h;rw [s] at t;rcases d with ⟨b,z,A⟩|⟨b,C,i,D⟩
 .have u:DO p a={p with nf:=a.1==2}:=by unfold DO;rw [if_pos b]
  rw [u];obtain ⟨F,G⟩:=Br.rows o r v x t [] js;exact ⟨t,[],R,js,fun k b=>Or.inl b,o,fun k b=>r k b,l,m,n,z,F,G,A,s⟩
 .have f:Aa (Ay M w) (Ay M C):=(Ab.of_bel (M:=M) i);obtain ⟨H,N,I,J,K,L⟩:=Qk o r (fun k b=>jN (y k b) i.size) s (v.later f) (x.later f) b D;exact ⟨(Ab.of_bel i).trans H,N,I,fun k b=>jX i.size (J k b),K,L⟩
def Hx (s:Nat) (d:Int) (q:Nat) (w:World):Prop:=Calls Tryz.prog 131 #[.pointer (some ⟨s,0,none⟩),.int .i64 d] w (RQ w (.pointer (some ⟨q,0,none⟩)))
def Oj (s:Nat) (d:Int) (w:World):Prop:=Calls Tryz.prog 131 #[.pointer (some ⟨s,0,none⟩),.int .i64 d] w (RQ w (.pointer none))
theorem Vv {s:Nat} {d:Int} {b:Value} {a:List Nat} {w:World} (f:w.cell? ⟨s,9,none⟩=some b) (g:Eu w b a):(∀n (h:n<a.length),d=(n:Int)->Hx s d a[n] w)/\((d<0\/(a.length:Int)<=d)->Oj s d w):=by
 have H:=Wj s d b a w f g;refine ⟨fun n h e=>?_,fun h=>?_⟩
 .subst e
  have:Iz a (n:Int)= .pointer (some ⟨a[n],0,none⟩):=by
   unfold Iz;rw [if_pos jo,Int.toNat_natCast,jG h];rfl
  rw [this] at H;exact H
 .have:Iz a d= .pointer none:=by
   unfold Iz;by_cases c:0<=d
   .rw [if_pos c,List.getElem?_eq_none jo];rfl
   .rw [if_neg c]
  rw [this] at H
  exact H
def PR (M:List Nat) (q:Nat) (R:List Nat) (a:AF) (w:World) (e:Ending) (w':World):Prop:=e= .returned (.int .i64 0)/\Hc M q R a w w'
theorem T4 {M:List Nat} {s q:Nat} {d:Int} {p:AF} {R:List Nat} {t:ByteArray} {w:World} (o:Hx s d q w) (h:Br M q p R w) (f:p.OK) (r:∀k∈M,k<w.heap.size) (u:t.size<=1099511627776):
  Calls Tryz.prog 79 #[.pointer (some ⟨s,0,none⟩),.int .i64 d,.string t] w (PR M q R (Ju p t.data.toList) w):=by
 have v:=h;obtain ⟨y,z,A,B,C,D,E,F,G,H⟩:=h;refine (WJ s q d t p.fm p.g p.c A B p.cg p.cf p.cp C p.nf p.T w o D G f.tlen (fun x I=>by have:=(f.T x I).2;omega) (by have:=f.fm.2;omega) u).mono ?_;rintro e w' ⟨rfl,b⟩;refine ⟨rfl,?_⟩;unfold Ju;cases n:DY t.data.toList with
 |none=>
  rw [n] at b;exact Hc.bel v b
 |some a=>
  rw [n] at b;obtain ⟨J,l,K⟩:=b;have i:Aa (Ay M w) (Ay M J):=Ab.of_bel (M:=M) l;obtain ⟨L,N,O,P,Q,S⟩:=Um y z (fun k m=>jN (r k m) l.size) H (E.later i) (F.later i) K;exact ⟨(Ab.of_bel l).trans L,N,O,fun k m=>jX l.size (P k m),Q,S⟩
theorem RN {M:List Nat} {s q:Nat} {d:Int} {p:AF} {R:List Nat} {w:World} (f:Hx s d q w) (h:Br M q p R w):
  Calls Tryz.prog 81 #[.pointer (some ⟨s,0,none⟩),.int .i64 d] w (PR M q R (DX p.fm) w):=by
 obtain ⟨i,t,l,m,n,o,u,v,x,y⟩:=h;refine (Xc s q d p.fm p.g p.c l m p.cg p.cf p.cp n p.nf w f o).mono ?_;rintro e w' ⟨rfl,r,b⟩;exact ⟨rfl,r.mono (fun k a=>Or.inl (by simp at a;subst a;simp)),[],[],js,fun k a=>(by cases a),by simpa using Br.ofNew b i⟩
theorem Rc {M:List Nat} {s q:Nat} {d:Int} {p:AF} {R:List Nat} {w:World} (b:Hx s d q w) (h:Br M q p R w) (a:p.OK):
  Calls Tryz.prog 77 #[.pointer (some ⟨s,0,none⟩),.int .i64 d] w (Ff w (IS p.g p.fm p.cg p.cf p.T,0)):=by
 obtain ⟨n,o,f,i,k,l,r,t,m,u⟩:=h;exact QY s q d p.fm p.g p.c f i p.cg p.cf p.cp k p.nf p.T w b l m (by have:=a.tlen;omega) (by have:=a.g;omega) (by have:=a.fm.2;omega) (by have:=a.cg;omega) (by have:=a.cf;omega)
theorem QG {M:List Nat} {s q:Nat} {d:Int} {p:AF} {R:List Nat} {w:World} (a:Hx s d q w) (h:Br M q p R w):
  Calls Tryz.prog 82 #[.pointer (some ⟨s,0,none⟩),.int .i64 d] w (F4 w (Ix p.g p.nf)):=by
 obtain ⟨l,m,b,f,i,k,n,o,r,t⟩:=h;exact Td s q d p.fm p.g p.c b f p.cg p.cf p.cp i p.nf w a k
theorem XE {M:List Nat} {s q:Nat} {d:Int} {k:ByteArray} {p:AF} {R:List Nat} {w:World} (b:Hx s d q w) (h:Br M q p R w) (a:p.OK) (f:k.size<=4611686018427386000):
  Calls Tryz.prog 84 #[.pointer (some ⟨s,0,none⟩),.int .i64 d,.string k] w (EH w (IR p.g p.c p.B p.E k)):=by
 obtain ⟨t,u,i,l,m,n,o,r,v,x⟩:=h;exact QU s q d k p.fm p.g p.c i l p.cg p.cf p.cp m p.nf p.B p.E w b n (Ap.unmask o) (Ap.unmask r) (by have:=a.len;omega) a.tok f
theorem MO {M:List Nat} {base:Nat} {e:TypeId} {a:Nat} {w w':World} {v:Value} {n:Nat} {i:List Value} (h:w.ownsRow base e a v n i) (k:Ab M w w') (l:∀g∈gl v,g∉M):w'.ownsRow base e a v n i:=by
 refine ⟨h.1,?_⟩;rcases h.2 with b|⟨g,cap,c,b,m,d,o⟩
 .exact Or.inl b
 .refine Or.inr ⟨g,cap,c,b,m,?_,o⟩;have p:g∈gl v:=by rw [b];simp [gl,Value.ownBlock]
  have f:g<w.heap.size:=by
   rcases Nat.lt_or_ge g w.heap.size with h|h
   .exact h
   .rw [Array.getElem?_eq_none h] at d;cases d
  exact (k.block g f (l g p)).trans d
structure AT where
 c:Ac
 B:List BK
 g:Int
 L:List Nat
 ps:List (Nat×AF×List Nat)
def Bh (a:List (Nat×AF×List Nat)):List Nat:=a.flatMap fun y=>y.1::y.2.2
def AT.own (x:AT) (s:Nat):List Nat:=s::(x.L++Bh x.ps)
def AG (M:List Nat) (s:Nat) (x:AT) (w:World):Prop:=∃a,Bt a M s x.c x.B x.g w/\Eu w a (x.ps.map fun y=>y.1)/\gl a=x.L/\(∀k∈x.L,k∈M)/\(∀y∈x.ps,Br M y.1 y.2.1 y.2.2 w/\y.2.1.OK)/\(x.own s).Nodup/\x.ps.length<=4
theorem Hy {a:List (Nat×AF×List Nat)} {y:Nat×AF×List Nat} (h:y∈a):y.1∈Bh a/\∀k∈y.2.2,k∈Bh a:=⟨jd.2 ⟨y,h,js⟩,fun k b=>jd.2 ⟨y,h,by simp [b]⟩⟩
theorem AG.but {M M':List Nat} {s:Nat} {x:AT} {w w':World} (h:AG M s x w) (k:Ab M' w w') (b:∀j∈M',j∉x.own s) (d:∀j∈M',j∈M\/w.heap.size<=j):AG M s x w':=by
 obtain ⟨n,o,p,f,q,i,r,t⟩:=h;refine ⟨n,o.but k (fun a=>b s a (by simp [AT.own])) d,MO p k (fun g l a=>b g a (by rw [f] at l;simp [AT.own,l])),f,q,fun y c=>⟨?_,(i y c).2⟩,r,t⟩;have m:=Hy c;exact (i y c).1.but k (fun a=>b _ a (by simp [AT.own,m.1])) (fun j u a=>b j a (by simp [AT.own,m.2 j u])) d
theorem AG.later {M:List Nat} {s:Nat} {x:AT} {w w':World} (h:AG M s x w) (k:Aa w w'):AG M s x w':=h.but (M':=[]) (Ab.of_bel k) js js
theorem AG.grow {M:List Nat} {s:Nat} {x:AT} {w:World} (h:AG M s x w) (N:List Nat) (a:∀k∈N,w.heap.size<=k):AG (N++M) s x w:=by
 obtain ⟨d,f,g,i,l,b,m,n⟩:=h;exact ⟨d,f.grow N a,g,i,fun k o=>jU _ (l k o),fun y c=>⟨(b y c).1.grow N a,(b y c).2⟩,m,n⟩
theorem AG.dp {M:List Nat} {s:Nat} {x:AT} {w:World} (h:AG M s x w) (d:Int):(∀n (a:n<x.ps.length),d=(n:Int)->Hx s d x.ps[n].1 w)/\((d<0\/(x.ps.length:Int)<=d)->Oj s d w):=by
 obtain ⟨g,b,c,i,l,m,o,p⟩:=h;obtain ⟨_,_,_,_,_,hF,_⟩:=b;have:=Vv (s:=s) (d:=d) hF.2.1 c;refine ⟨fun n a e=>?_,fun k=>this.2 (by simpa using k)⟩;have f:=this.1 n (by simpa using a) e;simpa using f
theorem AG.pl {M:List Nat} {s:Nat} {x:AT} {w:World} (h:AG M s x w) {n:Nat} (a:n<x.ps.length):Br M x.ps[n].1 x.ps[n].2.1 x.ps[n].2.2 w/\x.ps[n].2.1.OK:=by
 obtain ⟨c,d,f,g,i,b,k,l⟩:=h;exact b _ (jJ a)
end Go.Proofs.YtpapdkhjdelfcaaGreat
