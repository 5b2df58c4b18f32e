/- The law, over its runs. -/
import Derived.Test.YtopihjpbjknceaaGreatDoorLMATB1
import Derived.Test.YtopihjpbjknceaaGreatDoorLMATB2
import Derived.Test.YtopihjpbjknceaaGreatDoorLMATB3
import Derived.Test.YtopihjpbjknceaaGreatDoorLMATB4
import Derived.Test.YtopihjpbjknceaaGreatDoorLMATB5
import Derived.Test.YtopihjpbjknceaaGreatDoorLMATB6
import Derived.Test.YtopihjpbjknceaaGreatDoorLMATB7
import Derived.Test.YtopihjpbjknceaaGreatDoorLMATB8
set_option maxHeartbeats 16000000
set_option maxRecDepth 100000
namespace Go.Proofs.YtopihjpbjknceaaGreatDoor
open Go.RowKit Cx
variable {N : List Nd} {Z : List Nat} {E : List (Nat × List Atm)} {q : Nat→Rat}
theorem at_pp {x y X Y N A B C D G I J : Rat} (h1 : A=x*X) (h2 : B=y*N) (h3 : C=A+B) (h4 : D=-y) (h5 : G=x*Y) (h6 : I=D*X) (h7 : J=G - I) : C=x*X+y*N∧J=x*Y - -y*X := by
 subst_vars
 exact ⟨rfl,rfl⟩
theorem at_qq {x y c s A B C D G I : Rat} (h1 : A=x*c) (h2 : B=y*s) (h3 : C=A - B) (h4 : D=x*s) (h5 : G=y*c) (h6 : I=D+G) : C=x*c - y*s∧I=x*s+y*c := by
 subst_vars
 exact ⟨rfl,rfl⟩
section
variable {u v a b : Nat} {σ : Nat→ByteArray} {q : Nat→Rat}
theorem at_stepP (e : ∀ (i : Nat) nd,(at_N u v a b)[i]? = some nd→q i=valN σ q nd) : ∀ k,k < 60→q (at_px (k+1))=q (at_px k)*q 7+q (at_py k)*q 10∧q (at_py (k+1))=q (at_px k)*q 8 - -(q (at_py k))*q 7
 | 0,_ => at_pp (e 12 _ rfl) (e 13 _ rfl) (e 14 _ rfl) (e 15 _ rfl) (e 16 _ rfl) (e 17 _ rfl) (e 18 _ rfl)
 | 1,_ => at_pp (e 19 _ rfl) (e 20 _ rfl) (e 21 _ rfl) (e 22 _ rfl) (e 23 _ rfl) (e 24 _ rfl) (e 25 _ rfl)
 | 2,_ => at_pp (e 26 _ rfl) (e 27 _ rfl) (e 28 _ rfl) (e 29 _ rfl) (e 30 _ rfl) (e 31 _ rfl) (e 32 _ rfl)
 | 3,_ => at_pp (e 33 _ rfl) (e 34 _ rfl) (e 35 _ rfl) (e 36 _ rfl) (e 37 _ rfl) (e 38 _ rfl) (e 39 _ rfl)
 | 4,_ => at_pp (e 40 _ rfl) (e 41 _ rfl) (e 42 _ rfl) (e 43 _ rfl) (e 44 _ rfl) (e 45 _ rfl) (e 46 _ rfl)
 | 5,_ => at_pp (e 47 _ rfl) (e 48 _ rfl) (e 49 _ rfl) (e 50 _ rfl) (e 51 _ rfl) (e 52 _ rfl) (e 53 _ rfl)
 | 6,_ => at_pp (e 54 _ rfl) (e 55 _ rfl) (e 56 _ rfl) (e 57 _ rfl) (e 58 _ rfl) (e 59 _ rfl) (e 60 _ rfl)
 | 7,_ => at_pp (e 61 _ rfl) (e 62 _ rfl) (e 63 _ rfl) (e 64 _ rfl) (e 65 _ rfl) (e 66 _ rfl) (e 67 _ rfl)
 | 8,_ => at_pp (e 68 _ rfl) (e 69 _ rfl) (e 70 _ rfl) (e 71 _ rfl) (e 72 _ rfl) (e 73 _ rfl) (e 74 _ rfl)
 | 9,_ => at_pp (e 75 _ rfl) (e 76 _ rfl) (e 77 _ rfl) (e 78 _ rfl) (e 79 _ rfl) (e 80 _ rfl) (e 81 _ rfl)
 | 10,_ => at_pp (e 82 _ rfl) (e 83 _ rfl) (e 84 _ rfl) (e 85 _ rfl) (e 86 _ rfl) (e 87 _ rfl) (e 88 _ rfl)
 | 11,_ => at_pp (e 89 _ rfl) (e 90 _ rfl) (e 91 _ rfl) (e 92 _ rfl) (e 93 _ rfl) (e 94 _ rfl) (e 95 _ rfl)
 | 12,_ => at_pp (e 96 _ rfl) (e 97 _ rfl) (e 98 _ rfl) (e 99 _ rfl) (e 100 _ rfl) (e 101 _ rfl) (e 102 _ rfl)
 | 13,_ => at_pp (e 103 _ rfl) (e 104 _ rfl) (e 105 _ rfl) (e 106 _ rfl) (e 107 _ rfl) (e 108 _ rfl) (e 109 _ rfl)
 | 14,_ => at_pp (e 110 _ rfl) (e 111 _ rfl) (e 112 _ rfl) (e 113 _ rfl) (e 114 _ rfl) (e 115 _ rfl) (e 116 _ rfl)
 | 15,_ => at_pp (e 117 _ rfl) (e 118 _ rfl) (e 119 _ rfl) (e 120 _ rfl) (e 121 _ rfl) (e 122 _ rfl) (e 123 _ rfl)
 | 16,_ => at_pp (e 124 _ rfl) (e 125 _ rfl) (e 126 _ rfl) (e 127 _ rfl) (e 128 _ rfl) (e 129 _ rfl) (e 130 _ rfl)
 | 17,_ => at_pp (e 131 _ rfl) (e 132 _ rfl) (e 133 _ rfl) (e 134 _ rfl) (e 135 _ rfl) (e 136 _ rfl) (e 137 _ rfl)
 | 18,_ => at_pp (e 138 _ rfl) (e 139 _ rfl) (e 140 _ rfl) (e 141 _ rfl) (e 142 _ rfl) (e 143 _ rfl) (e 144 _ rfl)
 | 19,_ => at_pp (e 145 _ rfl) (e 146 _ rfl) (e 147 _ rfl) (e 148 _ rfl) (e 149 _ rfl) (e 150 _ rfl) (e 151 _ rfl)
 | 20,_ => at_pp (e 152 _ rfl) (e 153 _ rfl) (e 154 _ rfl) (e 155 _ rfl) (e 156 _ rfl) (e 157 _ rfl) (e 158 _ rfl)
 | 21,_ => at_pp (e 159 _ rfl) (e 160 _ rfl) (e 161 _ rfl) (e 162 _ rfl) (e 163 _ rfl) (e 164 _ rfl) (e 165 _ rfl)
 | 22,_ => at_pp (e 166 _ rfl) (e 167 _ rfl) (e 168 _ rfl) (e 169 _ rfl) (e 170 _ rfl) (e 171 _ rfl) (e 172 _ rfl)
 | 23,_ => at_pp (e 173 _ rfl) (e 174 _ rfl) (e 175 _ rfl) (e 176 _ rfl) (e 177 _ rfl) (e 178 _ rfl) (e 179 _ rfl)
 | 24,_ => at_pp (e 180 _ rfl) (e 181 _ rfl) (e 182 _ rfl) (e 183 _ rfl) (e 184 _ rfl) (e 185 _ rfl) (e 186 _ rfl)
 | 25,_ => at_pp (e 187 _ rfl) (e 188 _ rfl) (e 189 _ rfl) (e 190 _ rfl) (e 191 _ rfl) (e 192 _ rfl) (e 193 _ rfl)
 | 26,_ => at_pp (e 194 _ rfl) (e 195 _ rfl) (e 196 _ rfl) (e 197 _ rfl) (e 198 _ rfl) (e 199 _ rfl) (e 200 _ rfl)
 | 27,_ => at_pp (e 201 _ rfl) (e 202 _ rfl) (e 203 _ rfl) (e 204 _ rfl) (e 205 _ rfl) (e 206 _ rfl) (e 207 _ rfl)
 | 28,_ => at_pp (e 208 _ rfl) (e 209 _ rfl) (e 210 _ rfl) (e 211 _ rfl) (e 212 _ rfl) (e 213 _ rfl) (e 214 _ rfl)
 | 29,_ => at_pp (e 215 _ rfl) (e 216 _ rfl) (e 217 _ rfl) (e 218 _ rfl) (e 219 _ rfl) (e 220 _ rfl) (e 221 _ rfl)
 | 30,_ => at_pp (e 222 _ rfl) (e 223 _ rfl) (e 224 _ rfl) (e 225 _ rfl) (e 226 _ rfl) (e 227 _ rfl) (e 228 _ rfl)
 | 31,_ => at_pp (e 229 _ rfl) (e 230 _ rfl) (e 231 _ rfl) (e 232 _ rfl) (e 233 _ rfl) (e 234 _ rfl) (e 235 _ rfl)
 | 32,_ => at_pp (e 236 _ rfl) (e 237 _ rfl) (e 238 _ rfl) (e 239 _ rfl) (e 240 _ rfl) (e 241 _ rfl) (e 242 _ rfl)
 | 33,_ => at_pp (e 243 _ rfl) (e 244 _ rfl) (e 245 _ rfl) (e 246 _ rfl) (e 247 _ rfl) (e 248 _ rfl) (e 249 _ rfl)
 | 34,_ => at_pp (e 250 _ rfl) (e 251 _ rfl) (e 252 _ rfl) (e 253 _ rfl) (e 254 _ rfl) (e 255 _ rfl) (e 256 _ rfl)
 | 35,_ => at_pp (e 257 _ rfl) (e 258 _ rfl) (e 259 _ rfl) (e 260 _ rfl) (e 261 _ rfl) (e 262 _ rfl) (e 263 _ rfl)
 | 36,_ => at_pp (e 264 _ rfl) (e 265 _ rfl) (e 266 _ rfl) (e 267 _ rfl) (e 268 _ rfl) (e 269 _ rfl) (e 270 _ rfl)
 | 37,_ => at_pp (e 271 _ rfl) (e 272 _ rfl) (e 273 _ rfl) (e 274 _ rfl) (e 275 _ rfl) (e 276 _ rfl) (e 277 _ rfl)
 | 38,_ => at_pp (e 278 _ rfl) (e 279 _ rfl) (e 280 _ rfl) (e 281 _ rfl) (e 282 _ rfl) (e 283 _ rfl) (e 284 _ rfl)
 | 39,_ => at_pp (e 285 _ rfl) (e 286 _ rfl) (e 287 _ rfl) (e 288 _ rfl) (e 289 _ rfl) (e 290 _ rfl) (e 291 _ rfl)
 | 40,_ => at_pp (e 292 _ rfl) (e 293 _ rfl) (e 294 _ rfl) (e 295 _ rfl) (e 296 _ rfl) (e 297 _ rfl) (e 298 _ rfl)
 | 41,_ => at_pp (e 299 _ rfl) (e 300 _ rfl) (e 301 _ rfl) (e 302 _ rfl) (e 303 _ rfl) (e 304 _ rfl) (e 305 _ rfl)
 | 42,_ => at_pp (e 306 _ rfl) (e 307 _ rfl) (e 308 _ rfl) (e 309 _ rfl) (e 310 _ rfl) (e 311 _ rfl) (e 312 _ rfl)
 | 43,_ => at_pp (e 313 _ rfl) (e 314 _ rfl) (e 315 _ rfl) (e 316 _ rfl) (e 317 _ rfl) (e 318 _ rfl) (e 319 _ rfl)
 | 44,_ => at_pp (e 320 _ rfl) (e 321 _ rfl) (e 322 _ rfl) (e 323 _ rfl) (e 324 _ rfl) (e 325 _ rfl) (e 326 _ rfl)
 | 45,_ => at_pp (e 327 _ rfl) (e 328 _ rfl) (e 329 _ rfl) (e 330 _ rfl) (e 331 _ rfl) (e 332 _ rfl) (e 333 _ rfl)
 | 46,_ => at_pp (e 334 _ rfl) (e 335 _ rfl) (e 336 _ rfl) (e 337 _ rfl) (e 338 _ rfl) (e 339 _ rfl) (e 340 _ rfl)
 | 47,_ => at_pp (e 341 _ rfl) (e 342 _ rfl) (e 343 _ rfl) (e 344 _ rfl) (e 345 _ rfl) (e 346 _ rfl) (e 347 _ rfl)
 | 48,_ => at_pp (e 348 _ rfl) (e 349 _ rfl) (e 350 _ rfl) (e 351 _ rfl) (e 352 _ rfl) (e 353 _ rfl) (e 354 _ rfl)
 | 49,_ => at_pp (e 355 _ rfl) (e 356 _ rfl) (e 357 _ rfl) (e 358 _ rfl) (e 359 _ rfl) (e 360 _ rfl) (e 361 _ rfl)
 | 50,_ => at_pp (e 362 _ rfl) (e 363 _ rfl) (e 364 _ rfl) (e 365 _ rfl) (e 366 _ rfl) (e 367 _ rfl) (e 368 _ rfl)
 | 51,_ => at_pp (e 369 _ rfl) (e 370 _ rfl) (e 371 _ rfl) (e 372 _ rfl) (e 373 _ rfl) (e 374 _ rfl) (e 375 _ rfl)
 | 52,_ => at_pp (e 376 _ rfl) (e 377 _ rfl) (e 378 _ rfl) (e 379 _ rfl) (e 380 _ rfl) (e 381 _ rfl) (e 382 _ rfl)
 | 53,_ => at_pp (e 383 _ rfl) (e 384 _ rfl) (e 385 _ rfl) (e 386 _ rfl) (e 387 _ rfl) (e 388 _ rfl) (e 389 _ rfl)
 | 54,_ => at_pp (e 390 _ rfl) (e 391 _ rfl) (e 392 _ rfl) (e 393 _ rfl) (e 394 _ rfl) (e 395 _ rfl) (e 396 _ rfl)
 | 55,_ => at_pp (e 397 _ rfl) (e 398 _ rfl) (e 399 _ rfl) (e 400 _ rfl) (e 401 _ rfl) (e 402 _ rfl) (e 403 _ rfl)
 | 56,_ => at_pp (e 404 _ rfl) (e 405 _ rfl) (e 406 _ rfl) (e 407 _ rfl) (e 408 _ rfl) (e 409 _ rfl) (e 410 _ rfl)
 | 57,_ => at_pp (e 411 _ rfl) (e 412 _ rfl) (e 413 _ rfl) (e 414 _ rfl) (e 415 _ rfl) (e 416 _ rfl) (e 417 _ rfl)
 | 58,_ => at_pp (e 418 _ rfl) (e 419 _ rfl) (e 420 _ rfl) (e 421 _ rfl) (e 422 _ rfl) (e 423 _ rfl) (e 424 _ rfl)
 | 59,_ => at_pp (e 425 _ rfl) (e 426 _ rfl) (e 427 _ rfl) (e 428 _ rfl) (e 429 _ rfl) (e 430 _ rfl) (e 431 _ rfl)
 | k+60,h => absurd h (by omega)
theorem at_stepQ (e : ∀ (i : Nat) nd,(at_N u v a b)[i]? = some nd→q i=valN σ q nd) : ∀ k,k < 60→q (at_vx (k+1))=q (at_vx k)*q 0 - q (at_vy k)*q v∧q (at_vy (k+1))=q (at_vx k)*q v+q (at_vy k)*q 0
 | 0,_ => at_qq (e 437 _ rfl) (e 438 _ rfl) (e 439 _ rfl) (e 440 _ rfl) (e 441 _ rfl) (e 442 _ rfl)
 | 1,_ => at_qq (e 443 _ rfl) (e 444 _ rfl) (e 445 _ rfl) (e 446 _ rfl) (e 447 _ rfl) (e 448 _ rfl)
 | 2,_ => at_qq (e 449 _ rfl) (e 450 _ rfl) (e 451 _ rfl) (e 452 _ rfl) (e 453 _ rfl) (e 454 _ rfl)
 | 3,_ => at_qq (e 455 _ rfl) (e 456 _ rfl) (e 457 _ rfl) (e 458 _ rfl) (e 459 _ rfl) (e 460 _ rfl)
 | 4,_ => at_qq (e 461 _ rfl) (e 462 _ rfl) (e 463 _ rfl) (e 464 _ rfl) (e 465 _ rfl) (e 466 _ rfl)
 | 5,_ => at_qq (e 467 _ rfl) (e 468 _ rfl) (e 469 _ rfl) (e 470 _ rfl) (e 471 _ rfl) (e 472 _ rfl)
 | 6,_ => at_qq (e 473 _ rfl) (e 474 _ rfl) (e 475 _ rfl) (e 476 _ rfl) (e 477 _ rfl) (e 478 _ rfl)
 | 7,_ => at_qq (e 479 _ rfl) (e 480 _ rfl) (e 481 _ rfl) (e 482 _ rfl) (e 483 _ rfl) (e 484 _ rfl)
 | 8,_ => at_qq (e 485 _ rfl) (e 486 _ rfl) (e 487 _ rfl) (e 488 _ rfl) (e 489 _ rfl) (e 490 _ rfl)
 | 9,_ => at_qq (e 491 _ rfl) (e 492 _ rfl) (e 493 _ rfl) (e 494 _ rfl) (e 495 _ rfl) (e 496 _ rfl)
 | 10,_ => at_qq (e 497 _ rfl) (e 498 _ rfl) (e 499 _ rfl) (e 500 _ rfl) (e 501 _ rfl) (e 502 _ rfl)
 | 11,_ => at_qq (e 503 _ rfl) (e 504 _ rfl) (e 505 _ rfl) (e 506 _ rfl) (e 507 _ rfl) (e 508 _ rfl)
 | 12,_ => at_qq (e 509 _ rfl) (e 510 _ rfl) (e 511 _ rfl) (e 512 _ rfl) (e 513 _ rfl) (e 514 _ rfl)
 | 13,_ => at_qq (e 515 _ rfl) (e 516 _ rfl) (e 517 _ rfl) (e 518 _ rfl) (e 519 _ rfl) (e 520 _ rfl)
 | 14,_ => at_qq (e 521 _ rfl) (e 522 _ rfl) (e 523 _ rfl) (e 524 _ rfl) (e 525 _ rfl) (e 526 _ rfl)
 | 15,_ => at_qq (e 527 _ rfl) (e 528 _ rfl) (e 529 _ rfl) (e 530 _ rfl) (e 531 _ rfl) (e 532 _ rfl)
 | 16,_ => at_qq (e 533 _ rfl) (e 534 _ rfl) (e 535 _ rfl) (e 536 _ rfl) (e 537 _ rfl) (e 538 _ rfl)
 | 17,_ => at_qq (e 539 _ rfl) (e 540 _ rfl) (e 541 _ rfl) (e 542 _ rfl) (e 543 _ rfl) (e 544 _ rfl)
 | 18,_ => at_qq (e 545 _ rfl) (e 546 _ rfl) (e 547 _ rfl) (e 548 _ rfl) (e 549 _ rfl) (e 550 _ rfl)
 | 19,_ => at_qq (e 551 _ rfl) (e 552 _ rfl) (e 553 _ rfl) (e 554 _ rfl) (e 555 _ rfl) (e 556 _ rfl)
 | 20,_ => at_qq (e 557 _ rfl) (e 558 _ rfl) (e 559 _ rfl) (e 560 _ rfl) (e 561 _ rfl) (e 562 _ rfl)
 | 21,_ => at_qq (e 563 _ rfl) (e 564 _ rfl) (e 565 _ rfl) (e 566 _ rfl) (e 567 _ rfl) (e 568 _ rfl)
 | 22,_ => at_qq (e 569 _ rfl) (e 570 _ rfl) (e 571 _ rfl) (e 572 _ rfl) (e 573 _ rfl) (e 574 _ rfl)
 | 23,_ => at_qq (e 575 _ rfl) (e 576 _ rfl) (e 577 _ rfl) (e 578 _ rfl) (e 579 _ rfl) (e 580 _ rfl)
 | 24,_ => at_qq (e 581 _ rfl) (e 582 _ rfl) (e 583 _ rfl) (e 584 _ rfl) (e 585 _ rfl) (e 586 _ rfl)
 | 25,_ => at_qq (e 587 _ rfl) (e 588 _ rfl) (e 589 _ rfl) (e 590 _ rfl) (e 591 _ rfl) (e 592 _ rfl)
 | 26,_ => at_qq (e 593 _ rfl) (e 594 _ rfl) (e 595 _ rfl) (e 596 _ rfl) (e 597 _ rfl) (e 598 _ rfl)
 | 27,_ => at_qq (e 599 _ rfl) (e 600 _ rfl) (e 601 _ rfl) (e 602 _ rfl) (e 603 _ rfl) (e 604 _ rfl)
 | 28,_ => at_qq (e 605 _ rfl) (e 606 _ rfl) (e 607 _ rfl) (e 608 _ rfl) (e 609 _ rfl) (e 610 _ rfl)
 | 29,_ => at_qq (e 611 _ rfl) (e 612 _ rfl) (e 613 _ rfl) (e 614 _ rfl) (e 615 _ rfl) (e 616 _ rfl)
 | 30,_ => at_qq (e 617 _ rfl) (e 618 _ rfl) (e 619 _ rfl) (e 620 _ rfl) (e 621 _ rfl) (e 622 _ rfl)
 | 31,_ => at_qq (e 623 _ rfl) (e 624 _ rfl) (e 625 _ rfl) (e 626 _ rfl) (e 627 _ rfl) (e 628 _ rfl)
 | 32,_ => at_qq (e 629 _ rfl) (e 630 _ rfl) (e 631 _ rfl) (e 632 _ rfl) (e 633 _ rfl) (e 634 _ rfl)
 | 33,_ => at_qq (e 635 _ rfl) (e 636 _ rfl) (e 637 _ rfl) (e 638 _ rfl) (e 639 _ rfl) (e 640 _ rfl)
 | 34,_ => at_qq (e 641 _ rfl) (e 642 _ rfl) (e 643 _ rfl) (e 644 _ rfl) (e 645 _ rfl) (e 646 _ rfl)
 | 35,_ => at_qq (e 647 _ rfl) (e 648 _ rfl) (e 649 _ rfl) (e 650 _ rfl) (e 651 _ rfl) (e 652 _ rfl)
 | 36,_ => at_qq (e 653 _ rfl) (e 654 _ rfl) (e 655 _ rfl) (e 656 _ rfl) (e 657 _ rfl) (e 658 _ rfl)
 | 37,_ => at_qq (e 659 _ rfl) (e 660 _ rfl) (e 661 _ rfl) (e 662 _ rfl) (e 663 _ rfl) (e 664 _ rfl)
 | 38,_ => at_qq (e 665 _ rfl) (e 666 _ rfl) (e 667 _ rfl) (e 668 _ rfl) (e 669 _ rfl) (e 670 _ rfl)
 | 39,_ => at_qq (e 671 _ rfl) (e 672 _ rfl) (e 673 _ rfl) (e 674 _ rfl) (e 675 _ rfl) (e 676 _ rfl)
 | 40,_ => at_qq (e 677 _ rfl) (e 678 _ rfl) (e 679 _ rfl) (e 680 _ rfl) (e 681 _ rfl) (e 682 _ rfl)
 | 41,_ => at_qq (e 683 _ rfl) (e 684 _ rfl) (e 685 _ rfl) (e 686 _ rfl) (e 687 _ rfl) (e 688 _ rfl)
 | 42,_ => at_qq (e 689 _ rfl) (e 690 _ rfl) (e 691 _ rfl) (e 692 _ rfl) (e 693 _ rfl) (e 694 _ rfl)
 | 43,_ => at_qq (e 695 _ rfl) (e 696 _ rfl) (e 697 _ rfl) (e 698 _ rfl) (e 699 _ rfl) (e 700 _ rfl)
 | 44,_ => at_qq (e 701 _ rfl) (e 702 _ rfl) (e 703 _ rfl) (e 704 _ rfl) (e 705 _ rfl) (e 706 _ rfl)
 | 45,_ => at_qq (e 707 _ rfl) (e 708 _ rfl) (e 709 _ rfl) (e 710 _ rfl) (e 711 _ rfl) (e 712 _ rfl)
 | 46,_ => at_qq (e 713 _ rfl) (e 714 _ rfl) (e 715 _ rfl) (e 716 _ rfl) (e 717 _ rfl) (e 718 _ rfl)
 | 47,_ => at_qq (e 719 _ rfl) (e 720 _ rfl) (e 721 _ rfl) (e 722 _ rfl) (e 723 _ rfl) (e 724 _ rfl)
 | 48,_ => at_qq (e 725 _ rfl) (e 726 _ rfl) (e 727 _ rfl) (e 728 _ rfl) (e 729 _ rfl) (e 730 _ rfl)
 | 49,_ => at_qq (e 731 _ rfl) (e 732 _ rfl) (e 733 _ rfl) (e 734 _ rfl) (e 735 _ rfl) (e 736 _ rfl)
 | 50,_ => at_qq (e 737 _ rfl) (e 738 _ rfl) (e 739 _ rfl) (e 740 _ rfl) (e 741 _ rfl) (e 742 _ rfl)
 | 51,_ => at_qq (e 743 _ rfl) (e 744 _ rfl) (e 745 _ rfl) (e 746 _ rfl) (e 747 _ rfl) (e 748 _ rfl)
 | 52,_ => at_qq (e 749 _ rfl) (e 750 _ rfl) (e 751 _ rfl) (e 752 _ rfl) (e 753 _ rfl) (e 754 _ rfl)
 | 53,_ => at_qq (e 755 _ rfl) (e 756 _ rfl) (e 757 _ rfl) (e 758 _ rfl) (e 759 _ rfl) (e 760 _ rfl)
 | 54,_ => at_qq (e 761 _ rfl) (e 762 _ rfl) (e 763 _ rfl) (e 764 _ rfl) (e 765 _ rfl) (e 766 _ rfl)
 | 55,_ => at_qq (e 767 _ rfl) (e 768 _ rfl) (e 769 _ rfl) (e 770 _ rfl) (e 771 _ rfl) (e 772 _ rfl)
 | 56,_ => at_qq (e 773 _ rfl) (e 774 _ rfl) (e 775 _ rfl) (e 776 _ rfl) (e 777 _ rfl) (e 778 _ rfl)
 | 57,_ => at_qq (e 779 _ rfl) (e 780 _ rfl) (e 781 _ rfl) (e 782 _ rfl) (e 783 _ rfl) (e 784 _ rfl)
 | 58,_ => at_qq (e 785 _ rfl) (e 786 _ rfl) (e 787 _ rfl) (e 788 _ rfl) (e 789 _ rfl) (e 790 _ rfl)
 | 59,_ => at_qq (e 791 _ rfl) (e 792 _ rfl) (e 793 _ rfl) (e 794 _ rfl) (e 795 _ rfl) (e 796 _ rfl)
 | k+60,h => absurd h (by omega)
theorem at_one {s n d : Nat} {x : Rat} (h : valN σ q (0,[s,n,d])=x) {y : Rat} (e : y=valN σ q (0,[s,n,d])) : y=x := e.trans h
theorem at_pow (e : ∀ (i : Nat) nd,(at_N u v a b)[i]? = some nd→q i=valN σ q nd) (h : ¬ (q 7=0∧q 8=0)) : ∀ k,k≤60→¬ (q (at_px k)=0∧q (at_py k)=0)
 | 0,_ => fun g => by
  have h9 : q 9=1 := (e 9 _ rfl).trans (show cst 0 1 1=1 by decide +kernel)
  have : q 9=0 := g.1
  rw [h9] at this
  exact absurd this (by decide)
 | k+1,hk => by
  have h10 : q 10=-q 8 := e 10 _ rfl
  obtain ⟨g1,g2⟩ := at_stepP e k (by omega)
  exact cmul_ne (at_pow e h k (by omega)) h (g1.trans (by rw [h10]; grind)) (g2.trans (by grind))
theorem at_back (e : ∀ (i : Nat) nd,(at_N u v a b)[i]? = some nd→q i=valN σ q nd) {m : Nat} (hm : m≤60) {l r s : Rat} (h7 : q 7=q 0*l) (h8 : q 8=s*l) (hv : q v=-s) (t0 : q 432=q (at_px m)*r) (t1 : q 433=q (at_py m)*r) :
  ∀ k,k≤m→∃ p,q (at_vx k)=p*q (at_px (m - k))∧q (at_vy k)=p*q (at_py (m - k))
 | 0,_ => ⟨r,by rw [Nat.sub_zero,Rat.mul_comm]; exact t0,by rw [Nat.sub_zero,Rat.mul_comm]; exact t1⟩
 | k+1,hk => by
  obtain ⟨p,i1,i2⟩ := at_back e hm h7 h8 hv t0 t1 k (by omega)
  have h10 : q 10=-q 8 := e 10 _ rfl
  obtain ⟨g1,g2⟩ := at_stepP e (m - (k+1)) (by omega)
  rw [show m - (k+1)+1=m - k by omega] at g1 g2
  obtain ⟨f1,f2⟩ := at_stepQ e k (by omega)
  refine ⟨p*l*(q 0*q 0+s*s),?_,?_⟩
  ·rw [f1,i1,i2,g1,g2,h10,h7,h8,hv]
   grind
  ·rw [f2,i1,i2,g1,g2,h10,h7,h8,hv]
   grind
theorem at_all {m : Nat} (e : ∀ (i : Nat) nd,(at_N u v (at_px m) (at_py m))[i]? = some nd→q i=valN σ q nd) (hm : m≤60) (hu : q v=-q u) (hz : ¬ (q 0=0∧q 1=0)) (hz' : ¬ (q 0=0∧q u=0)) : hAll q (at_H m) := by
 have e2 : q 2=q 0*q 0 := e 2 _ rfl
 have e3 : q 3=q 1*q 1 := e 3 _ rfl
 have e4 : q 4=q 2+q 3 := e 4 _ rfl
 have e5 : q 5=q 3+q 2 := e 5 _ rfl
 have e7 : q 7=q 0*fac [q 0,q u] := e 7 _ rfl
 have e8 : q 8=q u*fac [q 0,q u] := e 8 _ rfl
 have f0 : fac [q 0,q u] ≠ 0 := fun h => hz' ⟨fac_zero (by simp) h,fac_zero (by simp) h⟩
 have h78 : ¬ (q 7=0∧q 8=0) := fun g => by
  rw [e7,e8] at g
  exact hz' ⟨(Rat.mul_eq_zero.1 g.1).resolve_right f0,(Rat.mul_eq_zero.1 g.2).resolve_right f0⟩
 have hP := at_pow e h78 m hm
 have t0 : q 432=q (at_px m)*fac [q (at_px m),q (at_py m)] := e 432 _ rfl
 have t1 : q 433=q (at_py m)*fac [q (at_px m),q (at_py m)] := e 433 _ rfl
 have g0 : fac [q (at_px m),q (at_py m)] ≠ 0 := fun h => hP ⟨fac_zero (by simp) h,fac_zero (by simp) h⟩
 have s2 : q 434=q 433*q 433 := e 434 _ rfl
 have s3 : q 435=q 432*q 432 := e 435 _ rfl
 have s4 : q 436=q 434+q 435 := e 436 _ rfl
 have hT0 : ¬ (q 432=0∧q 433=0) := fun g => by
  rw [t0,t1] at g
  exact hP ⟨(Rat.mul_eq_zero.1 g.1).resolve_right g0,(Rat.mul_eq_zero.1 g.2).resolve_right g0⟩
 obtain ⟨p,_,hb⟩ := at_back e hm e7 e8 hu t0 t1 m (Nat.le_refl _)
 rw [Nat.sub_self] at hb
 have h11 : q 11=0 := (e 11 _ rfl).trans (show cst 0 0 1=0 by decide +kernel)
 have hb' : q (at_vy m)=0 := by
  rw [hb,show q (at_py 0)=0 from h11,Rat.mul_zero]
 have n4 : ¬ q 4=0 := by have := sq_pos hz; grind
 have n5 : ¬ q 5=0 := by have := sq_pos hz; grind
 have n6 : ¬ q 436=0 := by have := sq_pos hT0; grind
 unfold at_H
 exact ⟨hF n4,hF n5,hF n6,hF hP,hT hb',trivial⟩
end
theorem at_runp : ∀ m,m≤60→(callD (sx Tryz.prog (at_N 1 6 (at_px m) (at_py m)) (at_H m) [] [] [] at_Z (prC [5])) at_cs at_Gp 5 [] 3 (at_A ((m : Nat) : Int)) [] 0).map (·.1)=some (kB true)
 | 0,_ => at_r0
 | 1,_ => at_r1
 | 2,_ => at_r2
 | 3,_ => at_r3
 | 4,_ => at_r4
 | 5,_ => at_r5
 | 6,_ => at_r6
 | 7,_ => at_r7
 | 8,_ => at_r8
 | 9,_ => at_r9
 | 10,_ => at_r10
 | 11,_ => at_r11
 | 12,_ => at_r12
 | 13,_ => at_r13
 | 14,_ => at_r14
 | 15,_ => at_r15
 | 16,_ => at_r16
 | 17,_ => at_r17
 | 18,_ => at_r18
 | 19,_ => at_r19
 | 20,_ => at_r20
 | 21,_ => at_r21
 | 22,_ => at_r22
 | 23,_ => at_r23
 | 24,_ => at_r24
 | 25,_ => at_r25
 | 26,_ => at_r26
 | 27,_ => at_r27
 | 28,_ => at_r28
 | 29,_ => at_r29
 | 30,_ => at_r30
 | 31,_ => at_r31
 | 32,_ => at_r32
 | 33,_ => at_r33
 | 34,_ => at_r34
 | 35,_ => at_r35
 | 36,_ => at_r36
 | 37,_ => at_r37
 | 38,_ => at_r38
 | 39,_ => at_r39
 | 40,_ => at_r40
 | 41,_ => at_r41
 | 42,_ => at_r42
 | 43,_ => at_r43
 | 44,_ => at_r44
 | 45,_ => at_r45
 | 46,_ => at_r46
 | 47,_ => at_r47
 | 48,_ => at_r48
 | 49,_ => at_r49
 | 50,_ => at_r50
 | 51,_ => at_r51
 | 52,_ => at_r52
 | 53,_ => at_r53
 | 54,_ => at_r54
 | 55,_ => at_r55
 | 56,_ => at_r56
 | 57,_ => at_r57
 | 58,_ => at_r58
 | 59,_ => at_r59
 | 60,_ => at_r60
 | m+61,h => absurd h (by omega)
theorem at_wfp : ((List.range 61).all fun m => wfB 0 (at_N 1 6 (at_px m) (at_py m)))=true := by kernel_rfl
theorem at_szp : ((List.range 61).all fun m => saB at_E 0 (at_N 1 6 (at_px m) (at_py m)) at_E at_Z)=true := by kernel_rfl
theorem at_runn : ∀ m,0 < m→m≤60→(callD (sx Tryz.prog (at_N 6 1 (at_px m) (at_py m)) (at_H m) [] [] [] at_Z (prC [5])) at_cs at_Gn 5 [] 3 (at_A (-((m : Nat) : Int))) [] 0).map (·.1)=some (kB true)
 | 0,h,_ => absurd h (by omega)
 | 1,_,_ => at_r1001
 | 2,_,_ => at_r1002
 | 3,_,_ => at_r1003
 | 4,_,_ => at_r1004
 | 5,_,_ => at_r1005
 | 6,_,_ => at_r1006
 | 7,_,_ => at_r1007
 | 8,_,_ => at_r1008
 | 9,_,_ => at_r1009
 | 10,_,_ => at_r1010
 | 11,_,_ => at_r1011
 | 12,_,_ => at_r1012
 | 13,_,_ => at_r1013
 | 14,_,_ => at_r1014
 | 15,_,_ => at_r1015
 | 16,_,_ => at_r1016
 | 17,_,_ => at_r1017
 | 18,_,_ => at_r1018
 | 19,_,_ => at_r1019
 | 20,_,_ => at_r1020
 | 21,_,_ => at_r1021
 | 22,_,_ => at_r1022
 | 23,_,_ => at_r1023
 | 24,_,_ => at_r1024
 | 25,_,_ => at_r1025
 | 26,_,_ => at_r1026
 | 27,_,_ => at_r1027
 | 28,_,_ => at_r1028
 | 29,_,_ => at_r1029
 | 30,_,_ => at_r1030
 | 31,_,_ => at_r1031
 | 32,_,_ => at_r1032
 | 33,_,_ => at_r1033
 | 34,_,_ => at_r1034
 | 35,_,_ => at_r1035
 | 36,_,_ => at_r1036
 | 37,_,_ => at_r1037
 | 38,_,_ => at_r1038
 | 39,_,_ => at_r1039
 | 40,_,_ => at_r1040
 | 41,_,_ => at_r1041
 | 42,_,_ => at_r1042
 | 43,_,_ => at_r1043
 | 44,_,_ => at_r1044
 | 45,_,_ => at_r1045
 | 46,_,_ => at_r1046
 | 47,_,_ => at_r1047
 | 48,_,_ => at_r1048
 | 49,_,_ => at_r1049
 | 50,_,_ => at_r1050
 | 51,_,_ => at_r1051
 | 52,_,_ => at_r1052
 | 53,_,_ => at_r1053
 | 54,_,_ => at_r1054
 | 55,_,_ => at_r1055
 | 56,_,_ => at_r1056
 | 57,_,_ => at_r1057
 | 58,_,_ => at_r1058
 | 59,_,_ => at_r1059
 | 60,_,_ => at_r1060
 | m+61,_,h => absurd h (by omega)
theorem at_wfn : ((List.range 61).all fun m => wfB 0 (at_N 6 1 (at_px m) (at_py m)))=true := by kernel_rfl
theorem at_szn : ((List.range 61).all fun m => saB at_E 0 (at_N 6 1 (at_px m) (at_py m)) at_E at_Z)=true := by kernel_rfl
theorem at_Cl : ∀ f ∈ [5],Closed f := fun f h => by
 rw [List.mem_singleton] at h
 subst h
 exact closed_angled
def AtCalls (w : World) (s c : ByteArray) (n : Int) : Prop := Calls Tryz.prog 3 #[.agg #[.string s,.string c],.int .i64 n] w fun e w' => Below w.heap.size w w'∧e=.returned (.bool true)
theorem at_wp {w : World} {s c : ByteArray} {m : Nat} (hm : m≤60) (ss : s.size≤1048576) (sc : c.size≤1048576) (hz : ¬ (rd c.data.toList=0∧rd s.data.toList=0)) (hp : PreS w) : AtCalls w s c ((m : Nat) : Int) := by
 have hw := List.all_eq_true.1 at_wfp m (List.mem_range.2 (by omega))
 have hs := List.all_eq_true.1 at_szp m (List.mem_range.2 (by omega))
 obtain ⟨q,hq,h0⟩ := nodes_exist (sgOf [s,c]) (at_N 1 6 (at_px m) (at_py m)) hw
 have hz' : ¬ (q 0=0∧q 1=0) := by
  rw [show q 0=rd c.data.toList from hq 0 _ rfl,show q 1=rd s.data.toList from hq 1 _ rfl]
  exact hz
 have hσ : ∀ j,(sgOf [s,c] j).size≤1048576 := sgOf_size (by simp [ss,sc])
 have Y := hy_ofA (L := []) (C := []) hσ hw hs rfl rfl hq h0 (at_all hq hm (show q 6=-q 1 from hq 6 _ rfl) hz' hz')
 have Y0 := hy_ofA (L := []) (C := []) (H := []) hσ hw hs rfl rfl hq h0 trivial
 exact run_toldD' (K := []) 5 Y at_Cl (by kernel_rfl) hp (at_memop Y0 at_Cl (by kernel_rfl) hp) (at_runp m hm) ⟨⟨⟨[.string s,.string c],rfl,rfl,rfl,trivial⟩,trivial⟩,⟨⟨⟨rfl,rfl⟩,trivial⟩,trivial⟩,trivial⟩
theorem at_wn {w : World} {s c : ByteArray} {m : Nat} (h1 : 0 < m) (hm : m≤60) (ss : s.size≤1048576) (sc : c.size≤1048576) (hz : ¬ (rd c.data.toList=0∧rd s.data.toList=0)) (hp : PreS w) : AtCalls w s c (-((m : Nat) : Int)) := by
 have hw := List.all_eq_true.1 at_wfn m (List.mem_range.2 (by omega))
 have hs := List.all_eq_true.1 at_szn m (List.mem_range.2 (by omega))
 obtain ⟨q,hq,h0⟩ := nodes_exist (sgOf [s,c]) (at_N 6 1 (at_px m) (at_py m)) hw
 have hz' : ¬ (q 0=0∧q 1=0) := by
  rw [show q 0=rd c.data.toList from hq 0 _ rfl,show q 1=rd s.data.toList from hq 1 _ rfl]
  exact hz
 have hσ : ∀ j,(sgOf [s,c] j).size≤1048576 := sgOf_size (by simp [ss,sc])
 have Y := hy_ofA (L := []) (C := []) hσ hw hs rfl rfl hq h0 (at_all hq hm (show q 1=-q 6 from by rw [show q 6=-q 1 from hq 6 _ rfl]; grind) hz' (fun g => hz' ⟨g.1,by have h6 : q 6=-q 1 := hq 6 _ rfl; have := g.2; grind⟩))
 have Y0 := hy_ofA (L := []) (C := []) (H := []) hσ hw hs rfl rfl hq h0 trivial
 exact run_toldD' (K := []) 5 Y at_Cl (by kernel_rfl) hp (at_memon Y0 at_Cl (by kernel_rfl) hp) (at_runn m h1 hm) ⟨⟨⟨[.string s,.string c],rfl,rfl,rfl,trivial⟩,trivial⟩,⟨⟨⟨rfl,rfl⟩,trivial⟩,trivial⟩,trivial⟩
theorem at_flat : (callC (sx Tryz.prog [(1,[2]),(1,[1]),(1,[0]),(4,[1,1]),(4,[2,2]),(2,[3,4]),(2,[4,3])] [(0,5,0,1),(0,6,0,1)] [] [] [] [4194309,4194309,4194309,8388618,8388618,16777237,16777237] (prC [5])) at_cs 5 [] 3 [vA [.inr (2,0,0,0,0),.inr (2,1,0,0,0)],v1 (.inr (0,6,0,0,0))] [] 0).map (·.1)=some (kB true) := by kernel_rfl
theorem at_wflat {w : World} {s c : ByteArray} {n : Int} (sn : (tellS ((n : Int) : Rat)).size≤1048576) (ss : s.size≤1048576) (sc : c.size≤1048576) (hz : rd c.data.toList=0∧rd s.data.toList=0) (hp : PreS w) : AtCalls w s c n := by
 obtain ⟨q,hq,h0⟩ := nodes_exist (sgOf [s,c,tellS ((n : Int) : Rat)]) [(1,[2]),(1,[1]),(1,[0]),(4,[1,1]),(4,[2,2]),(2,[3,4]),(2,[4,3])] (by kernel_rfl)
 have e0 : q 0=((n : Int) : Rat) := (hq 0 _ rfl).trans (rd_tx _)
 have e1 : q 1=rd c.data.toList := hq 1 _ rfl
 have e2 : q 2=rd s.data.toList := hq 2 _ rfl
 have e3 : q 3=q 1*q 1 := hq 3 _ rfl
 have e4 : q 4=q 2*q 2 := hq 4 _ rfl
 have e5 : q 5=q 3+q 4 := hq 5 _ rfl
 have e6 : q 6=q 4+q 3 := hq 6 _ rfl
 have z1 : q 1=0 := e1.trans hz.1
 have z2 : q 2=0 := e2.trans hz.2
 have n5 : q 5=0 := by rw [e5,e3,e4,z1,z2]; decide +kernel
 have n6 : q 6=0 := by rw [e6,e3,e4,z1,z2]; decide +kernel
 exact run_toldC' 5 (hy_of (H := [(0,5,0,1),(0,6,0,1)]) (sgOf_size (by simp [ss,sc,sn])) (by kernel_rfl) (by kernel_rfl) rfl rfl hq h0 ⟨hT n5,hT n6,trivial⟩) at_Cl (by kernel_rfl) at_flat hp
  ⟨⟨⟨[.string s,.string c],rfl,rfl,rfl,trivial⟩,trivial⟩,⟨⟨⟨n,rfl,e0.symm⟩,trivial⟩,trivial⟩,trivial⟩
theorem at_high : (callC (sx Tryz.prog [(1,[2]),(1,[1]),(1,[0]),(4,[1,1]),(4,[2,2]),(2,[3,4]),(0,[1,60,1]),(3,[0,6]),(0,[0,60,1]),(3,[0,8]),(2,[4,3])] [(0,5,0,0),(1,7,0,0),(2,9,0,1),(0,10,0,0)] [] [] [] [4194309,4194309,4194309,8388618,8388618,16777237,7,4194317,7,4194317,16777237] (prC [5])) at_cs 5 [] 3 [vA [.inr (2,0,0,0,0),.inr (2,1,0,0,0)],v1 (.inr (0,6,0,0,0))] [] 0).map (·.1)=some (kB true) := by kernel_rfl
theorem at_whigh {w : World} {s c : ByteArray} {n : Int} (sn : (tellS ((n : Int) : Rat)).size≤1048576) (ss : s.size≤1048576) (sc : c.size≤1048576) (hz : ¬ (rd c.data.toList=0∧rd s.data.toList=0)) (hn : 60 < n) (hp : PreS w) : AtCalls w s c n := by
 obtain ⟨q,hq,h0⟩ := nodes_exist (sgOf [s,c,tellS ((n : Int) : Rat)]) [(1,[2]),(1,[1]),(1,[0]),(4,[1,1]),(4,[2,2]),(2,[3,4]),(0,[1,60,1]),(3,[0,6]),(0,[0,60,1]),(3,[0,8]),(2,[4,3])] (by kernel_rfl)
 have e0 : q 0=((n : Int) : Rat) := (hq 0 _ rfl).trans (rd_tx _)
 have e1 : q 1=rd c.data.toList := hq 1 _ rfl
 have e2 : q 2=rd s.data.toList := hq 2 _ rfl
 have e3 : q 3=q 1*q 1 := hq 3 _ rfl
 have e4 : q 4=q 2*q 2 := hq 4 _ rfl
 have e5 : q 5=q 3+q 4 := hq 5 _ rfl
 have hz' : ¬ (q 1=0∧q 2=0) := by rw [e1,e2]; exact hz
 have n5 : ¬ q 5=0 := by have := sq_pos hz'; grind
 have e7 : q 7=q 0 - q 6 := hq 7 _ rfl
 have e9 : q 9=q 0 - q 8 := hq 9 _ rfl
 have e10 : q 10=q 4+q 3 := hq 10 _ rfl
 have e6 : q 6=((-60 : Int) : Rat) := (hq 6 _ rfl).trans (show cst 1 60 1=((-60 : Int) : Rat) by decide +kernel)
 have e8 : q 8=((60 : Int) : Rat) := (hq 8 _ rfl).trans (show cst 0 60 1=((60 : Int) : Rat) by decide +kernel)
 have i1 : ((60 : Int) : Rat) < ((n : Int) : Rat) := Rat.intCast_lt_intCast.2 hn
 have i2 : ((-60 : Int) : Rat) < ((n : Int) : Rat) := Rat.intCast_lt_intCast.2 (by omega)
 have n7 : ¬ q 7 < 0 := by grind
 have n9 : 0 < q 9 := by grind
 have n10 : ¬ q 10=0 := by grind
 exact run_toldC' 5 (hy_of (H := [(0,5,0,0),(1,7,0,0),(2,9,0,1),(0,10,0,0)]) (sgOf_size (by simp [ss,sc,sn])) (by kernel_rfl) (by kernel_rfl) rfl rfl hq h0 ⟨hF n5,hF n7,hT n9,hF n10,trivial⟩) at_Cl (by kernel_rfl) at_high hp
  ⟨⟨⟨[.string s,.string c],rfl,rfl,rfl,trivial⟩,trivial⟩,⟨⟨⟨n,rfl,e0.symm⟩,trivial⟩,trivial⟩,trivial⟩
theorem at_low : (callC (sx Tryz.prog [(1,[2]),(1,[1]),(1,[0]),(4,[1,1]),(4,[2,2]),(2,[3,4]),(0,[1,60,1]),(3,[0,6]),(2,[4,3])] [(0,5,0,0),(1,7,0,1),(0,8,0,0)] [] [] [] [4194309,4194309,4194309,8388618,8388618,16777237,7,4194317,16777237] (prC [5])) at_cs 5 [] 3 [vA [.inr (2,0,0,0,0),.inr (2,1,0,0,0)],v1 (.inr (0,6,0,0,0))] [] 0).map (·.1)=some (kB true) := by kernel_rfl
theorem at_wlow {w : World} {s c : ByteArray} {n : Int} (sn : (tellS ((n : Int) : Rat)).size≤1048576) (ss : s.size≤1048576) (sc : c.size≤1048576) (hz : ¬ (rd c.data.toList=0∧rd s.data.toList=0)) (hn : n < -60) (hp : PreS w) : AtCalls w s c n := by
 obtain ⟨q,hq,h0⟩ := nodes_exist (sgOf [s,c,tellS ((n : Int) : Rat)]) [(1,[2]),(1,[1]),(1,[0]),(4,[1,1]),(4,[2,2]),(2,[3,4]),(0,[1,60,1]),(3,[0,6]),(2,[4,3])] (by kernel_rfl)
 have e0 : q 0=((n : Int) : Rat) := (hq 0 _ rfl).trans (rd_tx _)
 have e1 : q 1=rd c.data.toList := hq 1 _ rfl
 have e2 : q 2=rd s.data.toList := hq 2 _ rfl
 have e3 : q 3=q 1*q 1 := hq 3 _ rfl
 have e4 : q 4=q 2*q 2 := hq 4 _ rfl
 have e5 : q 5=q 3+q 4 := hq 5 _ rfl
 have hz' : ¬ (q 1=0∧q 2=0) := by rw [e1,e2]; exact hz
 have n5 : ¬ q 5=0 := by have := sq_pos hz'; grind
 have e7 : q 7=q 0 - q 6 := hq 7 _ rfl
 have e8 : q 8=q 4+q 3 := hq 8 _ rfl
 have e6 : q 6=((-60 : Int) : Rat) := (hq 6 _ rfl).trans (show cst 1 60 1=((-60 : Int) : Rat) by decide +kernel)
 have i2 : ((n : Int) : Rat) < ((-60 : Int) : Rat) := Rat.intCast_lt_intCast.2 hn
 have n7 : q 7 < 0 := by grind
 have n8 : ¬ q 8=0 := by grind
 exact run_toldC' 5 (hy_of (H := [(0,5,0,0),(1,7,0,1),(0,8,0,0)]) (sgOf_size (by simp [ss,sc,sn])) (by kernel_rfl) (by kernel_rfl) rfl rfl hq h0 ⟨hF n5,hT n7,hF n8,trivial⟩) at_Cl (by kernel_rfl) at_low hp
  ⟨⟨⟨[.string s,.string c],rfl,rfl,rfl,trivial⟩,trivial⟩,⟨⟨⟨n,rfl,e0.symm⟩,trivial⟩,trivial⟩,trivial⟩
theorem at_walk {w : World} {s c : ByteArray} {n : Int} (sn : (tellS ((n : Int) : Rat)).size≤1048576) (ss : s.size≤1048576) (sc : c.size≤1048576) (tab : Tab w) (mx : MaxL w) :
  Calls Tryz.prog 3 #[.agg #[.string s,.string c],.int .i64 n] w fun e w' => Below w.heap.size w w'∧e=.returned (.bool true) := by
 by_cases hz : rd c.data.toList=0∧rd s.data.toList=0
 ·exact at_wflat sn ss sc hz ⟨tab,mx⟩
 by_cases h1 : 60 < n
 ·exact at_whigh sn ss sc hz h1 ⟨tab,mx⟩
 by_cases h2 : n < -60
 ·exact at_wlow sn ss sc hz h2 ⟨tab,mx⟩
 by_cases h3 : n < 0
 ·have := at_wn (w := w) (s := s) (c := c) (m := (-n).toNat) (by omega) (by omega) ss sc hz ⟨tab,mx⟩
  rw [show (-((((-n).toNat : Nat)) : Int))=n by omega] at this
  exact this
 ·have := at_wp (w := w) (s := s) (c := c) (m := n.toNat) (by omega) ss sc hz ⟨tab,mx⟩
  rw [show ((n.toNat : Nat) : Int)=n by omega] at this
  exact this
end Go.Proofs.YtopihjpbjknceaaGreatDoor
